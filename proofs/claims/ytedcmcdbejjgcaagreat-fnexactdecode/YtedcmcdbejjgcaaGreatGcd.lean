import Derived.Test.YtedcmcdbejjgcaaGreatGaa
import Derived.Test.YtedcmcdbejjgcaaGreatGcb
import Derived.Test.YtedcmcdbejjgcaaGreatGcc
import Derived.Deep.MidRow
import Derived.BigFrame
set_option linter.all false
set_option maxHeartbeats 400000000
set_option maxRecDepth 100000
namespace Go.Proofs.YtedcmcdbejjgcaaGreat.Ms
open Go.RowKit Go.Sort
def tI (x:Imp):Nat:=1+Qu x+x.mod.size+x.nm.size
def tE (x:Exp):Nat:=1+Q4 x+x.nm.size
def tC (x:Cus):Nat:=1+Ju x+x.nm.size
section
variable {L c:Nat} {bs:List Int}
theorem gr_nameN (E:Int)(d:bs.length<=L)(p:Nat):Gr L (λs=>c+9+s.size) c p (Xa bs E p):=by
 unfold Xa
 refine Qf (gr_size E d p) λn p1=>?_
 intro v b e
 cases hM:Jn bs n.toNat p1 p1 with
 |bad er a=>rw [hM] at e;cases e
 |ok u p2 =>
  rw [hM] at e;have h:=gr_nameG (c:=0) d _ _ _ u p2 hM
  cases e
  have f:(strOfNums ((bs.drop p1).take (b-p1))).size<=b-p1:=by rw [strOfNums_size];simp;omega
  exact ⟨by dsimp only;omega,h.2⟩
theorem gr_impN (E:Int)(d:bs.length<=L)(p:Nat):Gr L (λx=>c+tI x) c p (XK bs E p):=Qf (gr_nameN E d p) λa p1=>Qf (gr_nameN E d p1) λb p2=>Qf (Gc _ d p2) λk p3=>QV (Qf (Xc d p3) λt p4=>QH (by simp only [tI,Qu];omega)) (QV (Qf (gr_tab d p3) λt p4=>QH (by simp only [tI,Qu];omega)) (QV (Qf (gr_lim d p3) λt p4=>QH (by simp only [tI,Qu];omega)) (Qf (gr_gty d p3) λt p4=>QH (by simp only [tI,Qu];omega))))
theorem gr_expN (E:Int)(b:bs.length<=L)(p:Nat):Gr L (λx=>c+tE x) c p (expM bs E p):=Qf (gr_nameN E b p) λa p1=>Qf (Gc _ b p1) λk p2=>Qf (Xc b p2) λi p3=>QH (by simp only [tE,Q4];omega)
theorem gr_cusN (d E:Int)(f:bs.length<=L)(p:Nat):Gr L (λx=>c+tC x) c p (Gy d bs E p):=Qf (gr_nameN E f p) λa p1=>Qf (gr_bytes _ f p1) λb p2=>QH (by simp only [tC,Ju];omega)
end
def wN (m:Mod):Nat:=Qb (s1 QT) m.types+Qb tI m.imps+m.funcs.length+Qb (s1 Qo) m.tabs+Qb (s1 Qo) m.mems+Qb (s1 QG) m.globs+Qb tE m.exps+Qb (s1 Ja) m.elems+Qb (s1 Je) m.codes+Qb (s1 Jo) m.datas+Qb tC m.customs
theorem gr_secN (k b:Int)(m:Mod){L c:Nat}{bs:List Int}(a:bs.length<=L)(E:Int)(p:Nat):Gr L (λm'=>c+wN m') (c+wN m) p (Jk k b m bs E p):=by
 unfold Jk
 refine QV (Qf (gr_cusN b E a p) λx p1=>QH (by simp only [wN,QR];omega)) ?_
 refine QV (Qf (JV (sz:=s1 QT) (λc p=>gr_ft a p) a p) λx p1=>QH (by simp only [wN,QL];omega)) ?_
 refine QV (Qf (JV (sz:=tI) (λc p=>gr_impN E a p) a p) λx p1=>QH (by simp only [wN,QL];omega)) ?_
 refine QV (Qf (JV (sz:=λ_=>1) (λc p=>(Xc a p).le λ_=>by omega) a p) λx p1=>QH (by simp only [wN,List.length_append,sz_one];omega)) ?_
 refine QV (Qf (JV (sz:=s1 Qo) (λc p=>(gr_tab a p).le λ_=>by simp only [s1,Qo];omega) a p) λx p1=>QH (by simp only [wN,QL];omega)) ?_
 refine QV (Qf (JV (sz:=s1 Qo) (λc p=>(gr_lim a p).le λ_=>by simp only [s1,Qo];omega) a p) λx p1=>QH (by simp only [wN,QL];omega)) ?_
 refine QV (Qf (JV (sz:=s1 QG) (λc p=>gr_glob a p) a p) λx p1=>QH (by simp only [wN,QL];omega)) ?_
 refine QV (Qf (JV (sz:=tE) (λc p=>gr_expN E a p) a p) λx p1=>QH (by simp only [wN,QL];omega)) ?_
 refine QV (Qf (Xc a p) λx p1=>QH (by simp only [wN];omega)) ?_
 refine QV (Qf (JV (sz:=s1 Ja) (λc p=>gr_ele a p) a p) λx p1=>QH (by simp only [wN];omega)) ?_
 refine QV (Qf (Xc a p) λn p1=>QV (Qf (gr_rep0 (sz:=s1 Je) (λc p=>gr_within (f:=s1 Je) (λbs hb E c p=>gr_bod E hb p) a E p) _ p1) λx p2=>QH (by simp only [wN];omega)) JD) ?_
 exact Qf (JV (sz:=s1 Jo) (λc p=>gr_dat E a p) a p) λx p1=>QH (by simp only [wN];omega)
theorem gr_modGN {L:Nat}{bs:List Int}(d:bs.length<=L):∀ (f:Nat) (m:Mod) (last b:Int) (p:Nat),Gr L wN (wN m) p (Gq bs f m last b p)
 |0,m,last,b,p=>by unfold Gq;exact JD
 |f+1,m,last,b,p=>by
  unfold Gq
  refine QV ?_ (QV JD (QH lR))
  refine Qf (f:=λ_=>wN m) (Qf (Gb d p) λx p1=>QV JD (QV JD (QH (by omega)))) λk p1=>?_
  refine Qf (f:=λm'=>wN m') ?_ λm' p2=>gr_modGN d f m' _ _ p2
  refine Qf ((gr_size JH d p1).le (g:=λ_=>wN m) (λ_=>by omega)) λn p2=>?_
  intro v l e
  have j:=gr_secN k b m (c:=0) (bs:=bs.take (p2+n.toNat)) (L:=L) (by simp;omega) (p2+n) p2
  cases hM:Jk k b m (bs.take (p2+n.toNat)) (p2+n) p2 with
  |bad er a =>
   rw [hM] at e
   simp only at e
   split at e
   · split at e<;>cases e
   . cases e
  |ok x p3 =>
   rw [hM] at e
   simp only at e
   split at e
   · split at e<;>cases e
   . cases e
     have:=j _ _ hM
     exact ⟨by have:=this.1;simp only [Nat.zero_add] at this;exact this,this.2⟩
theorem wN_dec (bs:List Int):wN (XG bs).m<=589824:=by
 unfold XG
 split
 · exact Nat.zero_le _
 . rename_i b
   have h:=Qf (gr_hd (L:=bs.length) lR 8 0) (g:=wN) (k:=λ_ p=>Gq bs (bs.length+1) Mod.z 0 0 p) λv p1=>gr_modGN lR _ Mod.z 0 0 p1
   cases hM:JM bs with
   |bad e a=>exact Nat.zero_le _
   |ok m p =>
    have:=h m p hM
    have c:=this.2 (Nat.zero_le _)
    show wN m<=589824
    omega
theorem sz_at {α:Type}{sz:α->Nat}(z:α):∀ (l:List α) (i:Nat),i<l.length->sz (l.getD i z)<=Qb sz l
 |[],i,h=>by simp at h
 |x::l,0,h=>by rw [QQ];simp
 |x::l,i+1,h=>by
  rw [QQ]
  have:=sz_at (sz:=sz) z l i (by simpa using h)
  simp only [List.getD_cons_succ];omega
theorem lb_of {α:Type}{LB:α->Prop}{sz:α->Nat}{N M:Nat}{z:α}(h1:∀ x,1<=sz x){l:List α}(h:Qb sz l<=M)(b:M<=N)(a:∀ x,sz x<=M->LB x):l.length<=N/\∀ i,i<l.length->LB (l.getD i z) :=
 ⟨by have:=Xe h1 l;omega,λi hi=>a _ (Nat.le_trans (sz_at (sz:=sz) z l i hi) h)⟩
theorem ins_lb {N M:Nat}{l:List In}(h:Qb QO l<=M)(a:M<=N):l.length<=N/\∀ i,i<l.length->In.LB N (l.getD i I0) :=
 lb_of (sz:=QO) (λx=>by simp only [QO];omega) h a (λx hx=>by simp only [QO] at hx;show x.l.length<=N;omega)
theorem lb_dec (bs:List Int):Mod.LB 1048576 (XG bs).m:=by
 have h:=wN_dec bs
 simp only [wN] at h
 have a:∀ {α:Type} (sz:α->Nat) (x:α),1<=s1 sz x:=λsz x=>by simp only [s1];omega
 refine ⟨?_,?_,by omega,?_,?_,?_,?_,?_,?_,?_,?_⟩
 . exact lb_of (sz:=s1 QT) (M:=589824) (a _) (by omega) (by omega) (λx hx=>by simp only [s1,QT] at hx;exact ⟨by omega,by omega⟩)
 . exact lb_of (sz:=tI) (M:=589824) (λx=>by simp only [tI];omega) (by omega) (by omega) (λx hx=>by simp only [tI] at hx;exact ⟨by omega,by omega⟩)
 . exact lb_of (sz:=s1 Qo) (M:=589824) (a _) (by omega) (by omega) (λx hx=>trivial)
 . exact lb_of (sz:=s1 Qo) (M:=589824) (a _) (by omega) (by omega) (λx hx=>trivial)
 . exact lb_of (sz:=s1 QG) (M:=589824) (a _) (by omega) (by omega) (λx hx=>by simp only [s1,QG] at hx;exact ins_lb (M:=589824) (by omega) (by omega))
 . exact lb_of (sz:=tE) (M:=589824) (λx=>by simp only [tE];omega) (by omega) (by omega) (λx hx=>by simp only [tE] at hx;show x.nm.size<=_;omega)
 . exact lb_of (sz:=s1 Ja) (M:=589824) (a _) (by omega) (by omega) (λx hx=>by simp only [s1,Ja] at hx;exact ⟨ins_lb (M:=589824) (by omega) (by omega),by omega⟩)
 . exact lb_of (sz:=s1 Je) (M:=589824) (a _) (by omega) (by omega) (λx hx=>by simp only [s1,Je] at hx;exact ⟨lb_of (sz:=Q8) (M:=589824) (λx=>by simp only [Q8];omega) (by omega) (by omega) (λx hx=>trivial),ins_lb (M:=589824) (by omega) (by omega)⟩)
 . exact lb_of (sz:=s1 Jo) (M:=589824) (a _) (by omega) (by omega) (λx hx=>by simp only [s1,Jo] at hx;exact ⟨ins_lb (M:=589824) (by omega) (by omega),by omega⟩)
 . exact lb_of (sz:=tC) (M:=589824) (λx=>by simp only [tC];omega) (by omega) (by omega) (λx hx=>by simp only [tC,Ju] at hx;exact ⟨by omega,by omega⟩)
theorem markD_c (er at_:Int)(m)(a0:Option Addr)(q:Nat)(E:Option Addr)(p:Nat)(D:Option Addr)(n:Nat)(C:Option Addr)(l:Nat)(A:Option Addr)(k:Nat)(z:Option Addr)(j:Nat)(y:Option Addr)(g:Nat)(v:Option Addr)(f:Nat)(u:Option Addr)(d:Nat)(t:Option Addr)(c:Nat)(b:Option Addr)(a:Nat)(r:Int)(R){B w0 rs w}(s:MX m (.slice a0 m.types.length q) (.slice E m.imps.length p) (.slice D m.funcs.length n) (.slice C m.tabs.length l) (.slice A m.mems.length k) (.slice z m.globs.length j) (.slice y m.exps.length g) (.slice v m.elems.length f) (.slice u m.codes.length d) (.slice t m.datas.length c) (.slice b m.customs.length a) rs R)(h:Mo B w0 R w)(hl:LnM m)(h0:0<=r)(h1:r+szM m<=1000000000) :
    Calls Tryz.prog 13 #[.agg #[.int .i64 er,.int .i64 at_,.slice a0 m.types.length q,.slice E m.imps.length p,.slice D m.funcs.length n,.slice C m.tabs.length l,.slice A m.mems.length k,.slice z m.globs.length j,.slice y m.exps.length g,.bool m.hasS,.int .i64 m.start,.slice v m.elems.length f,.slice u m.codes.length d,.slice t m.datas.length c,.slice b m.customs.length a],.int .i64 r] w (MmP m (.slice a0 m.types.length q) (.slice E m.imps.length p) (.slice D m.funcs.length n) (.slice C m.tabs.length l) (.slice A m.mems.length k) (.slice z m.globs.length j) (.slice y m.exps.length g) (.slice v m.elems.length f) (.slice u m.codes.length d) (.slice t m.datas.length c) (.slice b m.customs.length a) r B w0 rs):=by
 have G:Below w.heap.size w (w.alloc (.cells #[.int .i64 er,.int .i64 at_,.slice a0 m.types.length q,.slice E m.imps.length p,.slice D m.funcs.length n,.slice C m.tabs.length l,.slice A m.mems.length k,.slice z m.globs.length j,.slice y m.exps.length g,.bool m.hasS,.int .i64 m.start,.slice v m.elems.length f,.slice u m.codes.length d,.slice t m.datas.length c,.slice b m.customs.length a] 36)):=bF.alloc lR _;have H:=Hm (markM_c m a0 q E p D n C l A k z j y g v f u d t c b a r R s (h.keep G) hl h0 h1);clear h s hl G
 go_enter Tryz.func13,Tryz.ntmps13
 go_wp2_with fail
 refine H.o.mono ?_
 rintro e V ⟨I,rfl,s,F⟩;have J:=Hm s;have L:=Hm F;clear s F H
 go_wp2_with fail
 go_ret
 exact ⟨I,rfl,J.o,L.o⟩
theorem heldD_c (er at_:Int)(m:Mod)(a0:Option Addr)(t:Nat)(F:Option Addr)(s:Nat)(E:Option Addr)(q:Nat)(D:Option Addr)(p:Nat)(C:Option Addr)(n:Nat)(A:Option Addr)(l:Nat)(z:Option Addr)(k:Nat)(y:Option Addr)(j:Nat)(v:Option Addr)(g:Nat)(u:Option Addr)(f:Nat)(b:Option Addr)(a:Nat)(c:Int)(rs R)(B:Nat)(w:World)(I:MX (mkM c m) (.slice a0 m.types.length t) (.slice F m.imps.length s) (.slice E m.funcs.length q) (.slice D m.tabs.length p) (.slice C m.mems.length n) (.slice A m.globs.length l) (.slice z m.exps.length k) (.slice y m.elems.length j) (.slice v m.codes.length g) (.slice u m.datas.length f) (.slice b m.customs.length a) rs R)(h:∀ r ∈ R,r.Ok B w)(hl:LnM m)(h0:0<=c)(h1:c+szM m<=1000000000) :
    Calls Tryz.prog 14 #[.agg #[.int .i64 er,.int .i64 at_,.slice a0 m.types.length t,.slice F m.imps.length s,.slice E m.funcs.length q,.slice D m.tabs.length p,.slice C m.mems.length n,.slice A m.globs.length l,.slice z m.exps.length k,.bool m.hasS,.int .i64 m.start,.slice y m.elems.length j,.slice v m.codes.length g,.slice u m.datas.length f,.slice b m.customs.length a],.int .i64 c] w λe w'=>e=.returned (.int .i64 (c+(szM m:Nat)))/\Below w.heap.size w w':=by
 have d:Below w.heap.size w (w.alloc (.cells #[.int .i64 er,.int .i64 at_,.slice a0 m.types.length t,.slice F m.imps.length s,.slice E m.funcs.length q,.slice D m.tabs.length p,.slice C m.mems.length n,.slice A m.globs.length l,.slice z m.exps.length k,.bool m.hasS,.int .i64 m.start,.slice y m.elems.length j,.slice v m.codes.length g,.slice u m.datas.length f,.slice b m.customs.length a] 36)):=bF.alloc lR _;have J:=Hm (heldM_c m a0 t F s E q D p C n A l z k y j v g u f b a c rs R B _ I (λr hr=>Qc.Ok.below (h r hr) d) hl h0 h1);have H:=Hm d;clear h I hl d;have L:¬ c+((szM m:Nat):Int)<0:=by omega
 go_enter Tryz.func14,Tryz.ntmps14
 go_wp2_with fail
 refine J.o.mono ?_
 rintro e V ⟨rfl,d⟩;have G:=Hm (H.o.trans (d.mono H.o.size));clear d J H
 go_wp2_with fail
 go_ret
 exact ⟨rfl,G.o⟩
theorem dep_out {d:DRes}{w:World}{e:Ending}{D:World}(h:DeP d w e D):∃ C q B p A o z n y l v k u j t g s f r c b a R,e=.returned (.agg #[.int .i64 d.err,.int .i64 d.at_,.slice C d.m.types.length q,.slice B d.m.imps.length p,.slice A d.m.funcs.length o,.slice z d.m.tabs.length n,.slice y d.m.mems.length l,.slice v d.m.globs.length k,.slice u d.m.exps.length j,.bool d.m.hasS,.int .i64 d.m.start,.slice t d.m.elems.length g,.slice s d.m.codes.length f,.slice r d.m.datas.length c,.slice b d.m.customs.length a])/\MX d.m (.slice C d.m.types.length q) (.slice B d.m.imps.length p) (.slice A d.m.funcs.length o) (.slice z d.m.tabs.length n) (.slice y d.m.mems.length l) (.slice v d.m.globs.length k) (.slice u d.m.exps.length j) (.slice t d.m.elems.length g) (.slice s d.m.codes.length f) (.slice r d.m.datas.length c) (.slice b d.m.customs.length a) [] R/\Mo w.heap.size w R D:=by
 obtain ⟨C,q,B,p,A,o,z,n,y,l,v,k,u,j,t,g,s,f,r,c,b,a,L,rfl,G,F,E⟩:=h
 refine ⟨C,q,B,p,A,o,z,n,y,l,v,k,u,j,t,g,s,f,r,c,b,a,L.flatten,rfl,?_,F,E,E.size⟩
 have:=mr_mx G []
 rw [List.append_nil] at this
 exact this
theorem Mo.join {B w0 V W rs R}(h:Mo B w0 rs V)(a:Mo V.heap.size V R W):Mo B w0 (rs++R) W :=
 ⟨Own.new h.own (h.own.keep a.b) a.own h.le,h.b.trans (a.b.mono h.le),Nat.le_trans h.le a.b.size⟩
theorem Mo.start (w:World):Mo w.heap.size w [] w:=⟨Own.nil _ _,bF,lR⟩
theorem Mo.one {w W:World}{r:Qc}(h:r.Ok w.heap.size W)(a:Below w.heap.size w W):Mo w.heap.size w [r] W:=⟨Own.one h,a,a.size⟩
abbrev cR (bs:List Int)(g:Nat):Qc:=⟨5,1,bs.length,.slice (some ⟨g,0,none⟩) bs.length bs.length,U bs⟩
abbrev bR (g:Nat)(C:List Value):Qc:=⟨36,15,1,.slice (some ⟨g,0,none⟩) 1 1,C⟩
def AN (d:DRes)(C:List Value)(R:List Qc):Prop:=∃ a0 n0 a1 n1 a2 n2 a3 n3 a4 n4 a5 n5 a6 n6 a7 n7 a8 n8 a9 n9 a10 n10,C=[.int .i64 d.err,.int .i64 d.at_,.slice a0 d.m.types.length n0,.slice a1 d.m.imps.length n1,.slice a2 d.m.funcs.length n2,.slice a3 d.m.tabs.length n3,.slice a4 d.m.mems.length n4,.slice a5 d.m.globs.length n5,.slice a6 d.m.exps.length n6,.bool d.m.hasS,.int .i64 d.m.start,.slice a7 d.m.elems.length n7,.slice a8 d.m.codes.length n8,.slice a9 d.m.datas.length n9,.slice a10 d.m.customs.length n10]/\MX d.m (.slice a0 d.m.types.length n0) (.slice a1 d.m.imps.length n1) (.slice a2 d.m.funcs.length n2) (.slice a3 d.m.tabs.length n3) (.slice a4 d.m.mems.length n4) (.slice a5 d.m.globs.length n5) (.slice a6 d.m.exps.length n6) (.slice a7 d.m.elems.length n7) (.slice a8 d.m.codes.length n8) (.slice a9 d.m.datas.length n9) (.slice a10 d.m.customs.length n10) [] R
def AM (d:DRes)(C:List Value)(rs R:List Qc):Prop:=∃ a0 n0 a1 n1 a2 n2 a3 n3 a4 n4 a5 n5 a6 n6 a7 n7 a8 n8 a9 n9 a10 n10,C=[.int .i64 d.err,.int .i64 d.at_,.slice a0 d.m.types.length n0,.slice a1 d.m.imps.length n1,.slice a2 d.m.funcs.length n2,.slice a3 d.m.tabs.length n3,.slice a4 d.m.mems.length n4,.slice a5 d.m.globs.length n5,.slice a6 d.m.exps.length n6,.bool d.m.hasS,.int .i64 d.m.start,.slice a7 d.m.elems.length n7,.slice a8 d.m.codes.length n8,.slice a9 d.m.datas.length n9,.slice a10 d.m.customs.length n10]/\MX (mkM 1 d.m) (.slice a0 d.m.types.length n0) (.slice a1 d.m.imps.length n1) (.slice a2 d.m.funcs.length n2) (.slice a3 d.m.tabs.length n3) (.slice a4 d.m.mems.length n4) (.slice a5 d.m.globs.length n5) (.slice a6 d.m.exps.length n6) (.slice a7 d.m.elems.length n7) (.slice a8 d.m.codes.length n8) (.slice a9 d.m.datas.length n9) (.slice a10 d.m.customs.length n10) rs R
theorem AN.len {d:DRes}{C R}(h:AN d C R):C.length=15:=by
 obtain ⟨B,p,A,o,z,n,y,m,v,l,u,k,t,j,s,g,r,f,q,c,b,a,rfl,-⟩:=h;rfl
theorem AN.one {d:DRes}{C R}(h:AN d C R):C.all Value.oneCell'=true:=by
 obtain ⟨B,p,A,o,z,n,y,m,v,l,u,k,t,j,s,g,r,f,q,c,b,a,rfl,-⟩:=h;simp [Value.oneCell']
theorem toB_m (a)(c:Nat)(bs:List Int)(w V rs)(l:bs.length<=1048576)(m:HI .u8 0 w a bs)(h:Mo w.heap.size w rs V) :
    Calls Tryz.prog 8 #[.slice a bs.length c] V λe g=>e=.returned (.slice (some ⟨V.heap.size,0,none⟩) bs.length bs.length)/\Mo w.heap.size w (rs++[cR bs V.heap.size]) g:=by
 have j:HI .u8 0 V a bs:=by
  rcases m with h0|⟨b,o,e,d,f⟩
  . exact .inl h0
  . exact .inr ⟨b,o,e,d,λi hi=>(World.cell?_of_block (h.b.block b (World.block_lt_of_cell? w _ (f i hi)))).trans (f i hi)⟩
 refine (toB_c a c bs V l j).mono ?_
 rintro e g ⟨rfl,k,d⟩
 exact ⟨rfl,h.join (Mo.one (r:=cR bs V.heap.size) k d)⟩
def DeQ (d:DRes)(w:World)(rs:List Qc)(e:Ending)(W:World):Prop:=∃ C R,e=.returned (.agg C.toArray)/\AN d C R/\Mo w.heap.size w (rs++R) W
theorem deq_of {d:DRes}{w V rs}{e:Ending}{W:World}(h:Mo w.heap.size w rs V)(s:DeP d V e W):DeQ d w rs e W:=by
 obtain ⟨E,p,D,o,C,n,B,m,A,l,z,k,y,j,v,g,u,f,t,c,b,a,R,rfl,q,r⟩:=dep_out s
 exact ⟨_,R,rfl,⟨E,p,D,o,C,n,B,m,A,l,z,k,y,j,v,g,u,f,t,c,b,a,rfl,q⟩,h.join r⟩
theorem sdec_m (bs w V rs)(g:Nat)(d:Qm bs)(h:Mo w.heap.size w rs V)(c:cR bs g ∈ rs):Calls Tryz.prog 7 #[.slice (some ⟨g,0,none⟩) bs.length bs.length] V (DeQ (XG bs) w rs):=by
 have b:V.ownsRow w.heap.size 5 1 (.slice (some ⟨g,0,none⟩) bs.length bs.length) bs.length (U bs):=h.row c
 exact (sdecode_c _ _ bs V d (By.own_has b) (λa e=>by cases e;exact (b.lt _ rfl).2)).mono λe W hd=>deq_of h hd
theorem idec_m (bs w V rs)(g:Nat)(d:Qm bs)(f:bs.length<=1048576)(h:Mo w.heap.size w rs V)(c:cR bs g ∈ rs):Calls Tryz.prog 9 #[.slice (some ⟨g,0,none⟩) bs.length bs.length] V (DeQ (XG bs) w rs):=by
 have b:V.ownsRow w.heap.size 5 1 (.slice (some ⟨g,0,none⟩) bs.length bs.length) bs.length (U bs):=h.row c
 exact (idecode_c _ _ bs V d (by omega) lR (By.own_has b) (λa e=>by cases e;exact (b.lt _ rfl).2)).mono λe W hd=>deq_of h hd
theorem eqB_m (bs:List Int)(w V rs)(g b:Nat)(d:bs.length<=1048576)(h:Mo w.heap.size w rs V)(c:cR bs g ∈ rs)(a:cR bs b ∈ rs):Calls Tryz.prog 11 #[.slice (some ⟨g,0,none⟩) bs.length bs.length,.slice (some ⟨b,0,none⟩) bs.length bs.length] V λe W=>e=.returned (.bool true)/\Mo w.heap.size w rs W:=by
 refine (eqB_any _ _ _ _ bs V (by omega) ((hi_u8 (h.row c)).mono (Nat.zero_le _)) ((hi_u8 (h.row a)).mono (Nat.zero_le _))).mono ?_
 rintro e W ⟨rfl,n,rfl⟩
 exact ⟨rfl,h.drewN n⟩
theorem mx_app {m v0 v1 v2 v3 v4 v5 v6 v7 v8 v9 v10 R}(h:MX m v0 v1 v2 v3 v4 v5 v6 v7 v8 v9 v10 [] R)(rs:List Qc):MX m v0 v1 v2 v3 v4 v5 v6 v7 v8 v9 v10 rs (R++rs):=by
 obtain ⟨E,u,D,C,B,C5,t,A,z,s,y,r,v,q,p,o,n,l,k,j,g,f,d,c,b,a,rfl⟩:=h
 exact ⟨E,u,D,C,B,C5,t,A,z,s,y,r,v,q,p,o,n,l,k,j,g,f,d,c,b,a,by simp only [List.append_assoc,List.cons_append,List.nil_append]⟩
theorem AM.mem {d:DRes}{C rs R}(h:AM d C rs R){r:Qc}(hr:r ∈ rs):r ∈ R:=by
 obtain ⟨V,F,U,E,S,D,O,B,M,A,L,z,J,y,I,v,H,u,G,t,p,b,-,C0,K0,C1,C3,C4,C5,K5,C6,C7,Z,C8,Y,C9,X,s,q,o,n,m,l,k,j,g,f,c,a,rfl⟩:=h
 simp only [List.mem_cons,List.mem_append,hr,or_true]
theorem eqD_m {d:DRes}{C C' R R' w V rs}(hl:Mod.LB 1048576 d.m)(hA:AN d C R)(v:AN d C' R')(h:Mo w.heap.size w rs V)(hr:∀ r ∈ R,r ∈ rs)(u:∀ r ∈ R',r ∈ rs) :
    Calls Tryz.prog 10 #[.agg C.toArray,.agg C'.toArray] V λe W=>e=.returned (.bool true)/\Mo w.heap.size w rs W:=by
 obtain ⟨a0,n0,a1,n1,a2,Z,a3,Y,a4,X,a5,U,a6,S,a7,O,a8,M,a9,L,H,p,rfl,hx⟩:=hA;obtain ⟨J,s,I,q,G,o,F,n,E,l,D,k,B,j,A,g,z,f,y,c,b,a,rfl,t⟩:=v
 refine (eqD_c d.err d.at_ d.m a0 n0 a1 n1 a2 Z a3 Y a4 X a5 U a6 S a7 O a8 M a9 L H p J s I q G o F n E l D k B j A g z f y c b a V (mx_is hx (λr h'=>h.row (hr r h'))) (mx_is t (λr h'=>h.row (u r h'))) hl).mono ?_
 rintro e W ⟨rfl,hb⟩
 exact ⟨rfl,h.keep hb⟩
theorem markD_m {d:DRes}{C R w V}{rs:List Qc}(hl:LnM d.m)(J:szM d.m<=589824)(I:AN d C R)(h:Mo w.heap.size w (R++rs) V) :
    Calls Tryz.prog 13 #[.agg C.toArray,.int .i64 1] V λe W=>∃ c,e=.returned (.int .i64 (1+(szM d.m:Nat)))/\AM d C rs c/\Mo w.heap.size w c W:=by
 obtain ⟨F,s,E,r,D,q,B,p,A,o,z,n,y,l,v,k,u,j,t,g,b,a,rfl,G⟩:=I
 refine (markD_c d.err d.at_ d.m F s E r D q B p A o z n y l v k u j t g b a 1 _ (mx_app G rs) h hl (by omega) (by omega)).mono ?_
 rintro e W ⟨c,rfl,f,H⟩
 exact ⟨c,rfl,⟨F,s,E,r,D,q,B,p,A,o,z,n,y,l,v,k,u,j,t,g,b,a,rfl,f⟩,H⟩
theorem heldD_m {d:DRes}{C R w V rs rs'}(hl:LnM d.m)(I:szM d.m<=589824)(u:AM d C rs' R)(h:Mo w.heap.size w rs V)(hr:∀ r ∈ R,r ∈ rs) :
    Calls Tryz.prog 14 #[.agg C.toArray,.int .i64 1] V λe W=>e=.returned (.int .i64 (1+(szM d.m:Nat)))/\Mo w.heap.size w rs W:=by
 obtain ⟨H,q,G,p,F,o,E,n,D,l,B,k,A,j,z,g,y,f,v,c,b,a,rfl,s⟩:=u
 refine (heldD_c d.err d.at_ d.m H q G p F o E n D l B k A j z g y f v c b a 1 _ _ _ _ s (λr h'=>h.row (hr r h')) hl (by omega) (by omega)).mono ?_
 rintro e W ⟨rfl,t⟩
 exact ⟨rfl,h.keep t⟩
theorem under36:(Tryz.prog.underlying 36).map TypeDesc.isRow=some true:=by kernel_rfl
theorem bx_load {B W}{g:Nat}{C:List Value}(h:Qc.Ok B W (bR g C)):(Instr.loadAt 36 (.pointer (some ⟨g,0,none⟩))).run Tryz.prog W=.ok (.agg C.toArray) W:=by
 have b:W.ownsRow B 36 15 (.slice (some ⟨g,0,none⟩) 1 1) 1 C:=h;have c:C.length=15:=by have:=b.1;simpa using this
 have a:=under36
 cases hd:Tryz.prog.underlying 36 with
 |none=>rw [hd] at a;cases a
 |some d =>
  rw [hd] at a
  refine run_loadAt_mid W g 0 36 C d (λj v hv=>?_) hd (by simpa using a) (by rw [c];exact sizeD)
  rw [Nat.zero_add];have f:=(List.getElem?_eq_some_iff.1 hv).1
  exact (World.ownsRow.cellAt b j (by omega)).trans hv
theorem Ga {B W}{g:Nat}{C:List Value}(h:Qc.Ok B W (bR g C)){ops:Array Oper}{rest:List Oper}{b:Oper}{a:Act}{Q:Exit->Act->World->Prop}(c:Region.wanted b (yielded ops a.tmps)=true)(x:Operand)(f:b.op=.load 36 x)(d:a.eval x=.pointer (some ⟨g,0,none⟩))(j:wpList Tryz.prog ops Q rest (a.put b.dst (.agg C.toArray)) W):wpList Tryz.prog ops Q (b::rest) a W:=by
 refine wpList_step λK hK=>?_
 rw [if_pos c];unfold Oper.wp execOp
 simp only [f,d,bx_load h,Sem.run_bind,Result.andThen_ok,Oper.upon_value]
 exact hK _ _ j
theorem Mo.box' {B w0 V rs R}{d:DRes}{C}(h:Mo B w0 rs V)(a:AN d C R):Mo B w0 (bR V.heap.size C::rs) (V.alloc (.cells C.toArray 36)):=by
 have:=h.box C.toArray 36 15 (by simpa using a.len)
 simpa using this
theorem pm_law {α:Type}(b1 b0 c1 c2 c3:α)(b a:List α):((b1::(((b0::(([]++[c1])++b))++[c2])++a))++[c3]).Perm (c2::(c1::c3::(a++(b1::b0::b)))):=by
 classical
 refine List.perm_iff_count.2 λz=>?_
 simp only [List.count_append,List.count_cons,List.count_nil]
 omega
theorem has_hi {w:World}{a:Option Addr}{bs:List Int}(h:By.Has w a bs):HI .u8 0 w a bs:=by
 rcases h with h|⟨b,o,e,c⟩
 . exact .inl h
 . exact .inr ⟨b,o,e,Nat.zero_le _,c⟩
theorem lawD (a:Option Addr)(cap:Nat)(bs:List Int)(w:World)(j:bs.length<=maxLen)(X:By.Has w a bs)(H:Qm bs) :
    Calls Tryz.prog 3 #[.slice a bs.length cap] w λe w'=>e=.returned (.bool true)/\Below w.heap.size w w':=by
 unfold maxLen at j
 by_cases v:1048576<bs.length
 . have U:(1048576:Int)<(bs.length:Int):=by omega
   clear X H
   go_enter Tryz.func3,Tryz.ntmps3
   go_wp2
   go_ret
   exact ⟨rfl,bF⟩
 have U:¬ (1048576:Int)<(bs.length:Int):=by omega
 have R:bs.length<=1048576:=by omega
 have J:=Hm (λ(V:World) (rs:List Qc) (h:Mo w.heap.size w rs V)=>toB_m a cap bs w V rs R (has_hi X) h);have KS:=Hm (λ(V:World) (rs:List Qc) (g:Nat) (h:Mo w.heap.size w rs V) (hg:cR bs g ∈ rs)=>sdec_m bs w V rs g H h hg);have KI:=Hm (λ(V:World) (rs:List Qc) (g:Nat) (h:Mo w.heap.size w rs V) (hg:cR bs g ∈ rs)=>idec_m bs w V rs g H R h hg);have s:=Hm (lb_dec bs);have q:=Hm (lnM_dec bs).1;have m:=(lnM_dec bs).2;clear X H v j;generalize XG bs=d at *
 go_enter Tryz.func3,Tryz.ntmps3
 go_wp2_with fail
 refine (J.o w [] (Mo.start w)).mono ?_
 rintro e w1 ⟨rfl,h1⟩;have M1:=Hm h1;clear h1
 go_wp2_with fail
 refine (KS.o w1 _ _ M1.o (by simp)).mono ?_
 rintro e w2 ⟨C0,R0,rfl,c,j⟩;have D:=Hm c;have hl:=c.len;have M2:=Hm (j.box' c);clear c j M1
 go_wp2_with fail
 rw [storeNew C0 (hv:=rfl) (hg:=rfl) (hl:=?hl) (h1:=D.o.one)]
 case hl=>exact D.o.len
 simp only [Result.andThen_ok]
 clear hl;generalize y:w2.alloc (.cells C0.toArray 36)=V2 at M2⊢;clear y
 go_wp2_with fail
 refine (J.o V2 _ M2.o).mono ?_
 rintro e w3 ⟨rfl,h3⟩;have M3:=Hm h3;clear h3 M2
 go_wp2_with fail
 refine (KI.o w3 _ _ M3.o (by simp)).mono ?_
 rintro e w4 ⟨C1,R1,rfl,c,j⟩;have u:=Hm c;have hl:=c.len;have E:=Hm (j.box' c);clear c j M3
 go_wp2_with fail
 rw [storeNew C1 (hv:=rfl) (hg:=rfl) (hl:=?hl) (h1:=u.o.one)]
 case hl=>exact u.o.len
 simp only [Result.andThen_ok]
 clear hl;generalize y:w4.alloc (.cells C1.toArray 36)=V4 at E⊢;clear y;have l:=Hm (E.o.row (mC (mL (mL mS))));have f:=Hm (E.o.row mS)
 go_wp2_with (first|refine Ga f.o rfl _ rfl rfl ?_|refine Ga l.o rfl _ rfl rfl ?_)
 refine (eqD_m s.o u.o D.o E.o (λr hr=>by simp [hr]) (λr hr=>by simp [hr])).mono ?_
 rintro e w5 ⟨rfl,h5⟩;have M5:=Hm h5;clear h5 E l f
 go_wp2_with fail
 refine (J.o w5 _ M5.o).mono ?_
 rintro e w6 ⟨rfl,h6⟩;have M6:=Hm h6;clear h6 M5
 go_wp2_with fail
 refine (eqB_m bs w w6 _ _ _ R M6.o (by simp) (by simp)).mono ?_
 rintro e w7 ⟨rfl,h7⟩;have M7:=Hm (h7.perm (pm_law _ _ _ _ _ _ _));clear h7 M6
 go_wp2_with fail
 refine (markB_c bs _ _ 1 M7.o (by omega) (by omega)).mono ?_
 rintro e w8 ⟨rfl,h8⟩;have I:=Hm h8.tail.tail.tail;clear h8 M7;have S:¬ ((1:Int)+bs.length)<0:=by omega
 have a6:decide (((1:Int)+bs.length)<0)=false:=decide_eq_false S;have l:=Hm (I.o.row (mR (mC mS)));have f:=Hm (I.o.row (mR mS))
 go_wp2_with (first|refine Ga f.o rfl _ rfl rfl ?_|refine Ga l.o rfl _ rfl rfl ?_)
 refine (eqD_m s.o u.o D.o I.o (λr hr=>by simp [hr]) (λr hr=>by simp [hr])).mono ?_
 rintro e w9 ⟨rfl,h9⟩;have Z:=Hm h9;clear h9 I l f;have f:=Hm (Z.o.row (mR mS))
 go_wp2_with (refine Ga f.o rfl _ rfl rfl ?_)
 refine (markD_m q.o m u.o Z.o).mono ?_
 rintro e a4 ⟨R3,rfl,c,j⟩;have t:=Hm c;have p:=Hm j;clear c j Z u f;have f:=Hm (p.o.row (t.o.mem mS))
 go_wp2_with (refine Ga f.o rfl _ rfl rfl ?_)
 refine (heldD_m q.o m t.o p.o (λr hr=>hr)).mono ?_
 rintro e O ⟨rfl,C⟩;have G:=Hm C;clear C p f
 go_wp2_with fail
 refine (J.o O _ G.o).mono ?_
 rintro e M ⟨rfl,B⟩;have F:=Hm B;clear B G
 go_wp2_with fail
 refine (KI.o M _ _ F.o (by simp)).mono ?_
 rintro e L ⟨C2,R2,rfl,c,j⟩;have Y:=Hm c;have hl:=c.len;have k:=Hm (j.box' c);clear c j F
 go_wp2_with fail
 rw [storeNew C2 (hv:=rfl) (hg:=rfl) (hl:=?hl) (h1:=Y.o.one)]
 case hl=>exact Y.o.len
 simp only [Result.andThen_ok]
 clear hl;generalize y:L.alloc (.cells C2.toArray 36)=V13 at k⊢;clear y;have l:=Hm (k.o.row (mC (mL (mL (t.o.mem (mC mS))))));have x2:=Hm (k.o.row mS)
 go_wp2_with (first|refine Ga x2.o rfl _ rfl rfl ?_|refine Ga l.o rfl _ rfl rfl ?_)
 refine (eqD_m s.o Y.o D.o k.o (λr hr=>by simp [hr]) (λr hr=>(mC (mL (mL (t.o.mem (by simp [hr]))))))).mono ?_
 rintro e a3 ⟨rfl,A⟩;have n:=Hm A;clear A k l x2;have f:=Hm (n.o.row (mC (mL (mL (t.o.mem mS)))))
 go_wp2_with (refine Ga f.o rfl _ rfl rfl ?_)
 refine (heldD_m q.o m t.o n.o (λr hr=>(mC (mL (mL hr))))).mono ?_
 rintro e a2 ⟨rfl,z⟩;have ab:=Hm z;clear z n f
 go_wp2
 go_ret
 exact ⟨rfl,ab.o.b⟩
end Go.Proofs.YtedcmcdbejjgcaaGreat.Ms
