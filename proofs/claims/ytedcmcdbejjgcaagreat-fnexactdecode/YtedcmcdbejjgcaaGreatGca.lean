import Derived.Test.YtedcmcdbejjgcaaGreatGaa
import Derived.Test.YtedcmcdbejjgcaaGreatGbx
import Derived.Test.YtedcmcdbejjgcaaGreatGby
import Derived.Test.YtedcmcdbejjgcaaGreatGbz
import Derived.Test.YtedcmcdbejjgcaaGreatGbi
set_option linter.all false
set_option maxHeartbeats 400000000
set_option maxRecDepth 100000
namespace Go.Proofs.YtedcmcdbejjgcaaGreat.Ms
open Go.RowKit Go.Sort
def MX (m:Mod)(v0 v1 v2 v3 v4 v5 v6 v7 v8 v9 v10:Value)(rs R:List Qc):Prop:=∃ C0 K0 C1 C3 C4 C5 K5 C6 C7 K7 C8 K8 C9 K9 C10 K10,LR RFT m.types C0 K0/\LR RImp m.imps C1 []/\LR Gz m.tabs C3 []/\LR Gz m.mems C4 []/\LR X5 m.globs C5 K5/\LR RExp m.exps C6 []/\LR REle m.elems C7 K7/\LR Oq m.codes C8 K8/\LR RDat m.datas C9 K9/\LR RCus m.customs C10 K10/\R=(⟨92,2,m.types.length,v0,C0⟩::(K0++(⟨100,9,m.imps.length,v1,C1⟩::(⟨2,1,m.funcs.length,v2,I m.funcs⟩::(⟨96,3,m.tabs.length,v3,C3⟩::(⟨96,3,m.mems.length,v4,C4⟩::(⟨107,3,m.globs.length,v5,C5⟩::(K5++(⟨111,3,m.exps.length,v6,C6⟩::(⟨79,2,m.elems.length,v7,C7⟩::(K7++(⟨83,2,m.codes.length,v8,C8⟩::(K8++(⟨85,2,m.datas.length,v9,C9⟩::(K9++(⟨72,3,m.customs.length,v10,C10⟩::(K10++rs)))))))))))))))))
def szM (m:Mod):Nat:=Qb QT m.types+Qb Qu m.imps+m.funcs.length+Qb Qo m.tabs+Qb Qo m.mems+Qb QG m.globs+Qb Q4 m.exps+Qb Ja m.elems+Qb Je m.codes+Qb Jo m.datas+Qb Ju m.customs
def mkM (k0:Int)(m:Mod):Mod:={ m with types:=Q5 mkFT QT (k0) m.types,imps:=Q5 mkImp Qu (k0+((Qb QT m.types:Nat):Int)) m.imps,funcs:=mkI (k0+((Qb QT m.types:Nat):Int)+((Qb Qu m.imps:Nat):Int)) m.funcs.length,tabs:=Q5 mkLim Qo (k0+((Qb QT m.types:Nat):Int)+((Qb Qu m.imps:Nat):Int)+(m.funcs.length:Int)) m.tabs,mems:=Q5 mkLim Qo (k0+((Qb QT m.types:Nat):Int)+((Qb Qu m.imps:Nat):Int)+(m.funcs.length:Int)+((Qb Qo m.tabs:Nat):Int)) m.mems,globs:=Q5 mkGlob QG (k0+((Qb QT m.types:Nat):Int)+((Qb Qu m.imps:Nat):Int)+(m.funcs.length:Int)+((Qb Qo m.tabs:Nat):Int)+((Qb Qo m.mems:Nat):Int)) m.globs,exps:=Q5 mkExp Q4 (k0+((Qb QT m.types:Nat):Int)+((Qb Qu m.imps:Nat):Int)+(m.funcs.length:Int)+((Qb Qo m.tabs:Nat):Int)+((Qb Qo m.mems:Nat):Int)+((Qb QG m.globs:Nat):Int)) m.exps,elems:=Q5 mkEle Ja (k0+((Qb QT m.types:Nat):Int)+((Qb Qu m.imps:Nat):Int)+(m.funcs.length:Int)+((Qb Qo m.tabs:Nat):Int)+((Qb Qo m.mems:Nat):Int)+((Qb QG m.globs:Nat):Int)+((Qb Q4 m.exps:Nat):Int)) m.elems,codes:=Q5 mkCod Je (k0+((Qb QT m.types:Nat):Int)+((Qb Qu m.imps:Nat):Int)+(m.funcs.length:Int)+((Qb Qo m.tabs:Nat):Int)+((Qb Qo m.mems:Nat):Int)+((Qb QG m.globs:Nat):Int)+((Qb Q4 m.exps:Nat):Int)+((Qb Ja m.elems:Nat):Int)) m.codes,datas:=Q5 mkDat Jo (k0+((Qb QT m.types:Nat):Int)+((Qb Qu m.imps:Nat):Int)+(m.funcs.length:Int)+((Qb Qo m.tabs:Nat):Int)+((Qb Qo m.mems:Nat):Int)+((Qb QG m.globs:Nat):Int)+((Qb Q4 m.exps:Nat):Int)+((Qb Ja m.elems:Nat):Int)+((Qb Je m.codes:Nat):Int)) m.datas,customs:=Q5 mkCus Ju (k0+((Qb QT m.types:Nat):Int)+((Qb Qu m.imps:Nat):Int)+(m.funcs.length:Int)+((Qb Qo m.tabs:Nat):Int)+((Qb Qo m.mems:Nat):Int)+((Qb QG m.globs:Nat):Int)+((Qb Q4 m.exps:Nat):Int)+((Qb Ja m.elems:Nat):Int)+((Qb Je m.codes:Nat):Int)+((Qb Jo m.datas:Nat):Int)) m.customs }
def LnM (m:Mod):Prop:=m.types.length<=1000000000/\m.imps.length<=1000000000/\m.funcs.length<=1000000000/\m.tabs.length<=1000000000/\m.mems.length<=1000000000/\m.globs.length<=1000000000/\m.exps.length<=1000000000/\m.elems.length<=1000000000/\m.codes.length<=1000000000/\m.datas.length<=1000000000/\m.customs.length<=1000000000
def MmP (m:Mod)(v0 v1 v2 v3 v4 v5 v6 v7 v8 v9 v10:Value)(k0:Int)(B:Nat)(w0:World)(rs:List Qc)(e:Ending)(w':World):Prop:=∃ R,e=.returned (.int .i64 (k0+(szM m:Nat)))/\MX (mkM k0 m) v0 v1 v2 v3 v4 v5 v6 v7 v8 v9 v10 rs R/\Mo B w0 R w'
theorem Mo.box {B w0 V rs}(h:Mo B w0 rs V)(a:Array Value)(e n:Nat)(d:a.size=n):Mo B w0 (⟨e,n,1,.slice (some ⟨V.heap.size,0,none⟩) 1 1,a.toList⟩::rs) (V.alloc (.cells a e)):=by
 have c:Below V.heap.size V (V.alloc (.cells a e)):=bF.alloc lR _
 refine ⟨?_,h.b.trans (c.mono h.le),Nat.le_trans h.le c.size⟩
 have f:Qc.Ok V.heap.size (V.alloc (.cells a e)) ⟨e,n,1,.slice (some ⟨V.heap.size,0,none⟩) 1 1,a.toList⟩:=by
  subst d
  refine ⟨by simp,.inr ⟨V.heap.size,1,a,rfl,lR,?_,lR,by decide,by simp,?_⟩⟩
  . show (V.heap.push _)[V.heap.size]?=_
    exact Array.getElem?_push_size
  . show a.toList.take (1*a.size)=a.toList
    rw [List.take_of_length_le (by simp)]
 exact (Own.new h.own (h.own.keep c) (Own.one f) h.le).comm
theorem Mo.tail {B w0 V}{r:Qc}{rs:List Qc}(h:Mo B w0 (r::rs) V):Mo B w0 rs V:=⟨h.own.tail,h.b,h.le⟩
def Gr {α:Type}(L:Nat)(f:α->Nat)(c p:Nat)(r:Rs α):Prop:=∀ v p',r=.ok v p'->f v+9*p<=c+9*p'/\(p<=L->p'<=L)
section
variable {α β:Type} {L c p:Nat}
theorem Qf {f:α->Nat}{g:β->Nat}{r:Rs α}{k:α->Nat->Rs β}(h:Gr L f c p r)(b:∀ v p1,Gr L g (f v) p1 (k v p1)):Gr L g c p (r.bind k):=by
 intro v a e
 cases r with
 |bad er at_=>cases e
 |ok x p1 =>
  have j:=h x p1 rfl;have d:=b x p1 v a e
  exact ⟨by omega,λhp=>d.2 (j.2 hp)⟩
theorem QH {f:α->Nat}{v:α}(h:f v<=c):Gr L f c p (.ok v p):=λv' p' e=>by cases e;exact ⟨by omega,id⟩
theorem JD {f:α->Nat}{er at_:Int}:Gr L f c p (.bad er at_:Rs α):=λv' p' e=>by cases e
theorem QV {f:α->Nat}{P:Prop}[Decidable P]{a b:Rs α}(g:Gr L f c p a)(d:Gr L f c p b):Gr L f c p (if P then a else b):=by
 split
 · exact g
 . exact d
theorem Gr.le {f g:α->Nat}{r:Rs α}(h:Gr L f c p r)(hg:∀ v,g v<=f v):Gr L g c p r:=λv p' e=>by
 have a:=h v p' e;have b:=hg v
 exact ⟨by omega,a.2⟩
end
section
variable {L c:Nat} {bs:List Int}
theorem Gb (a:bs.length<=L)(p:Nat):Gr L (λ_=>c+9) c p (Qx bs p):=λv p' e=>by
 have d:=Gj e;have b:=takeM_le e
 exact ⟨by (try dsimp only);omega,λ_=>by omega⟩
theorem getR_le (s:Bool)(bs:List Int)(p:Nat)(B:Int):∀ (f k:Nat) (a:Int),(By.JK s bs p B f k a).2.2<=bs.length:=by
 intro f
 induction f with
 |zero=>intro k a;simp [By.JK]
 |succ f ih =>
  intro k a
  simp only [By.JK]
  split
  · exact Int.le_refl _
  . split
    · show (p:Int)+k+1<=_;omega
    . split
      · show (p:Int)+k+1<=_;omega
      . split
        · show (p:Int)+k+1<=_;omega
        . exact ih _ _
theorem gr_num {s:Bool}{B:Int}(hB:B<=64)(a:bs.length<=L)(p:Nat):Gr L (λ_=>c+9) c p (Qy s B bs p):=λv p' e=>by
 have d:=Xo hB e
 have b:p'<=bs.length:=by
  unfold Qy at e
  split at e
  · cases e
  . split at e
    · have:=getR_le s bs p B 10 0 0
      cases e
      omega
    . cases e
 exact ⟨by (try dsimp only);omega,λ_=>by omega⟩
theorem Xc (a:bs.length<=L)(p:Nat):Gr L (λ_=>c+9) c p (QK bs p):=gr_num (by omega) a p
theorem Gc (f:Int->Bool)(a:bs.length<=L)(p:Nat):Gr L (λ_=>c+9) c p (Qz f bs p):=Qf (Gb a p) λv p1=>QV (QH lR) JD
theorem gr_mark (k:Int)(a:bs.length<=L)(p:Nat):Gr L (λ_=>c+9) c p (Gs k bs p):=Qf (Gb a p) λv p1=>QV (QH lR) JD
theorem gr_flag (a:bs.length<=L)(p:Nat):Gr L (λ_=>c+9) c p (flagM bs p):=Qf (Gc _ a p) λv p1=>QH lR
theorem gr_rep {α:Type}{rd:Nat->Rs α}{sz:α->Nat}(h:∀ c p,Gr L (λx=>c+sz x) c p (rd p)):∀ (n:Nat) (a:List α) (c p:Nat),Gr L (λl=>c+Qb sz l) (c+Qb sz a) p (Q7 rd n a p)
 |0,a,c,p=>QH lR
 |n+1,a,c,p=>Qf (h _ p) λv p1=>by
  have:=gr_rep h n (a++[v]) c p1
  rw [QR,<- Nat.add_assoc] at this
  exact this
theorem gr_rep0 {α:Type}{rd:Nat->Rs α}{sz:α->Nat}(h:∀ c p,Gr L (λx=>c+sz x) c p (rd p))(n p:Nat):Gr L (λl=>c+Qb sz l) c p (Q7 rd n [] p):=gr_rep h n [] c p
theorem JV {α:Type}{rd:Nat->Rs α}{sz:α->Nat}(h:∀ c p,Gr L (λx=>c+sz x) c p (rd p))(a:bs.length<=L)(p:Nat):Gr L (λl=>c+9+Qb sz l) c p (Jj rd bs p):=Qf (Xc a p) λn p1=>gr_rep0 h _ p1
theorem sz_one {α:Type}(l:List α):Qb (λ_=>1) l=l.length:=by induction l with
 |nil=>rfl
 |cons x l ih=>rw [QQ,ih];simp;omega
theorem gr_size (E:Int)(a:bs.length<=L)(p:Nat):Gr L (λ_=>c+9) c p (Jl bs E p):=Qf (Xc a p) λn p1=>QV JD (QH lR)
theorem gr_bytes (n:Nat)(d:bs.length<=L)(p:Nat):Gr L (λb=>c+b.length) c p (JF bs n p):=by
 unfold JF
 split
 · intro v a e
   cases e
   exact ⟨by simp;omega,λ_=>by omega⟩
 . exact JD
theorem gr_nameG (a:bs.length<=L):∀ (n w p:Nat),Gr L (λ_=>c) c p (Jn bs n w p)
 |0,w,p=>by unfold Jn;exact QV JD (QH lR)
 |n+1,w,p=>by
  unfold Jn
  exact Qf ((Gb a p).le (g:=λ_=>c) (λ_=>by omega)) λv p1=>QV (gr_nameG a n _ p1) (QV (gr_nameG a n _ p1) JD)
theorem gr_name (E:Int)(a:bs.length<=L)(p:Nat):Gr L (λ_=>c+9) c p (Xa bs E p):=Qf (gr_size E a p) λn p1=>Qf (gr_nameG a _ _ _) λ_ p2=>QH lR
theorem gr_lim (a:bs.length<=L)(p:Nat):Gr L (λ_=>c+9) c p (XR bs p):=Qf (gr_flag a p) λh p1=>Qf (Xc a p1) λmn p2=>QV (Qf (Xc a p2) λmx p3=>QH (by omega)) (QH (by omega))
theorem gr_tab (a:bs.length<=L)(p:Nat):Gr L (λ_=>c+9) c p (GC bs p):=Qf (gr_mark _ a p) λ_ p1=>(gr_lim a p1).le λ_=>by omega
theorem gr_gty (a:bs.length<=L)(p:Nat):Gr L (λ_=>c+9) c p (gtyM bs p):=Qf (Gc _ a p) λt p1=>Qf (gr_flag a p1) λm p2=>QH (by omega)
theorem gr_ft (a:bs.length<=L)(p:Nat):Gr L (λx=>c+(1+QT x)) c p (ftM bs p):=Qf (gr_mark _ a p) λ_ p1=>Qf (JV (sz:=λ_=>1) (λc p=>(Gc _ a p).le λ_=>by omega) a p1) λps p2=>Qf (Xc a p2) λn p3=>QV JD (Qf (gr_rep0 (sz:=λ_=>1) (λc p=>(Gc _ a p).le λ_=>by omega) _ p3) λrs p4=>QH (by simp only [QT,sz_one];omega))
theorem gr_imp (E:Int)(d:bs.length<=L)(p:Nat):Gr L (λx=>c+(1+Qu x)) c p (XK bs E p):=Qf (gr_name E d p) λa p1=>Qf (gr_name E d p1) λb p2=>Qf (Gc _ d p2) λk p3=>QV (Qf (Xc d p3) λt p4=>QH (by simp only [Qu];omega)) (QV (Qf (gr_tab d p3) λt p4=>QH (by simp only [Qu];omega)) (QV (Qf (gr_lim d p3) λt p4=>QH (by simp only [Qu];omega)) (Qf (gr_gty d p3) λt p4=>QH (by simp only [Qu];omega))))
theorem gr_exp (E:Int)(b:bs.length<=L)(p:Nat):Gr L (λx=>c+(1+Q4 x)) c p (expM bs E p):=Qf (gr_name E b p) λa p1=>Qf (Gc _ b p1) λk p2=>Qf (Xc b p2) λi p3=>QH (by simp only [Q4];omega)
theorem gr_repM (b:bs.length<=L):∀ (n:Nat) (a:List Int) (c p:Nat),Gr L (λl=>c+l.length) (c+a.length) p (GP bs n a p)
 |0,a,c,p=>QH lR
 |n+1,a,c,p=>by
  unfold GP
  exact Qf ((gr_num (by omega) b p).le (g:=λ_=>c+(a.length+1)) (λ_=>by omega)) λv p1=>by
   have:=gr_repM b n (a++[v]) c p1
   rw [List.length_append] at this
   exact this
theorem gr_fix (n:Nat)(b:bs.length<=L)(p:Nat):Gr L (λ_=>c) c p (XC bs p n):=by
 unfold XC
 split
 · intro v a e
   cases e
   exact ⟨by (try dsimp only);omega,λ_=>by omega⟩
 . exact JD
theorem gr_dec (f j:Int)(d:bs.length<=L)(p:Nat):Gr L (λx=>c+x.l.length) c p (JQ f j bs p):=by
 have b:∀ (s:Bool) (B:Int) (hB:B<=64) (c p:Nat),Gr L (λ_=>c) c p (Qy s B bs p):=λs B hB c p=>(gr_num hB d p).le λ_=>by omega
 have k:∀ (c p:Nat),Gr L (λ_=>c) c p (onlyM bs p):=λc p=>Qf (Gb d p) λv p1=>QV (QH (by omega)) JD;have g:∀ (c p:Nat),Gr L (λ_=>c) c p (Xp bs p):=λc p=>Qf (Gb d p) λv p1=>QV (QH (by omega)) JD;unfold JQ
 refine QV (Qf (k c p) λa p1=>QH (by simp)) ?_
 refine QV (Qf (b _ _ (by omega) c p) λa p1=>QH (by simp)) ?_
 refine QV (Qf (f:=λl=>c+l.length) (Qf (b _ _ (by omega) c p) λn p1=>gr_repM d _ [] c p1) λl p1=>Qf (b _ _ (by omega) _ p1) λa p2=>QH lR) ?_
 refine QV (Qf (b _ _ (by omega) c p) λa p1=>Qf (g c p1) λ_ p2=>QH (by simp)) ?_
 refine QV (Qf (b _ _ (by omega) c p) λa p1=>Qf (b _ _ (by omega) c p1) λ_ p2=>QH (by simp)) ?_
 refine QV (Qf (g c p) λa p1=>QH (by simp)) ?_
 refine QV (Qf (b _ _ (by omega) c p) λa p1=>QH (by simp)) ?_
 refine QV (Qf (b _ _ (by omega) c p) λa p1=>QH (by simp)) ?_
 refine QV (Qf (gr_fix 4 d p) λa p1=>QH (by simp)) ?_
 refine QV (Qf (gr_fix 8 d p) λa p1=>QH (by simp)) ?_
 exact QH (by simp)
theorem gr_listG (b:bs.length<=L):∀ (f:Nat) (n:List Bool) (a:List In) (c p:Nat),Gr L (λl=>c+Qb QO l) (c+Qb QO a) p (Xl bs f n a p)
 |0,n,a,c,p=>by unfold Xl;exact JD
 |f+1,n,a,c,p=>by
  unfold Xl
  refine QV (QH lR) (Qf (f:=λ_=>c+Qb QO a+4) (Qf (Gb b p) λx p1=>QV JD (QH (by omega))) λop p1=>?_)
  cases Jf n op with
  |none=>exact JD
  |some n' =>
   refine Qf (gr_dec _ _ b p1) λx p2=>?_
   have:=gr_listG b f n' (a++[x]) c p2
   rw [QR,show QO x=4+x.l.length from rfl,<- Nat.add_assoc,<- Nat.add_assoc] at this
   exact this
theorem gr_list (a:bs.length<=L)(p:Nat):Gr L (λl=>c+Qb QO l) c p (Jx bs p):=gr_listG a _ _ [] c p
theorem gr_glob (a:bs.length<=L)(p:Nat):Gr L (λx=>c+(1+QG x)) c p (XH bs p):=Qf (gr_gty a p) λt p1=>Qf (gr_list a p1) λl p2=>QH (by simp only [QG];omega)
theorem gr_seg (a:bs.length<=L)(p:Nat):Gr L (λl=>c+9+Qb QO l) c p (segM bs p):=Qf (gr_mark _ a p) λ_ p1=>gr_list a p1
theorem gr_ele (a:bs.length<=L)(p:Nat):Gr L (λx=>c+(1+Ja x)) c p (Xk bs p):=Qf (gr_seg a p) λl p1=>Qf (JV (sz:=λ_=>1) (λc p=>(Xc a p).le λ_=>by omega) a p1) λfs p2=>QH (by simp only [Ja,sz_one];omega)
theorem gr_dat (E:Int)(a:bs.length<=L)(p:Nat):Gr L (λx=>c+(1+Jo x)) c p (Xq bs E p):=Qf (gr_seg a p) λl p1=>Qf (gr_size E a p1) λn p2=>Qf (gr_bytes _ a p2) λb p3=>QH (by simp only [Jo];omega)
theorem gr_cus (d E:Int)(f:bs.length<=L)(p:Nat):Gr L (λx=>c+(1+Ju x)) c p (Gy d bs E p):=Qf (gr_name E f p) λa p1=>Qf (gr_bytes _ f p1) λb p2=>QH (by simp only [Ju];omega)
theorem gr_grpG (b:bs.length<=L):∀ (k:Nat) (s:Int) (a:List Grp) (c p:Nat),Gr L (λl=>c+Qb Q8 l) (c+Qb Q8 a) p (XY bs k s a p)
 |0,s,a,c,p=>by unfold XY;exact QH lR
 |k+1,s,a,c,p=>by
  unfold XY
  refine Qf (Xc b p) λn p1=>QV JD (Qf ((Gc _ b p1).le (g:=λ_=>c+Qb Q8 a+2) (λ_=>by omega)) λt p2=>?_)
  have:=gr_grpG b k (s+n) (a++[⟨n,t⟩]) c p2
  rw [QR,show Q8 ⟨n,t⟩=2 from rfl,<- Nat.add_assoc] at this
  exact this
theorem gr_grp0 (a:bs.length<=L)(k:Nat)(s:Int)(p:Nat):Gr L (λl=>c+Qb Q8 l) c p (XY bs k s [] p):=gr_grpG a k s [] c p
theorem gr_bod (E:Int)(a:bs.length<=L)(p:Nat):Gr L (λx=>c+(1+Je x)) c p (bodM bs E p):=Qf (f:=λg=>c+9+Qb Q8 g) (Qf (Xc a p) λn p1=>gr_grp0 a _ _ p1) λg p1=>Qf (gr_list a p1) λl p2=>QH (by simp only [Je];omega)
end
theorem gr_within {α:Type}{L c:Nat}{f:α->Nat}{rd:List Int->Int->Nat->Rs α}(h:∀ bs:List Int,bs.length<=L->∀ E c p,Gr L (λx=>c+f x) c p (rd bs E p)){bs:List Int}(b:bs.length<=L)(E:Int)(p:Nat):Gr L (λx=>c+f x) c p (QU rd bs E p):=by
 refine Qf ((gr_size E b p).le (g:=λ_=>c) (λ_=>by omega)) λn p1=>?_
 intro v j e
 have d:=h (bs.take (p1+n.toNat)) (by simp;omega) (p1+n) c p1
 cases hM:rd (bs.take (p1+n.toNat)) (p1+n) p1 with
 |bad er a =>
  rw [hM] at e
  simp only at e
  split at e
  · split at e<;>cases e
  . cases e
 |ok x p2 =>
  rw [hM] at e
  simp only at e
  split at e
  · split at e<;>cases e
  . cases e
    exact d _ _ hM
def s1 {α:Type}(sz:α->Nat)(x:α):Nat:=1+sz x
def wM (m:Mod):Nat:=Qb (s1 QT) m.types+Qb (s1 Qu) m.imps+m.funcs.length+Qb (s1 Qo) m.tabs+Qb (s1 Qo) m.mems+Qb (s1 QG) m.globs+Qb (s1 Q4) m.exps+Qb (s1 Ja) m.elems+Qb (s1 Je) m.codes+Qb (s1 Jo) m.datas+Qb (s1 Ju) m.customs
theorem s1_split {α:Type}(sz:α->Nat)(l:List α):Qb (s1 sz) l=l.length+Qb sz l:=by
 induction l with
 |nil=>rfl
 |cons x l ih=>rw [QQ,QQ,ih];simp [s1];omega
theorem gr_sec (k b:Int)(m:Mod){L c:Nat}{bs:List Int}(a:bs.length<=L)(E:Int)(p:Nat):Gr L (λm'=>c+wM m') (c+wM m) p (Jk k b m bs E p):=by
 unfold Jk
 refine QV (Qf (gr_cus b E a p) λx p1=>QH (by simp only [wM,QR];simp only [show s1 Ju x=1+Ju x from rfl];omega)) ?_
 refine QV (Qf (JV (sz:=s1 QT) (λc p=>gr_ft a p) a p) λx p1=>QH (by simp only [wM,QL];omega)) ?_
 refine QV (Qf (JV (sz:=s1 Qu) (λc p=>gr_imp E a p) a p) λx p1=>QH (by simp only [wM,QL];omega)) ?_
 refine QV (Qf (JV (sz:=λ_=>1) (λc p=>(Xc a p).le λ_=>by omega) a p) λx p1=>QH (by simp only [wM,List.length_append,sz_one];omega)) ?_
 refine QV (Qf (JV (sz:=s1 Qo) (λc p=>(gr_tab a p).le λ_=>by simp only [s1,Qo];omega) a p) λx p1=>QH (by simp only [wM,QL];omega)) ?_
 refine QV (Qf (JV (sz:=s1 Qo) (λc p=>(gr_lim a p).le λ_=>by simp only [s1,Qo];omega) a p) λx p1=>QH (by simp only [wM,QL];omega)) ?_
 refine QV (Qf (JV (sz:=s1 QG) (λc p=>gr_glob a p) a p) λx p1=>QH (by simp only [wM,QL];omega)) ?_
 refine QV (Qf (JV (sz:=s1 Q4) (λc p=>gr_exp E a p) a p) λx p1=>QH (by simp only [wM,QL];omega)) ?_
 refine QV (Qf (Xc a p) λx p1=>QH (by simp only [wM];omega)) ?_
 refine QV (Qf (JV (sz:=s1 Ja) (λc p=>gr_ele a p) a p) λx p1=>QH (by simp only [wM];omega)) ?_
 refine QV (Qf (Xc a p) λn p1=>QV (Qf (gr_rep0 (sz:=s1 Je) (λc p=>gr_within (f:=s1 Je) (λbs hb E c p=>gr_bod E hb p) a E p) _ p1) λx p2=>QH (by simp only [wM];omega)) JD) ?_
 exact Qf (JV (sz:=s1 Jo) (λc p=>gr_dat E a p) a p) λx p1=>QH (by simp only [wM];omega)
theorem gr_modG {L:Nat}{bs:List Int}(d:bs.length<=L):∀ (f:Nat) (m:Mod) (last b:Int) (p:Nat),Gr L wM (wM m) p (Gq bs f m last b p)
 |0,m,last,b,p=>by unfold Gq;exact JD
 |f+1,m,last,b,p=>by
  unfold Gq
  refine QV ?_ (QV JD (QH lR))
  refine Qf (f:=λ_=>wM m) (Qf (Gb d p) λx p1=>QV JD (QV JD (QH (by omega)))) λk p1=>?_
  refine Qf (f:=λm'=>wM m') ?_ λm' p2=>gr_modG d f m' _ _ p2
  refine Qf ((gr_size JH d p1).le (g:=λ_=>wM m) (λ_=>by omega)) λn p2=>?_
  intro v l e
  have j:=gr_sec k b m (c:=0) (bs:=bs.take (p2+n.toNat)) (L:=L) (by simp;omega) (p2+n) p2
  cases hM:Jk k b m (bs.take (p2+n.toNat)) (p2+n) p2 with
  |bad er a =>
   rw [hM] at e
   simp only at e
   split at e
   · split at e<;>cases e
   . cases e
  |ok x p3 =>
   rw [hM] at e
   simp only at e
   split at e
   · split at e<;>cases e
   . cases e
     have:=j _ _ hM
     exact ⟨by have:=this.1;simp only [Nat.zero_add] at this;exact this,this.2⟩
theorem gr_hd {L:Nat}{bs:List Int}(a:bs.length<=L):∀ (n p:Nat),Gr L (λ_=>0) 0 p (hdG bs n p)
 |0,p=>QH lR
 |n+1,p=>by
  unfold hdG
  exact Qf ((Gb a p).le (g:=λ_=>0) (λ_=>by omega)) λx p1=>QV (gr_hd a n p1) JD
theorem wM_dec (bs:List Int):wM (XG bs).m<=589824:=by
 unfold XG
 split
 · exact Nat.zero_le _
 . rename_i b
   have h:=Qf (gr_hd (L:=bs.length) lR 8 0) (g:=wM) (k:=λ_ p=>Gq bs (bs.length+1) Mod.z 0 0 p) λv p1=>gr_modG lR _ Mod.z 0 0 p1
   cases hM:JM bs with
   |bad e a=>exact Nat.zero_le _
   |ok m p =>
    have:=h m p hM
    have c:=this.2 (Nat.zero_le _)
    show wM m<=589824
    omega
theorem lnM_dec (bs:List Int):LnM (XG bs).m/\szM (XG bs).m<=589824:=by
 have h:=wM_dec bs
 simp only [wM,s1_split] at h
 refine ⟨⟨?_,?_,?_,?_,?_,?_,?_,?_,?_,?_,?_⟩,?_⟩
 all_goals first|omega|(simp only [szM];omega)
theorem lr_nil {α:Type}{a:α->List Value->List Qc->Prop}(hr:∀ x c k,a x c k->k=[]):∀ {l:List α} {c:List Value} {k:List Qc},LR a l c k->k=[]:=by
 intro l
 induction l with
 |nil =>
  rintro c k ⟨d,b,f,rfl,rfl⟩
  have:d=[]:=by simpa using b
  subst this;rfl
 |cons x l ih =>
  intro c k h
  obtain ⟨c1,p,q,g,o,k2,rfl,rfl,b,j,f⟩:=LR.zip (X:=[]) h
  have m:g=[]:=by
   obtain ⟨d,n,r,rfl,rfl⟩:=b
   have:d=[]:=by simpa using n
   subst this;rfl
  rw [m,hr _ _ _ j,ih f];rfl
theorem lr_int:∀ {l:List Int} {c:List Value} {k:List Qc},LR RInt l c k->c=I l/\k=[]:=by
 intro l
 induction l with
 |nil =>
  rintro c k ⟨b,a,d,rfl,rfl⟩
  have:b=[]:=by simpa using a
  subst this;exact ⟨rfl,rfl⟩
 |cons x l ih =>
  intro c k h
  obtain ⟨c1,o,p,f,n,k2,rfl,rfl,a,g,d⟩:=LR.zip (X:=[]) h
  have j:c1=[]/\f=[]:=by
   obtain ⟨b,m,q,rfl,rfl⟩:=a
   have:b=[]:=by simpa using m
   subst this;exact ⟨rfl,rfl⟩
  obtain ⟨rfl,rfl⟩:=j;obtain ⟨rfl,rfl⟩:=g;obtain ⟨rfl,rfl⟩:=ih d
  exact ⟨rfl,rfl⟩
theorem mr_mx {m}{a0 a1 a2 a3 a4 a5 a6 a7 a8 a9 o:Option Addr}{n0 Z Y X V U S R O M d:Nat}{L}(h:MR m [.slice a0 m.types.length n0,.slice a1 m.imps.length Z,.slice a2 m.funcs.length Y,.slice a3 m.tabs.length X,.slice a4 m.mems.length V,.slice a5 m.globs.length U,.slice a6 m.exps.length S,.bool m.hasS,.int .i64 m.start,.slice a7 m.elems.length R,.slice a8 m.codes.length O,.slice a9 m.datas.length M,.slice o m.customs.length d] L)(rs:List Qc):MX m (.slice a0 m.types.length n0) (.slice a1 m.imps.length Z) (.slice a2 m.funcs.length Y) (.slice a3 m.tabs.length X) (.slice a4 m.mems.length V) (.slice a5 m.globs.length U) (.slice a6 m.exps.length S) (.slice a7 m.elems.length R) (.slice a8 m.codes.length O) (.slice a9 m.datas.length M) (.slice o m.customs.length d) rs (L.flatten++rs):=by
 obtain ⟨J,I,H,G,F,E,D,C,B,A,b,rfl⟩:∃ J I H G F E D C B A b,L=[J,I,H,G,F,E,D,C,B,A,b]:=by
  have:=h.ll
  match L,this with
  |[y0,y1,y2,y3,y4,y5,y6,y7,y8,y9,y10],_=>exact ⟨y0,y1,y2,y3,y4,y5,y6,y7,y8,y9,y10,rfl⟩
 obtain ⟨v,C0,K0,a,e2,u⟩:=h.types
 injection a with a
 injection e2 with e2
 subst a e2;obtain ⟨v,C1,K1,a,e2,n⟩:=h.imps
 injection a with a
 injection e2 with e2
 subst a e2;obtain rfl:=lr_nil (λx c k h=>h.2) n;obtain ⟨v,C2,K2,a,e2,t⟩:=h.funcs
 injection a with a
 injection e2 with e2
 subst a e2;obtain ⟨rfl,rfl⟩:=lr_int t;obtain ⟨v,C3,K3,a,e2,j⟩:=h.tabs
 injection a with a
 injection e2 with e2
 subst a e2;obtain rfl:=lr_nil (λx c k h=>h.2) j;obtain ⟨v,C4,K4,a,e2,g⟩:=h.mems
 injection a with a
 injection e2 with e2
 subst a e2;obtain rfl:=lr_nil (λx c k h=>h.2) g;obtain ⟨v,C5,K5,a,e2,s⟩:=h.globs
 injection a with a
 injection e2 with e2
 subst a e2;obtain ⟨v,C6,K6,a,e2,f⟩:=h.exps
 injection a with a
 injection e2 with e2
 subst a e2;obtain rfl:=lr_nil (λx c k h=>h.2) f;obtain ⟨v,C7,K7,a,e2,r⟩:=h.elems
 injection a with a
 injection e2 with e2
 subst a e2;obtain ⟨v,C8,K8,a,e2,q⟩:=h.codes
 injection a with a
 injection e2 with e2
 subst a e2;obtain ⟨v,C9,K9,a,e2,p⟩:=h.datas
 injection a with a
 injection e2 with e2
 subst a e2;obtain ⟨v,z,y,a,e2,l⟩:=h.customs
 injection a with a
 injection e2 with e2
 subst a e2
 refine ⟨C0,K0,C1,C3,C4,C5,K5,C6,C7,K7,C8,K8,C9,K9,z,y,u,n,j,g,s,f,r,q,p,l,?_⟩
 simp only [List.flatten_cons,List.flatten_nil,List.cons_append,List.append_assoc,List.nil_append,List.append_nil]
theorem Gt {α:Type}{k:α->List Value->List Qc->Prop}{At:Nat->Nat->α->Prop}{B T sz c:Nat}{w:World}{a:Option Addr}{xs:List α}{C:List Value}{K}(z:α)(f:∀ x cs rs,k x cs rs->cs.length=sz)(v:∀ b o x m n,k x m n->(∀ j,j<sz->w.cell? ⟨b,o+j,none⟩=m[j]?)->(∀ r ∈ n,r.Ok B w)->At b o x)(h:Qc.Ok B w ⟨T,sz,xs.length,.slice a xs.length c,C⟩)(q:LR k xs C K)(G:∀ r ∈ K,r.Ok B w):xs=[]\/∃ b off,a=some ⟨b,off,none⟩/\B<=b/\∀ i,i<xs.length->At b (off+i*sz) (xs.getD i z):=by
 by_cases h0:xs=[]
 . exact .inl h0
 . right
   have l:0<xs.length:=List.length_pos_iff.2 h0;obtain ⟨g,M,D,-⟩:=QI h l
   injection D with hv1 _ hv2
   subst hv1
   refine ⟨g,0,rfl,(World.ownsRow.lt h g rfl).1,λi hi=>?_⟩
   have p:xs=xs.take i++(xs[i]::xs.drop (i+1)):=by
    conv=>lhs;rw [<- List.take_append_drop i xs]
    rw [List.drop_eq_getElem_cons hi]
   have d:=q;rw [p] at d;obtain ⟨c1,m,O,J,n,k2,H,t,I,y,L⟩:=LR.zip d;have s:c1.length=i*sz:=by rw [LR.len (sz:=sz) f I,List.length_take,Nat.min_eq_left (Nat.le_of_lt hi)]
   have E:=f _ _ _ y;rw [show xs.getD i z=xs[i] by simp [List.getD,hi]]
   refine v _ _ _ m n y (λj hj=>?_) (λr hr=>G r (by rw [t];simp [hr]))
   have F:i*sz+j<xs.length*sz:=by
    have:i*sz+sz<=xs.length*sz:=by
     have:=Nat.mul_le_mul_right sz (show i+1<=xs.length from hi)
     rw [Nat.add_mul,Nat.one_mul] at this
     exact this
    omega
   rw [Nat.zero_add]
   refine (World.ownsRow.cellAt h (i*sz+j) F).trans ?_
   show C[i*sz+j]?=_
   obtain ⟨u,A⟩:∃ u,m[j]?=some u:=⟨_,List.getElem?_eq_getElem (by omega)⟩;rw [H,A]
   exact Qt s A
end Go.Proofs.YtedcmcdbejjgcaaGreat.Ms
