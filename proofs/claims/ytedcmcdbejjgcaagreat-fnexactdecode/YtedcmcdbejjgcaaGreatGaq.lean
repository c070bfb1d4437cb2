import Derived.Test.YtedcmcdbejjgcaaGreatGaa
import Derived.Test.YtedcmcdbejjgcaaGreatGap
import Derived.Laws.IdiomStrings
set_option linter.all false
set_option maxHeartbeats 400000000
set_option maxRecDepth 100000
namespace Go.Proofs.YtedcmcdbejjgcaaGreat
open Go.RowKit Go.Sort
def GU (k:Int):Bool:=decide (0<=k/\k<=3)
theorem uf_ge (l:Nat)(a b:Int)(p:Nat)(cs:List Int):uf l a b p cs=-1\/0<=uf l a b p cs:=by
 induction cs generalizing l a b p with
 |nil=>cases l<;>simp [uf]
 |cons c cs ih =>
  cases l with
  |zero =>
      simp only [uf];split
      · right;omega
      . exact ih _ _ _ _
  |succ l =>
      simp only [uf];split
      · right;omega
      . exact ih _ _ _ _
theorem ikind_c (x:Int)(w:World):Calls Tryz.prog 132 #[.int .i64 x] w λe w'=>e=.returned (.bool (GU x))/\w=w':=by
 go_enter Tryz.func132,Tryz.ntmps132
 go_wp2
 all_goals
  go_ret
  refine ⟨?_,rfl⟩
  simp [GU, *]
  try omega
def szs (x:Mod):List Int:=[0,x.types.length,x.imps.length,x.funcs.length,x.tabs.length,x.mems.length,x.globs.length,x.exps.length,(if x.hasS then 1 else 0),x.elems.length,x.codes.length,x.datas.length]
def Gi (x:Mod)(n:Int):Bool:=decide (0<=n/\n<12)&&decide (0<(szs x).getD n.toNat 0)
def Mod.Ln (x:Mod):Prop:=x.types.length<=1048576/\x.imps.length<=1048576/\x.funcs.length<=1048576/\x.tabs.length<=1048576/\x.mems.length<=1048576/\x.globs.length<=1048576/\x.exps.length<=1048576/\x.elems.length<=1048576/\x.codes.length<=1048576/\x.datas.length<=1048576/\x.customs.length<=1048576
def szN (x:Mod)(n:Int):Int:=if 0<=n/\n<12 then (szs x).getD n.toNat 0 else 0
theorem szN_writ (x:Mod)(n:Int):decide (0<szN x n)=Gi x n:=by
 unfold szN Gi
 by_cases h:0<=n/\n<12
 . simp [h]
 . simp [h]
theorem hidx_c (a:Option Addr)(n:Int)(w:World):Calls Tryz.prog 186 #[.slice a 12 12,.int .i64 n] w λe w'=>e=.returned (.bool (decide (0<=n/\n<12)))/\w=w':=by
 by_cases h0:0<=n
 . by_cases c:n<12
   . have b:decide (0<=n/\n<12)=true:=by simp [h0,c]
     rw [b];clear b
     go_enter Tryz.func186,Tryz.ntmps186
     go_wp2
     go_ret
     exact ⟨rfl,rfl⟩
   . have b:decide (0<=n/\n<12)=false:=by simp [c]
     rw [b];clear b
     go_enter Tryz.func186,Tryz.ntmps186
     go_wp2
     go_ret
     exact ⟨rfl,rfl⟩
 . have b:decide (0<=n/\n<12)=false:=by simp [h0]
   rw [b];clear b
   go_enter Tryz.func186,Tryz.ntmps186
   go_wp2
   go_ret
   exact ⟨rfl,rfl⟩
theorem isz_x:(∀ (x:Mod) (D:Option Addr) (c1:Nat) (C:Option Addr) (c2:Nat) (B:Option Addr) (c3:Nat) (A:Option Addr) (s:Nat) (z:Option Addr) (r:Nat) (y:Option Addr) (q:Nat) (v:Option Addr) (p:Nat) (u:Option Addr) (m:Nat) (t:Option Addr) (l:Nat) (g:Option Addr) (d:Nat) (f:Option Addr) (c:Nat) (n:Int) (w:World) (hl:x.Ln) (G:x.hasS=false),Calls Tryz.prog 116 #[.agg #[.slice D x.types.length c1,.slice C x.imps.length c2,.slice B x.funcs.length c3,.slice A x.tabs.length s,.slice z x.mems.length r,.slice y x.globs.length q,.slice v x.exps.length p,.bool x.hasS,.int .i64 x.start,.slice u x.elems.length m,.slice t x.codes.length l,.slice g x.datas.length d,.slice f x.customs.length c],.int .i64 n] w λe w'=>e=.returned (.int .i64 (szN x n))/\Below w.heap.size w w')/\(∀ (x:Mod) (D:Option Addr) (c1:Nat) (C:Option Addr) (c2:Nat) (B:Option Addr) (c3:Nat) (A:Option Addr) (s:Nat) (z:Option Addr) (r:Nat) (y:Option Addr) (q:Nat) (v:Option Addr) (p:Nat) (u:Option Addr) (m:Nat) (t:Option Addr) (l:Nat) (g:Option Addr) (d:Nat) (f:Option Addr) (c:Nat) (n:Int) (w:World) (hl:x.Ln) (G:x.hasS=true),Calls Tryz.prog 116 #[.agg #[.slice D x.types.length c1,.slice C x.imps.length c2,.slice B x.funcs.length c3,.slice A x.tabs.length s,.slice z x.mems.length r,.slice y x.globs.length q,.slice v x.exps.length p,.bool x.hasS,.int .i64 x.start,.slice u x.elems.length m,.slice t x.codes.length l,.slice g x.datas.length d,.slice f x.customs.length c],.int .i64 n] w λe w'=>e=.returned (.int .i64 (szN x n))/\Below w.heap.size w w'):=by
 refine ⟨?c0,?c1⟩
 case' c0=>have F:=0
 case' c1=>have t1:=0
 all_goals
  intro x D c1 C c2 B c3 A s z r y q v p u m t l g d f c n w hl G
  obtain ⟨l1,l2,l3,l4,l5,l6,l7,l8,l9,ag,af⟩:=hl;have H:=Hm (λa w=>hidx_c a n w);have E:=Hm G;clear G
  go_enter Tryz.func116,Tryz.ntmps116
  go_upto_region 1 with fail
  refine Ql (λW=>Bk W w.heap.size [.slice D x.types.length c1,.slice C x.imps.length c2,.slice B x.funcs.length c3,.slice A x.tabs.length s,.slice z x.mems.length r,.slice y x.globs.length q,.slice v x.exps.length p,.bool x.hasS,.int .i64 x.start,.slice u x.elems.length m,.slice t x.codes.length l,.slice g x.datas.length d,.slice f x.customs.length c]/\Below w.heap.size w W/\W.heap.size=w.heap.size+1) ⟨Bk.new,bF.alloc lR _,by simp⟩ ?_
  rintro W ⟨b,j,hs⟩;have q0:=b.2.1 0 _ rfl;have q1:=b.2.1 1 _ rfl;have Z:=b.2.1 2 _ rfl;have Y:=b.2.1 3 _ rfl;have X:=b.2.1 4 _ rfl;have U:=b.2.1 5 _ rfl;have S:=b.2.1 6 _ rfl;have M:=b.2.1 7 _ rfl;have R:=b.2.1 9 _ rfl;have J:=b.2.1 10 _ rfl;have I:=b.2.1 11 _ rfl;rw [E.o] at M;clear hs
  go_upto_region 5 with fail
  first|(replace F:=F;refine Ql (λV=>Bk V W.heap.size [.int .i64 0,.int .i64 x.types.length,.int .i64 x.imps.length,.int .i64 x.funcs.length,.int .i64 x.tabs.length,.int .i64 x.mems.length,.int .i64 x.globs.length,.int .i64 x.exps.length,.int .i64 0,.int .i64 x.elems.length,.int .i64 x.codes.length,.int .i64 x.datas.length]/\Below w.heap.size w V) ⟨Bk.new,j.trans (((Below.refl _ W).alloc lR _).mono j.size)⟩ ?_)|(refine Ql (λV=>Bk V W.heap.size [.int .i64 0,.int .i64 x.types.length,.int .i64 x.imps.length,.int .i64 x.funcs.length,.int .i64 x.tabs.length,.int .i64 x.mems.length,.int .i64 x.globs.length,.int .i64 x.exps.length,.int .i64 1,.int .i64 x.elems.length,.int .i64 x.codes.length,.int .i64 x.datas.length]/\Below w.heap.size w V) ⟨Bk.new,j.trans (((Below.refl _ W).alloc lR _).mono j.size)⟩ ?_)
  clear b j q0 q1 Z Y X U S M R J I;rintro V ⟨b,j⟩;have p0:=b.2.1 0 _ rfl;have p1:=b.2.1 1 _ rfl;have p2:=b.2.1 2 _ rfl;have p3:=b.2.1 3 _ rfl;have p4:=b.2.1 4 _ rfl;have p5:=b.2.1 5 _ rfl;have p6:=b.2.1 6 _ rfl;have p7:=b.2.1 7 _ rfl
  first|(replace F:=F;have p8:V.cell? ⟨W.heap.size,8,none⟩=some (.int .i64 0):=b.2.1 8 _ rfl)|(have p8:V.cell? ⟨W.heap.size,8,none⟩=some (.int .i64 1):=b.2.1 8 _ rfl)
  have p9:=b.2.1 9 _ rfl;have ae:=b.2.1 10 _ rfl;have ad:=b.2.1 11 _ rfl;clear b
  by_cases k:0<=n/\n<12
  . have L:n=0\/n=1\/n=2\/n=3\/n=4\/n=5\/n=6\/n=7\/n=8\/n=9\/n=10\/n=11:=by omega
    rw [decide_eq_true k] at H;clear k
    rcases L with rfl|rfl|rfl|rfl|rfl|rfl|rfl|rfl|rfl|rfl|rfl|rfl
    all_goals
     go_wp2_with (go_at_call 186;refine (H.o _ _).mono ?_;rintro e O ⟨rfl,rfl⟩)
     go_ret
     refine ⟨?_,j⟩
     have h0:=E.o
     simp [szN,szs,h0]
  . have HF:Hid (szN x n=0):=by show _=_;simp [szN,k]
    rw [decide_eq_false k] at H;clear k
    go_wp2_with (go_at_call 186;refine (H.o _ _).mono ?_;rintro e O ⟨rfl,rfl⟩)
    go_ret
    exact ⟨by rw [HF.o];rfl,j⟩
def isz_false:=isz_x.1
def isz_true:=isz_x.2
theorem isz_c (x:Mod)(y:Option Addr)(c1:Nat)(v:Option Addr)(c2:Nat)(u:Option Addr)(c3:Nat)(t:Option Addr)(m:Nat)(s:Option Addr)(l:Nat)(r:Option Addr)(k:Nat)(q:Option Addr)(j:Nat)(p:Option Addr)(g:Nat)(o:Option Addr)(f:Nat)(d:Option Addr)(b:Nat)(c:Option Addr)(a:Nat)(n:Int)(w:World)(hl:x.Ln) :
    Calls Tryz.prog 116 #[.agg #[.slice y x.types.length c1,.slice v x.imps.length c2,.slice u x.funcs.length c3,.slice t x.tabs.length m,.slice s x.mems.length l,.slice r x.globs.length k,.slice q x.exps.length j,.bool x.hasS,.int .i64 x.start,.slice p x.elems.length g,.slice o x.codes.length f,.slice d x.datas.length b,.slice c x.customs.length a],.int .i64 n] w λe w'=>e=.returned (.int .i64 (szN x n))/\Below w.heap.size w w':=by
 cases h:x.hasS
 . have:=isz_false x y c1 v c2 u c3 t m s l r k q j p g o f d b c a n w hl h;rw [h] at this;exact this
 . have:=isz_true x y c1 v c2 u c3 t m s l r k q j p g o f d b c a n w hl h;rw [h] at this;exact this
theorem isec_c (x:Mod)(F:Option Addr)(c1:Nat)(E:Option Addr)(c2:Nat)(D:Option Addr)(c3:Nat)(C:Option Addr)(t:Nat)(B:Option Addr)(s:Nat)(A:Option Addr)(r:Nat)(y:Option Addr)(q:Nat)(v:Option Addr)(p:Nat)(u:Option Addr)(m:Nat)(f:Option Addr)(c:Nat)(d:Option Addr)(b:Nat)(n:Int)(w:World)(hl:x.Ln) :
    Calls Tryz.prog 30 #[.agg #[.slice F x.types.length c1,.slice E x.imps.length c2,.slice D x.funcs.length c3,.slice C x.tabs.length t,.slice B x.mems.length s,.slice A x.globs.length r,.slice y x.exps.length q,.bool x.hasS,.int .i64 x.start,.slice v x.elems.length p,.slice u x.codes.length m,.slice f x.datas.length c,.slice d x.customs.length b],.int .i64 n] w λe w'=>e=.returned (.bool (Gi x n))/\Below w.heap.size w w':=by
 have KZ:=Hm (λ(w:World)=>isz_c x F c1 E c2 D c3 C t B s A r y q v p u m f c d b n w hl);have HW:=Hm (szN_writ x n);generalize szN x n=z at *
 go_enter Tryz.func30,Tryz.ntmps30
 go_upto_region 1 with fail
 refine Ql (λW=>Bk W w.heap.size [.slice F x.types.length c1,.slice E x.imps.length c2,.slice D x.funcs.length c3,.slice C x.tabs.length t,.slice B x.mems.length s,.slice A x.globs.length r,.slice y x.exps.length q,.bool x.hasS,.int .i64 x.start,.slice v x.elems.length p,.slice u x.codes.length m,.slice f x.datas.length c,.slice d x.customs.length b]/\Below w.heap.size w W/\W.heap.size=w.heap.size+1) ⟨Bk.new,bF.alloc lR _,by simp⟩ ?_
 rintro W ⟨a,H,Z⟩;have Y:=a.2.1 0 _ rfl;have X:=a.2.1 1 _ rfl;have V:=a.2.1 2 _ rfl;have U:=a.2.1 3 _ rfl;have S:=a.2.1 4 _ rfl;have R:=a.2.1 5 _ rfl;have O:=a.2.1 6 _ rfl;have M:=a.2.1 7 _ rfl;have L:=a.2.1 8 _ rfl;have J:=a.2.1 9 _ rfl;have l:=a.2.1 10 _ rfl;have k:=a.2.1 11 _ rfl;have j:=a.2.1 12 _ rfl;have I:=Hm H;clear a H Z
 go_wp2_with fail
 refine (KZ.o _).mono ?_
 rintro e w2 ⟨rfl,g⟩;have G:=Hm (I.o.trans (g.mono I.o.size));clear g Y X V U S R O M L J l k j
 go_wp2
 go_ret
 exact ⟨by rw [<- HW.o];rfl,G.o⟩
end Go.Proofs.YtedcmcdbejjgcaaGreat
namespace Go.Proofs.YtedcmcdbejjgcaaGreat.Nx
open Go.RowKit Go.Sort
theorem next_c (B:Nat)(f:Value)(n:List Bool)(g:Int)(w:World)(hB:B<=w.heap.size)(hl:n.length<=4194304)(t:hdF n)(h:w.ownsRow B 2 1 f (Jg n).length (I (Jg n))) :
    Calls Tryz.prog 126 #[opV f n.isEmpty false,.int .i64 g] w λe w'=>∃ va vn vc dn bd,e=.returned (opV (.slice va vn vc) dn bd)/\Ans n g (.slice va vn vc) dn bd B w'/\Rl f.ownBlock (.slice va vn vc) w w':=by
 refine Calls.mono (R:=λe w'=>∃ kv' dn bd,e=.returned (opV kv' dn bd)/\(∃ va vn vc,kv'=.slice va vn vc)/\Ans n g kv' dn bd B w'/\Rl f.ownBlock kv' w w') ?_ (λe w' ⟨kv',dn,bd,r,⟨va,vn,vc,p⟩,o,l⟩=>by subst p;exact ⟨va,vn,vc,dn,bd,r,o,l⟩)
 rcases t with rfl|⟨m,rfl⟩
 . exact (next_done B f _ g w hB h).mono λe w' ⟨va,vn,vc,a,b⟩=>⟨_,_,_,a,⟨va,vn,vc,rfl⟩,.inl ⟨by simp [Jf],rfl⟩,b⟩
 . have d:m.length<=4194304:=by simp at hl;omega
   rw [ksOf_cons] at h
   show Calls Tryz.prog 126 #[opV f false false,.int .i64 g] w _
   by_cases r:g=2\/g=3
   . have e:Jf (false::m) g=some (false::(m++[false])):=by simp [Jf,r]
     have k:∀ kv' (w':World),w'.ownsRow B 2 1 kv' (m.map bi++[0]).length (I (m.map bi++[0]))->w'.ownsRow B 2 1 kv' (Jg (false::(m++[false]))).length (I (Jg (false::(m++[false])))):=λkv' w' q=>by
      have:Jg (false::(m++[false]))=m.map bi++[0]:=by simp [Jg,bi]
      rw [this];exact q
     rcases r with rfl|rfl
     . exact (next_2 B f _ w hB (by simpa using d) h).mono λe' w' ⟨kv',a,b,c⟩=>⟨kv',_,_,a,sl b,.inr ⟨_,e,.inr ⟨_,rfl⟩,rfl,rfl,k kv' w' b⟩,c⟩
     . exact (next_3 B f _ w hB (by simpa using d) h).mono λe' w' ⟨kv',a,b,c⟩=>⟨kv',_,_,a,sl b,.inr ⟨_,e,.inr ⟨_,rfl⟩,rfl,rfl,k kv' w' b⟩,c⟩
   . by_cases p:g=4
     . subst p;have e:Jf (false::m) 4=some (false::(m++[true])):=by simp [Jf]
       refine (next_4 B f _ w hB (by simpa using d) h).mono λe' w' ⟨kv',a,b,c⟩=>⟨kv',_,_,a,sl b,.inr ⟨_,e,.inr ⟨_,rfl⟩,rfl,rfl,?_⟩,c⟩
       have:Jg (false::(m++[true]))=m.map bi++[1]:=by simp [Jg,bi]
       rw [this];exact b
     . by_cases o:g=5
       . subst o
         by_cases j:m=[]
         . subst j
           exact (next_5n B f w hB h).mono λe' w' ⟨va,vn,vc,a,b⟩=>⟨_,_,_,a,⟨va,vn,vc,rfl⟩,.inl ⟨by simp [Jf],rfl⟩,b⟩
         . obtain ⟨q,z,rfl⟩:∃ q z,m=q++[z]:=⟨m.dropLast,m.getLast j,(List.dropLast_concat_getLast j).symm⟩;have s:q.length<=4194304:=by simp at d;omega
           rw [List.map_append,List.map_cons,List.map_nil] at h
           cases z
           . exact (next_5z B f _ _ w hB (by simpa using s) rfl h).mono λe' w' ⟨va,vn,vc,a,b⟩=>⟨_,_,_,a,⟨va,vn,vc,rfl⟩,.inl ⟨stepM_e _ (false::q) false rfl,rfl⟩,b⟩
           . have e:Jf (false::(q++[true])) 5=some (false::(q++[false])):=stepM_e _ (false::q) true rfl
             refine (next_5 B f _ _ w hB (by simpa using s) (by decide) h).mono λe' w' ⟨kv',a,b,c⟩=>⟨kv',_,_,a,sl b,.inr ⟨_,e,.inr ⟨_,rfl⟩,rfl,rfl,?_⟩,c⟩
             have:Jg (false::(q++[false]))=q.map bi++[0]:=by simp [Jg,bi]
             rw [this];exact b
       . by_cases l:g=11
         . subst l
           by_cases j:m=[]
           . subst j;have e:Jf [false] 11=some []:=by simp [Jf]
             exact (next_11n B f w hB h).mono λe' w' ⟨kv',a,b,c⟩=>⟨kv',_,_,a,sl b,.inr ⟨_,e,.inl rfl,rfl,rfl,b⟩,c⟩
           . obtain ⟨q,z,rfl⟩:∃ q z,m=q++[z]:=⟨m.dropLast,m.getLast j,(List.dropLast_concat_getLast j).symm⟩;have s:q.length<=4194304:=by simp at d;omega
             rw [List.map_append,List.map_cons,List.map_nil] at h;have e:Jf (false::(q++[z])) 11=some (false::q):=stepM_x _ (false::q) z rfl
             exact (next_11 B f _ _ w hB (by simpa using s) h).mono λe' w' ⟨kv',a,b,c⟩=>⟨kv',_,_,a,sl b,.inr ⟨_,e,.inr ⟨_,rfl⟩,rfl,rfl,b⟩,c⟩
         . have e:Jf (false::m) g=some (false::m):=by simp only [Jf,r,p,o,l,if_false];simp
           exact (next_same B f _ g w hB (by omega) (by omega) p o l h).mono λe' w' ⟨kv',a,b,c⟩=>⟨kv',_,_,a,sl b,.inr ⟨_,e,.inr ⟨_,rfl⟩,rfl,rfl,b⟩,c⟩
end Go.Proofs.YtedcmcdbejjgcaaGreat.Nx
namespace Go.Proofs.YtedcmcdbejjgcaaGreat
open Go.RowKit Go.Sort
theorem eqB_any (a b)(s r:Nat)(xs:List Int)(w)(hl:xs.length<=1099511627776)(l:HI .u8 0 w a xs)(j:HI .u8 0 w b xs) :
    Calls Tryz.prog 11 #[.slice a xs.length s,.slice b xs.length r] w λe w'=>e=.returned (.bool true)/\∃ n,w'=w.drewN n:=by
 by_cases c:xs=[]
 . subst c;clear l j hl
   go_enter Tryz.func11,Tryz.ntmps11
   go_wp2
   refine wp_loop_rounds 1 ?_
   rw [rounds_succ]
   go_wp2
   go_ret
   exact ⟨rfl,0,rfl⟩
 . have g:0<xs.length:=List.length_pos_iff.2 c
   rcases l with h|⟨b1,o,rfl,_,f⟩
   . exact absurd h c
   rcases j with h|⟨y,t,rfl,_,q⟩
   . exact absurd h c
   clear c
   go_enter Tryz.func11,Tryz.ntmps11
   go_wp2
   go_loopw [5] (λi wr=>∃ k:Nat,k<=xs.length/\i=.int .i64 k/\∃ m,wr=w.drewN m) (λi _=>xs.length-(intOf i).toNat)
   case atStart=>exact ⟨0,Nat.zero_le _,rfl,0,rfl⟩
   case round =>
    obtain ⟨k,u,rfl,m,rfl⟩:=hrel
    by_cases d:k<xs.length
    . have v:(w.drewN m).cell? ⟨b1,o+k,none⟩=some (.int .u8 (xs.getD k 0)):=f k d;have p:(k:Int)<(xs.length:Int):=by omega
      go_wp2
      go_quiet (fail)
      go_wp2
      go_roundw
      case rel=>exact ⟨k+1,by omega,by go_num,_,rfl⟩
      case measure=>simp [intOf];omega
    . go_wp2
      go_ret
      exact ⟨rfl,m,rfl⟩
theorem two (w:World)(b z:List Value)(t a:TypeId):Bk ((w.alloc (.cells b.toArray t)).alloc (.cells z.toArray a)) w.heap.size b/\Bk ((w.alloc (.cells b.toArray t)).alloc (.cells z.toArray a)) (w.heap.size+1) z/\Below w.heap.size w ((w.alloc (.cells b.toArray t)).alloc (.cells z.toArray a)):=by
 refine ⟨Bk.new.past,?_,(bF.alloc lR _).alloc (by simp) _⟩
 have:=(Bk.new (w:=w.alloc (.cells b.toArray t)) (cs:=z) (t:=a))
 simpa using this
theorem reLimits_c (x:Qq)(w:World)(q:Qq.Is 0 w x)(f:Qq.Is 0 w x)(hl:Qq.LB 1048576 x) :
    Calls Tryz.prog 165 #[.agg #[.int .i64 x.min,.int .i64 x.max,.bool x.has],.agg #[.int .i64 x.min,.int .i64 x.max,.bool x.has]] w λe w'=>e=.returned (.bool true)/\Below w.heap.size w w':=by
 have d:Hid (Bk ((w.alloc (.cells #[.int .i64 x.min,.int .i64 x.max,.bool x.has] 96)).alloc (.cells #[.int .i64 x.min,.int .i64 x.max,.bool x.has] 96)) w.heap.size [.int .i64 x.min,.int .i64 x.max,.bool x.has]/\Bk ((w.alloc (.cells #[.int .i64 x.min,.int .i64 x.max,.bool x.has] 96)).alloc (.cells #[.int .i64 x.min,.int .i64 x.max,.bool x.has] 96)) (w.heap.size+1) [.int .i64 x.min,.int .i64 x.max,.bool x.has]/\Below w.heap.size w ((w.alloc (.cells #[.int .i64 x.min,.int .i64 x.max,.bool x.has] 96)).alloc (.cells #[.int .i64 x.min,.int .i64 x.max,.bool x.has] 96))):=two w [.int .i64 x.min,.int .i64 x.max,.bool x.has] [.int .i64 x.min,.int .i64 x.max,.bool x.has] 96 96
 go_enter Tryz.func165,Tryz.ntmps165
 go_upto_region 1 with fail
 refine Ql (λW=>Bk W w.heap.size [.int .i64 x.min,.int .i64 x.max,.bool x.has]/\Bk W (w.heap.size+1) [.int .i64 x.min,.int .i64 x.max,.bool x.has]/\Below w.heap.size w W) d.o ?_
 rintro W ⟨b,a,c⟩;clear d;have l:=b.2.1 0 _ rfl;have p:=a.2.1 0 _ rfl;have k:=b.2.1 1 _ rfl;have n:=a.2.1 1 _ rfl;have j:=b.2.1 2 _ rfl;have m:=a.2.1 2 _ rfl;have g:=Hm c;clear c b a
 go_wp2
 go_ret
 exact ⟨rfl,g.o⟩
theorem reGType_c (x:JX)(w:World)(n:JX.Is 0 w x)(f:JX.Is 0 w x)(hl:JX.LB 1048576 x) :
    Calls Tryz.prog 250 #[.agg #[.int .i64 x.ty,.bool x.mu],.agg #[.int .i64 x.ty,.bool x.mu]] w λe w'=>e=.returned (.bool true)/\Below w.heap.size w w':=by
 have d:Hid (Bk ((w.alloc (.cells #[.int .i64 x.ty,.bool x.mu] 98)).alloc (.cells #[.int .i64 x.ty,.bool x.mu] 98)) w.heap.size [.int .i64 x.ty,.bool x.mu]/\Bk ((w.alloc (.cells #[.int .i64 x.ty,.bool x.mu] 98)).alloc (.cells #[.int .i64 x.ty,.bool x.mu] 98)) (w.heap.size+1) [.int .i64 x.ty,.bool x.mu]/\Below w.heap.size w ((w.alloc (.cells #[.int .i64 x.ty,.bool x.mu] 98)).alloc (.cells #[.int .i64 x.ty,.bool x.mu] 98))):=two w [.int .i64 x.ty,.bool x.mu] [.int .i64 x.ty,.bool x.mu] 98 98
 go_enter Tryz.func250,Tryz.ntmps250
 go_upto_region 1 with fail
 refine Ql (λW=>Bk W w.heap.size [.int .i64 x.ty,.bool x.mu]/\Bk W (w.heap.size+1) [.int .i64 x.ty,.bool x.mu]/\Below w.heap.size w W) d.o ?_
 rintro W ⟨b,a,c⟩;clear d;have k:=b.2.1 0 _ rfl;have m:=a.2.1 0 _ rfl;have j:=b.2.1 1 _ rfl;have l:=a.2.1 1 _ rfl;have g:=Hm c;clear c b a
 go_wp2
 go_ret
 exact ⟨rfl,g.o⟩
theorem reGrp_c (x:Grp)(w:World)(p:Grp.Is 0 w x)(f:Grp.Is 0 w x)(hl:Grp.LB 1048576 x) :
    Calls Tryz.prog 299 #[.agg #[.int .i64 x.n,.int .i64 x.ty],.agg #[.int .i64 x.n,.int .i64 x.ty]] w λe w'=>e=.returned (.bool true)/\Below w.heap.size w w':=by
 have d:Hid (Bk ((w.alloc (.cells #[.int .i64 x.n,.int .i64 x.ty] 173)).alloc (.cells #[.int .i64 x.n,.int .i64 x.ty] 173)) w.heap.size [.int .i64 x.n,.int .i64 x.ty]/\Bk ((w.alloc (.cells #[.int .i64 x.n,.int .i64 x.ty] 173)).alloc (.cells #[.int .i64 x.n,.int .i64 x.ty] 173)) (w.heap.size+1) [.int .i64 x.n,.int .i64 x.ty]/\Below w.heap.size w ((w.alloc (.cells #[.int .i64 x.n,.int .i64 x.ty] 173)).alloc (.cells #[.int .i64 x.n,.int .i64 x.ty] 173))):=two w [.int .i64 x.n,.int .i64 x.ty] [.int .i64 x.n,.int .i64 x.ty] 173 173
 go_enter Tryz.func299,Tryz.ntmps299
 go_upto_region 1 with fail
 refine Ql (λW=>Bk W w.heap.size [.int .i64 x.n,.int .i64 x.ty]/\Bk W (w.heap.size+1) [.int .i64 x.n,.int .i64 x.ty]/\Below w.heap.size w W) d.o ?_
 rintro W ⟨b,a,c⟩;clear d;have k:=b.2.1 0 _ rfl;have m:=a.2.1 0 _ rfl;have j:=b.2.1 1 _ rfl;have l:=a.2.1 1 _ rfl;have g:=Hm c;clear c b a
 go_wp2
 go_ret
 exact ⟨rfl,g.o⟩
theorem reIn_c (x:In)(k:Option Addr)(c1:Nat)(c:Option Addr)(d:Nat)(w:World)(u:In.Is 0 w x k)(q:In.Is 0 w x c)(hl:In.LB 1048576 x) :
    Calls Tryz.prog 298 #[.agg #[.int .i64 x.op,.int .i64 x.a,.int .i64 x.b,.int .u64 x.v,.slice k x.l.length c1],.agg #[.int .i64 x.op,.int .i64 x.a,.int .i64 x.b,.int .u64 x.v,.slice c x.l.length d]] w λe w'=>e=.returned (.bool true)/\Below w.heap.size w w':=by
 have R:x.l.length<=1048576:=hl;have t:=u;clear u;have M:=Hm t;clear t;have n:=q;clear q;have s:=Hm n;clear n;have y:Hid (Bk ((w.alloc (.cells #[.int .i64 x.op,.int .i64 x.a,.int .i64 x.b,.int .u64 x.v,.slice k x.l.length c1] 170)).alloc (.cells #[.int .i64 x.op,.int .i64 x.a,.int .i64 x.b,.int .u64 x.v,.slice c x.l.length d] 170)) w.heap.size [.int .i64 x.op,.int .i64 x.a,.int .i64 x.b,.int .u64 x.v,.slice k x.l.length c1]/\Bk ((w.alloc (.cells #[.int .i64 x.op,.int .i64 x.a,.int .i64 x.b,.int .u64 x.v,.slice k x.l.length c1] 170)).alloc (.cells #[.int .i64 x.op,.int .i64 x.a,.int .i64 x.b,.int .u64 x.v,.slice c x.l.length d] 170)) (w.heap.size+1) [.int .i64 x.op,.int .i64 x.a,.int .i64 x.b,.int .u64 x.v,.slice c x.l.length d]/\Below w.heap.size w ((w.alloc (.cells #[.int .i64 x.op,.int .i64 x.a,.int .i64 x.b,.int .u64 x.v,.slice k x.l.length c1] 170)).alloc (.cells #[.int .i64 x.op,.int .i64 x.a,.int .i64 x.b,.int .u64 x.v,.slice c x.l.length d] 170))):=two w [.int .i64 x.op,.int .i64 x.a,.int .i64 x.b,.int .u64 x.v,.slice k x.l.length c1] [.int .i64 x.op,.int .i64 x.a,.int .i64 x.b,.int .u64 x.v,.slice c x.l.length d] 170 170
 go_enter Tryz.func298,Tryz.ntmps298
 go_upto_region 1 with fail
 refine Ql (λW=>Bk W w.heap.size [.int .i64 x.op,.int .i64 x.a,.int .i64 x.b,.int .u64 x.v,.slice k x.l.length c1]/\Bk W (w.heap.size+1) [.int .i64 x.op,.int .i64 x.a,.int .i64 x.b,.int .u64 x.v,.slice c x.l.length d]/\Below w.heap.size w W) y.o ?_
 rintro W ⟨g,f,m⟩;clear y;have D:=g.2.1 0 _ rfl;have I:=f.2.1 0 _ rfl;have C:=g.2.1 1 _ rfl;have H:=f.2.1 1 _ rfl;have B:=g.2.1 2 _ rfl;have G:=f.2.1 2 _ rfl;have A:=g.2.1 3 _ rfl;have F:=f.2.1 3 _ rfl;have z:=g.2.1 4 _ rfl;have E:=f.2.1 4 _ rfl;have r:=Hm (eq_any k c c1 d x.l W (by omega) (M.o.up (Qh m)).has (s.o.up (Qh m)).has)
 go_wp2_with fail
 refine r.o.mono ?_
 rintro e L ⟨rfl,J,p⟩;have j:Below W.heap.size W L:=by rw [p];exact J6 bF _
 clear p;have g:=g.keep j;have f:=f.keep j;have m:=m.trans (j.mono m.size);clear r j;have D:=g.2.1 0 _ rfl;have I:=f.2.1 0 _ rfl;have C:=g.2.1 1 _ rfl;have H:=f.2.1 1 _ rfl;have B:=g.2.1 2 _ rfl;have G:=f.2.1 2 _ rfl;have A:=g.2.1 3 _ rfl;have F:=f.2.1 3 _ rfl;have z:=g.2.1 4 _ rfl;have E:=f.2.1 4 _ rfl;have O:=Hm m;clear m g f
 go_wp2
 go_ret
 exact ⟨rfl,O.o⟩
theorem reIns_c (a a':Option Addr)(c c':Nat)(xs:List In)(w:World)(hl:xs.length<=1048576/\∀ i,i<xs.length->In.LB 1048576 (xs.getD i I0))(h:In.Ls 0 w a xs)(h':In.Ls 0 w a' xs) :
    Calls Tryz.prog 251 #[.slice a xs.length c,.slice a' xs.length c'] w λe w'=>e=.returned (.bool true)/\Below w.heap.size w w':=by
 obtain ⟨hn,hl⟩:=hl;have H1:=Hm h;have H2:=Hm h';have H3:=Hm hl;clear h h' hl
 go_enter Tryz.func251,Tryz.ntmps251
 go_wp2
 go_loopw [5] (λi wr=>∃ k:Nat,k<=xs.length/\i=.int .i64 k/\Below w.heap.size w wr) (λi _=>xs.length-(intOf i).toNat)
 case atStart=>exact ⟨0,Nat.zero_le _,rfl,bF⟩
 case round =>
  obtain ⟨k,hk,rfl,q⟩:=hrel
  by_cases f:k<xs.length
  . have ap:(k:Int)<(xs.length:Int):=by omega
    rcases H1.o.up (Qh q) with G|⟨b,o,ea,_,hc⟩
    . subst G;simp at f
    rcases H2.o.up (Qh q) with G|⟨b',o',ea',_,n⟩
    . subst G;simp at f
    have g1:=hc k f;have g2:=n k f;have hl:=H3.o k f;subst ea ea';generalize xs.getD k I0=x at g1 g2 hl;obtain ⟨a1,c1,⟨R,O,M,L,J⟩,Z⟩:=g1;obtain ⟨s,r,⟨Y,X,V,U,S⟩,m⟩:=g2;have A:=cell_regrown R;have F:=cell_regrown Y;have z:=cell_regrown O;have E:=cell_regrown X;have y:=cell_regrown M;have D:=cell_regrown V;have u:=cell_regrown L;have C:=cell_regrown U;have t:=cell_regrown J;have B:=cell_regrown S;have cE:∀ d os,Calls Tryz.prog 298 #[.agg #[.int .i64 x.op,.int .i64 x.a,.int .i64 x.b,.int .u64 x.v,.slice a1 x.l.length c1],.agg #[.int .i64 x.op,.int .i64 x.a,.int .i64 x.b,.int .u64 x.v,.slice s x.l.length r]] (grow (redrawn wr d) os) λe w''=>e=.returned (.bool true)/\∃ p:Regrown,w''=grow (redrawn wr p.d) p.os:=λd os=>Calls.regrown_of (reIn_c x a1 c1 s r _ (Z.up (Qh (below_regrown wr d os))) (m.up (Qh (below_regrown wr d os))) hl);have HB:=Hm q;have HE:=Hm cE;clear q hc n Z m hl H1 H2 H3 cE R Y O X M V L U J S
    go_wp2
    refine wp_region_quiet_below (by kernel_rfl) (by kernel_rfl) ?_
    repeat (quiet_step (exact HE.o _ _))
    refine wpQuiet_nil ?_
    intro _ I
    obtain ⟨⟨dq,g⟩,j⟩:=I;subst j;have H:=HB.o.trans ((below_regrown wr dq g).mono HB.o.size);clear A F z E y D u C t B;generalize grow (redrawn wr dq) g=w5 at *
    show Exit.then _ _ Exit.normal _ w5
    go_wp2
    go_roundw
    case rel=>exact ⟨k+1,by omega,by go_num,H⟩
    case measure=>simp [intOf];omega
  . go_wp2
    go_ret
    exact ⟨rfl,q⟩
theorem reLimitss_c (a U:Option Addr)(c c':Nat)(xs:List Qq)(w:World)(hl:xs.length<=1048576/\∀ i,i<xs.length->Qq.LB 1048576 (xs.getD i Qq.z))(h:Qq.Ls 0 w a xs)(L:Qq.Ls 0 w U xs) :
    Calls Tryz.prog 87 #[.slice a xs.length c,.slice U xs.length c'] w λe w'=>e=.returned (.bool true)/\Below w.heap.size w w':=by
 obtain ⟨hn,hl⟩:=hl;have Z:=Hm h;have Y:=Hm L;have X:=Hm hl;clear h L hl
 go_enter Tryz.func87,Tryz.ntmps87
 go_wp2
 go_loopw [5] (λi wr=>∃ k:Nat,k<=xs.length/\i=.int .i64 k/\Below w.heap.size w wr) (λi _=>xs.length-(intOf i).toNat)
 case atStart=>exact ⟨0,Nat.zero_le _,rfl,bF⟩
 case round =>
  obtain ⟨k,hk,rfl,n⟩:=hrel
  by_cases f:k<xs.length
  . have aa:(k:Int)<(xs.length:Int):=by omega
    rcases Z.o.up (Qh n) with y|⟨b,o,ea,_,J⟩
    . subst y;simp at f
    rcases Y.o.up (Qh n) with y|⟨b',o',ea',_,m⟩
    . subst y;simp at f
    have O:=J k f;have M:=m k f;have hl:=X.o k f;subst ea ea';generalize xs.getD k Qq.z=x at O M hl;obtain ⟨⟨E,D,C⟩,I⟩:=O;obtain ⟨⟨H,G,F⟩,l⟩:=M;have s:=cell_regrown E;have v:=cell_regrown H;have r:=cell_regrown D;have u:=cell_regrown G;have q:=cell_regrown C;have t:=cell_regrown F;have S:∀ d os,Calls Tryz.prog 165 #[.agg #[.int .i64 x.min,.int .i64 x.max,.bool x.has],.agg #[.int .i64 x.min,.int .i64 x.max,.bool x.has]] (grow (redrawn wr d) os) λe w''=>e=.returned (.bool true)/\∃ p:Regrown,w''=grow (redrawn wr p.d) p.os:=λd os=>Calls.regrown_of (reLimits_c x _ (I.up (Qh (below_regrown wr d os))) (l.up (Qh (below_regrown wr d os))) hl);have V:=Hm n;have HE:=Hm S;clear n J m I l hl Z Y X S E H D G C F
    go_wp2
    refine wp_region_quiet_below (by kernel_rfl) (by kernel_rfl) ?_
    repeat (quiet_step (exact HE.o _ _))
    refine wpQuiet_nil ?_
    intro _ B
    obtain ⟨⟨R,g⟩,j⟩:=B;subst j;have A:=V.o.trans ((below_regrown wr R g).mono V.o.size);clear s v r u q t;generalize grow (redrawn wr R) g=w5 at *
    show Exit.then _ _ Exit.normal _ w5
    go_wp2
    go_roundw
    case rel=>exact ⟨k+1,by omega,by go_num,A⟩
    case measure=>simp [intOf];omega
  . go_wp2
    go_ret
    exact ⟨rfl,n⟩
theorem reGrps_c (a O:Option Addr)(c Y:Nat)(xs:List Grp)(w:World)(hl:xs.length<=1048576/\∀ i,i<xs.length->Grp.LB 1048576 (xs.getD i Grp.z))(h:Grp.Ls 0 w a xs)(H:Grp.Ls 0 w O xs) :
    Calls Tryz.prog 252 #[.slice a xs.length c,.slice O xs.length Y] w λe w'=>e=.returned (.bool true)/\Below w.heap.size w w':=by
 obtain ⟨hn,hl⟩:=hl;have V:=Hm h;have U:=Hm H;have S:=Hm hl;clear h H hl
 go_enter Tryz.func252,Tryz.ntmps252
 go_wp2
 go_loopw [5] (λi wr=>∃ k:Nat,k<=xs.length/\i=.int .i64 k/\Below w.heap.size w wr) (λi _=>xs.length-(intOf i).toNat)
 case atStart=>exact ⟨0,Nat.zero_le _,rfl,bF⟩
 case round =>
  obtain ⟨k,hk,rfl,q⟩:=hrel
  by_cases f:k<xs.length
  . have X:(k:Int)<(xs.length:Int):=by omega
    rcases V.o.up (Qh q) with v|⟨b,o,ea,_,G⟩
    . subst v;simp at f
    rcases U.o.up (Qh q) with v|⟨b',o',ea',_,m⟩
    . subst v;simp at f
    have J:=G k f;have I:=m k f;have hl:=S.o k f;subst ea ea';generalize xs.getD k Grp.z=x at J I hl;obtain ⟨⟨C,B⟩,F⟩:=J;obtain ⟨⟨E,D⟩,l⟩:=I;have s:=cell_regrown C;have u:=cell_regrown E;have r:=cell_regrown B;have t:=cell_regrown D;have M:∀ d os,Calls Tryz.prog 299 #[.agg #[.int .i64 x.n,.int .i64 x.ty],.agg #[.int .i64 x.n,.int .i64 x.ty]] (grow (redrawn wr d) os) λe w''=>e=.returned (.bool true)/\∃ p:Regrown,w''=grow (redrawn wr p.d) p.os:=λd os=>Calls.regrown_of (reGrp_c x _ (F.up (Qh (below_regrown wr d os))) (l.up (Qh (below_regrown wr d os))) hl);have R:=Hm q;have Z:=Hm M;clear q G m F l hl V U S M C E B D
    go_wp2
    refine wp_region_quiet_below (by kernel_rfl) (by kernel_rfl) ?_
    repeat (quiet_step (exact Z.o _ _))
    refine wpQuiet_nil ?_
    intro _ A
    obtain ⟨⟨L,g⟩,j⟩:=A;subst j;have y:=R.o.trans ((below_regrown wr L g).mono R.o.size);clear s u r t;generalize grow (redrawn wr L) g=w5 at *
    show Exit.then _ _ Exit.normal _ w5
    go_wp2
    go_roundw
    case rel=>exact ⟨k+1,by omega,by go_num,y⟩
    case measure=>simp [intOf];omega
  . go_wp2
    go_ret
    exact ⟨rfl,q⟩
end Go.Proofs.YtedcmcdbejjgcaaGreat
