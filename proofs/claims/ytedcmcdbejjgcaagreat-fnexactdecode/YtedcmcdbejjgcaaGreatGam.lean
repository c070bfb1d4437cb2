import Derived.Test.YtedcmcdbejjgcaaGreatGaa
import Derived.Test.YtedcmcdbejjgcaaGreatGaj
import Derived.Test.YtedcmcdbejjgcaaGreatGak
import Derived.Test.YtedcmcdbejjgcaaGreatGal
import Derived.Test.YtedcmcdbejjgcaaGreatGai
import Derived.Laws.BitsLemmas
import Derived.Deep.Cut
set_option linter.all false
set_option maxHeartbeats 400000000
set_option maxRecDepth 100000
namespace Go.Proofs.YtedcmcdbejjgcaaGreat
open Go.RowKit Go.Sort
theorem take_c (q ba bc bs p w)(h:Rd w q ba bc bs p)(hl:bs.length<=1099511627776) :
    Calls Tryz.prog 77 #[.pointer (some ⟨q,0,none⟩)] w (RdP (Qx bs p) (λv=>.int .u8 v) w q ba bc bs):=by
 by_cases a:bs.length<=p
 . refine (XP q ba bc bs p w h a).mono λe w' ⟨h1,h2⟩=>⟨h2,?_⟩
   simp only [Qx,a,if_true]
   exact h1
 . refine (GG q ba bc bs p w h (by omega) hl).mono λe w' ⟨h1,h2,h3⟩=>⟨h3,?_⟩
   simp only [Qx,a,if_false]
   exact ⟨h1,h2⟩
theorem Xn {bs}(a:Qm bs){p p1:Nat}{v:Int}(h:Qx bs p=.ok v p1):0<=v/\v<=255:=by
 unfold Qx at h
 split at h
 · cases h
 . cases h;exact a p
theorem getU_bd (bs)(n:Qm bs)(p:Nat):∀ (f k:Nat) (a:Int),0<=a->a<By.P2 (7*(k:Int))->7*(k:Int)<32->(By.JK false bs p 32 f k a).1=0->0<=(By.JK false bs p 32 f k a).2.1/\(By.JK false bs p 32 f k a).2.1<=4294967295:=by
 intro f
 induction f with
 |zero=>intro k a _ _ _ _;simp [By.JK]
 |succ f ih =>
  intro k a h0 d o b
  have q:=n (p+k);have g:k=0\/k=1\/k=2\/k=3\/k=4:=by omega
  by_cases c0:bs.length<=p+k
  . rw [By.Oi c0] at b;simp at b
  by_cases c1:32-7*(k:Int)<=7/\128<=bs.getD (p+k) 0
  . rw [By.Ge (by omega) c1.1 c1.2] at b;simp at b
  by_cases j:32-7*(k:Int)<=7/\By.rok false (bs.getD (p+k) 0) (32-7*(k:Int))=false
  . rw [By.Gf (by omega) j.1 (by omega) j.2] at b;simp at b
  by_cases c3:bs.getD (p+k) 0<128
  . have m:32-7*(k:Int)<=7->By.rok false (bs.getD (p+k) 0) (32-7*(k:Int))=true:=λh=>by
      cases hh:By.rok false (bs.getD (p+k) 0) (32-7*(k:Int)) with
      |false=>exact absurd ⟨h,hh⟩ j
      |true=>rfl
    rw [By.GW (by omega) c3 m]
    simp only [By.fin,Bool.false_eq_true,false_and,if_false]
    generalize bs.getD (p+k) 0=c at *
    rcases g with rfl|rfl|rfl|rfl|rfl
    . rw [show By.P2 (7*((0:Nat):Int))=1 by decide] at d⊢;omega
    . rw [show By.P2 (7*((1:Nat):Int))=128 by decide] at d⊢;omega
    . rw [show By.P2 (7*((2:Nat):Int))=16384 by decide] at d⊢;omega
    . rw [show By.P2 (7*((3:Nat):Int))=2097152 by decide] at d⊢;omega
    . rw [show By.P2 (7*((4:Nat):Int))=268435456 by decide] at d⊢
      have:=m (by decide)
      simp only [By.rok] at this
      rw [show (32:Int)-7*((4:Nat):Int)=4 by decide] at this;rw [show By.P2 4=16 by decide] at this
      simp at this
      omega
  . rw [By.Gd (by omega) (by omega) (by omega)] at b⊢;have l:=By.G6 a (bs.getD (p+k) 0) k h0 d
    exact ih (k+1) _ l.1 l.2 (by omega) b
theorem getR_bd (s:Bool)(bs:List Int)(p:Nat)(B:Int):∀ (f k:Nat) (a:Int),0<=(By.JK s bs p B f k a).2.1/\(By.JK s bs p B f k a).2.1<=18446744073709551615:=by
 intro f
 induction f with
 |zero=>intro k a;simp [By.JK]
 |succ f ih =>
  intro k a
  simp only [By.JK]
  repeat' split
  all_goals first|exact ih _ _|(simp only [By.fin];split<;>omega)|(constructor<;>simp)
theorem Jq {bs}(a:Qm bs){p p1:Nat}{v:Int}(h:Qy false 32 bs p=.ok v p1):0<=v/\v<=4294967295:=by
 unfold Qy at h
 split at h
 · cases h
 . split at h
   · rename_i h0
     cases h
     exact getU_bd bs a p 10 0 0 (by omega) (by decide) (by omega) h0
   . cases h
theorem num_bd {s:Bool}{B:Int}{bs:List Int}{p p1:Nat}{v:Int}(h:Qy s B bs p=.ok v p1):0<=v/\v<=18446744073709551615:=by
 unfold Qy at h
 split at h
 · cases h
 . split at h
   · cases h
     exact getR_bd s bs p B 10 0 0
   . cases h
theorem JR (q ba bc bs p w)(h:Rd w q ba bc bs p)(d:Qm bs)(hl:bs.length<=1099511627776) :
    Calls Tryz.prog 235 #[.pointer (some ⟨q,0,none⟩)] w (RdP (Qy false 32 bs p) (λv=>.int .i64 v) w q ba bc bs):=by
 have K:=Hm (numU_c q ba bc bs p 32 w h d hl (by omega) (by omega));have a:=λv p1=>Jq (p:=p) (p1:=p1) (v:=v) d;generalize Qy false 32 bs p=M at *
 cases M with
 |bad er at_ =>
  clear a h
  go_enter Tryz.func235,Tryz.ntmps235
  go_wp2_with fail
  refine (K.o).mono ?_
  rintro e f ⟨b,rfl⟩
  exact ⟨rfl,b,rfl⟩
 |ok v p1 =>
  obtain ⟨v0,v1⟩:=a v p1 rfl;have k:wrap64 v=v:=by unfold wrap64;omega
  clear a h
  go_enter Tryz.func235,Tryz.ntmps235
  go_wp2_with fail
  refine (K.o).mono ?_
  rintro e f ⟨b,rfl,c⟩;have j:=Hm b;have g:=Hm c;clear b c K
  go_wp2_with fail
  go_ret
  exact ⟨j.o,rfl,g.o⟩
def onlyM (bs:List Int)(p:Nat):Rs Int:=(Qx bs p).bind λx p1=>if (decide (x=64) || tyB x) then .ok x p1 else .bad 8 p1
def Xp (bs:List Int)(p:Nat):Rs Unit:=(Qx bs p).bind λx p1=>if x=0 then .ok () p1 else .bad 8 p1
theorem only_c (q ba bc bs p w)(h:Rd w q ba bc bs p)(k:Qm bs)(hl:bs.length<=1099511627776) :
    Calls Tryz.prog 285 #[.pointer (some ⟨q,0,none⟩),.func (.func 271) #[] #[]] w (RdP (onlyM bs p) (λv=>.int .i64 v) w q ba bc bs):=by
 have K:=Hm (take_c q ba bc bs p w h hl);have a:=λv p1=>Xn (p:=p) (p1:=p1) (v:=v) k;unfold onlyM;generalize Qx bs p=M at *
 cases M with
 |bad er at_ =>
  clear a h
  go_enter Tryz.func285,Tryz.ntmps285
  go_wp2_with fail
  refine (K.o).mono ?_
  rintro e d ⟨b,rfl⟩
  exact ⟨rfl,b,rfl⟩
 |ok v p1 =>
  obtain ⟨v0,v1⟩:=a v p1 rfl;have f:=Hm (ibt_c v)
  show Calls _ _ _ _ (RdP (if (decide (v=64) || tyB v) then .ok v p1 else .bad 8 p1) _ _ _ _ _ _)
  generalize (decide (v=64) || tyB v)=z at *;clear a h
  go_enter Tryz.func285,Tryz.ntmps285
  go_wp2_with fail
  refine (K.o).mono ?_
  rintro e d ⟨b,rfl,c⟩;have g:=Hm b;have m:=Hm c;have l:=Hm (JE q 8 p1 d c.c1);clear b c K
  cases z
  . go_wp2_with (refine (f.o _).mono ?_;rintro e j ⟨rfl,rfl⟩)
    refine (l.o).mono ?_
    rintro e n ⟨rfl,rfl⟩
    exact ⟨rfl,g.o,rfl⟩
  . go_wp2_with (refine (f.o _).mono ?_;rintro e j ⟨rfl,rfl⟩)
    go_ret
    exact ⟨g.o,rfl,m.o⟩
theorem mark_rc (q ba bc bs p w)(h:Rd w q ba bc bs p)(m:Qm bs)(hl:bs.length<=1099511627776) :
    Calls Tryz.prog 281 #[.pointer (some ⟨q,0,none⟩),.int .u8 0] w (RdP (Xp bs p) (λ_=>.tuple #[]) w q ba bc bs):=by
 have K:=Hm (take_c q ba bc bs p w h hl);unfold Xp;generalize Qx bs p=M at *
 cases M with
 |bad er at_ =>
  clear h
  go_enter Tryz.func281,Tryz.ntmps281
  go_wp2_with fail
  refine (K.o).mono ?_
  rintro e c ⟨a,rfl⟩
  exact ⟨rfl,a,rfl⟩
 |ok v p1 =>
  show Calls _ _ _ _ (RdP (if v=0 then .ok () p1 else .bad 8 p1) _ _ _ _ _ _)
  clear h
  by_cases d:v=0
  . subst d
    go_enter Tryz.func281,Tryz.ntmps281
    go_wp2_with fail
    refine (K.o).mono ?_
    rintro e c ⟨a,rfl,b⟩;have f:=Hm a;have k:=Hm b;clear a b K
    go_wp2_with fail
    go_end0
    exact ⟨f.o,rfl,k.o⟩
  . have g:(v != 0)=true:=by simpa using d
    rw [if_neg d]
    go_enter Tryz.func281,Tryz.ntmps281
    go_wp2_with fail
    refine (K.o).mono ?_
    rintro e c ⟨a,rfl,b⟩;have f:=Hm a;have j:=Hm (JE q 8 p1 c b.c1);clear a b K
    go_wp2_with fail
    refine (j.o).mono ?_
    rintro e l ⟨rfl,rfl⟩
    exact ⟨rfl,f.o,rfl⟩
end Go.Proofs.YtedcmcdbejjgcaaGreat
namespace Go.Proofs.YtedcmcdbejjgcaaGreat
open Go.RowKit Go.Sort
def sumB (bs:List Int)(p:Nat):Nat->Int
 |0=>0
 |k+1=>sumB bs p k+bs.getD (p+k) 0*2 ^ (8*k)
def XC (bs:List Int)(p n:Nat):Rs Int:=if p+n<=bs.length then .ok (sumB bs p n) (p+n) else .bad 2 bs.length
theorem pow8 (k:Nat):(2:Int) ^ (8*(k+1))=256*2 ^ (8*k):=by rw [show 8*(k+1)=8*k+8 by omega,Int.pow_add];omega
theorem pow_pos' (m:Nat):(1:Int)<=2 ^ m:=by have:=Int.pow_pos (n:=(2:Int)) (m:=m) (by omega);omega
theorem sumB_bd (bs)(b:Qm bs)(p k:Nat):0<=sumB bs p k/\sumB bs p k<2 ^ (8*k):=by
 induction k with
 |zero=>simp [sumB]
 |succ k ih =>
  have a:=b (p+k);have d:=pow_pos' (8*k)
  simp only [sumB]
  rw [pow8];generalize (2:Int) ^ (8*k)=P at *;generalize bs.getD (p+k) 0=c at *;have g:0<=c*P:=Int.mul_nonneg a.1 (by omega);have f:c*P<=255*P:=Int.mul_le_mul_of_nonneg_right a.2 (by omega)
  omega
theorem pow_le56 (k:Nat)(h:k<=7):(2:Int) ^ (8*k)<=72057594037927936:=by
 have a:k=0\/k=1\/k=2\/k=3\/k=4\/k=5\/k=6\/k=7:=by omega
 rcases a with rfl|rfl|rfl|rfl|rfl|rfl|rfl|rfl<;>decide
theorem join8 (c d:Int)(k:Nat)(h0:0<=c)(h1:c<2 ^ (8*k))(j:k<=7)(l:0<=d)(f:d<=255) :
    bits .or .u64 c (IntKind.u64.wrap (d*2 ^ (8*k)))=c+d*2 ^ (8*k):=by
 have m:=pow_pos' (8*k);have p:=pow_le56 k j;have g:0<=d*2 ^ (8*k):=Int.mul_nonneg l (by omega);have o:d*2 ^ (8*k)<=255*2 ^ (8*k):=Int.mul_le_mul_of_nonneg_right f (by omega);rw [IntKind.wrap_u64,Int.emod_eq_of_lt g (by omega),By.or_comm',bits_join .u64 64 (by decide) (λn a b=>by rw [IntKind.wrap_u64];omega) (8*k) _ _ g (Int.mul_emod_left _ _) (by omega) h0 h1 (by omega)]
 omega
theorem flt_rc (q ba bc bs)(p n:Nat)(w)(h:Rd w q ba bc bs p)(u:Qm bs)(hl:bs.length<=1099511627776)(H:n<=8) :
    Calls Tryz.prog 352 #[.pointer (some ⟨q,0,none⟩),.int .i64 (8*(n:Int))] w (RdP (XC bs p n) (λv=>.int .u64 v) w q ba bc bs):=by
 have z:=Hm h;have A:=Hm u;clear h u
 go_enter Tryz.func352,Tryz.ntmps352
 go_wp2_with fail
 go_loopw [5,6] (λx i wr=>∃ k:Nat,k<=n/\i=.int .i64 (8*(k:Int))/\x=.int .u64 (sumB bs p k)/\Rd wr q ba bc bs (p+k)/\w.grownBy wr (some q)) (λ_ i _=>8*n-(intOf i).toNat)
 case atStart=>exact ⟨0,Nat.zero_le _,rfl,rfl,z.o,World.grownBy.refl _ _⟩
 case round =>
  obtain ⟨k,I,rfl,rfl,b,t⟩:=hrel;have g:=Hm t;clear t z
  by_cases D:k<n
  . have E:8*(k:Int)<8*(n:Int):=by omega
    have F:(k:Int)<=7:=by omega
    by_cases j:bs.length<=p+k
    . have f:=Hm (XP q ba bc bs (p+k) wr b j);have r:Hid (XC bs p n=.bad 2 bs.length):=by show _=_;unfold XC;rw [if_neg (by omega)]
      clear b
      go_wp2_with fail
      refine (f.o).mono ?_
      rintro e B ⟨rfl,a⟩
      refine ⟨rfl,Qa g.o a,?_⟩
      rw [r.o]
    . have f:=Hm (GG q ba bc bs (p+k) wr b (by omega) hl);obtain ⟨m,l⟩:=A.o (p+k);obtain ⟨C,s1⟩:=sumB_bd bs A.o p k;have J:=join8 (sumB bs p k) (bs.getD (p+k) 0) k C s1 (by omega) m l;have G:Hid (sumB bs p (k+1)=sumB bs p k+bs.getD (p+k) 0*2 ^ (8*k)):=rfl;generalize sumB bs p k=acc at *;generalize bs.getD (p+k) 0=y at *;clear b s1
      go_wp2_with fail
      refine (f.o).mono ?_
      rintro e B ⟨rfl,d,a⟩;have c:=Hm d;have s:=Hm (Qa g.o a);clear d a f g
      go_wp2_with fail
      go_roundw
      case rel=>exact ⟨k+1,by omega,by go_num,by rw [G.o],c.o,s.o⟩
      case measure=>simp [intOf];omega
  . have e:k=n:=by omega
    subst e;have c:=Hm b;have r:Hid (XC bs p k=.ok (sumB bs p k) (p+k)):=by show _=_;unfold XC;rw [if_pos b.le]
    clear b
    go_wp2_with fail
    go_ret
    refine ⟨g.o,?_⟩
    rw [r.o]
    exact ⟨rfl,c.o⟩
end Go.Proofs.YtedcmcdbejjgcaaGreat
namespace Go.Proofs.YtedcmcdbejjgcaaGreat
open Go.RowKit Go.Sort
def GP (bs:List Int):Nat->List Int->Nat->Rs (List Int)
 |0,acc,p=>.ok acc p
 |n+1,acc,p=>(Qy false 32 bs p).bind λv p1=>GP bs n (acc++[v]) p1
theorem getR_next (s:Bool)(bs:List Int)(p:Nat)(B:Int):∀ (f k:Nat) (b:Int),1<=f->B<=7*((k:Int)+f)->(By.JK s bs p B f k b).1=0->(p:Int)+k+1<=(By.JK s bs p B f k b).2.2:=by
 intro f
 induction f with
 |zero=>intro k b h;omega
 |succ f ih =>
  intro k b _ hB a
  simp only [By.JK] at a⊢
  split at a
  · simp at a
  . rename_i c0
    split at a
    · simp at a
    . rename_i c1
      split at a
      · simp at a
      . rename_i c
        split at a
        · rename_i c3
          rw [if_neg c0,if_neg c1,if_neg c,if_pos c3]
          exact Int.le_refl _
        . rename_i c3
          rw [if_neg c0,if_neg c1,if_neg c,if_neg c3]
          have d:7<B-7*(k:Int):=by
           by_cases h:7<B-7*(k:Int)
           . exact h
           . exact absurd ⟨by omega,by omega⟩ c1
          have:=ih (k+1) _ (by omega) (by omega) a
          omega
theorem Xo {s:Bool}{B:Int}{bs:List Int}{p p1:Nat}{v:Int}(hB:B<=64)(h:Qy s B bs p=.ok v p1):p+1<=p1:=by
 unfold Qy at h
 split at h
 · cases h
 . split at h
   · rename_i h0
     cases h
     have:=getR_next s bs p B 10 0 0 (by omega) (by omega) h0
     omega
   . cases h
theorem By.Has.lt {w:World}{a:Addr}{xs:List Int}(h:By.Has w (some a) xs)(c:xs≠[]):a.block<w.heap.size:=by
 rcases h with h|⟨b,o,e,d⟩
 . exact absurd h c
 . cases e
   exact World.block_lt_of_cell? w _ (d 0 (List.length_pos_iff.2 c))
theorem Rd.grown {w w1:World}{q ba bc bs p}{r:Option Nat}(h:Rd w q ba bc bs p)(hg:w.grownBy w1 r)(g:some q≠r)(k:∀ a,ba=some a->bc.fs≠[]->some a.block≠r):Rd w1 q ba bc bs p:=by
 have c:w1.heap[q]?=w.heap[q]?:=hg.block q h.lt g
 have f:By.Has w1 ba bc.fs:=by
  by_cases d:bc.fs=[]
  . exact .inl d
  . rcases h.hasF with l|⟨b,o,e,j⟩
    . exact absurd l d
    . exact .inr ⟨b,o,e,λi hi=>hg.cell (j i hi) (show some b≠r from k ⟨b,o,none⟩ e d)⟩
 exact { h with
  c0:=(World.cell?_of_block c).trans h.c0,c1:=(World.cell?_of_block c).trans h.c1,c2:=(World.cell?_of_block c).trans h.c2,fz:=λi=>(World.frozen?_of_block c).trans (h.fz i)
  has:=by rw [h.win];exact JS f _
  cn:=(World.cell?_of_block c).trans h.cn,cw:=(World.cell?_of_block c).trans h.cw,hasF:=f,rst:=fun i v hv=>(World.cell?_of_block c).trans (h.rst i v hv) }
theorem Gu {w W W':World}{r:Option Nat}{q:Nat}(h:w.grownBy W (some q))(hg:W.grownBy W' r)(hr:∀ k,r=some k->w.heap.size<=k):w.grownBy W' (some q) :=
 ⟨hg.os.trans h.os,hg.tape.trans h.tape,hg.output.trans h.output,Nat.le_trans h.size hg.size,λk hk hne=>(hg.block k (Nat.lt_of_lt_of_le hk h.size) (λe=>by have:=hr k e.symm;omega)).trans (h.block k hk hne)⟩
theorem ownE_grown' {w d:World}{B e n:Nat}{v:Value}{r:Option Nat}{xs:List Value}(h:w.ownsRow B e 1 v n xs)(hg:w.grownBy d r)(a:∀ k,v.ownBlock=some k->r≠some k):d.ownsRow B e 1 v n xs:=by
 refine ⟨h.1,?_⟩
 rcases h.2 with h0|⟨g,c,b,j,hB,l,f⟩
 . exact .inl h0
 . subst j
   exact .inr ⟨g,c,b,rfl,hB,(hg.block g (h.lt g rfl).2 (λe=>a g rfl e.symm)).trans l,f⟩
theorem oneI (x:Int):∀ u ∈ [Value.int .i64 x],u.oneCell'=true:=by
 intro u a;simp at a;subst a;rfl
def RvP (M:Rs (List Int))(w:World)(q:Nat)(ba:Option Addr)(bc:Bf)(bs:List Int)(e:Ending)(w':World):Prop :=
 w.grownBy w' (some q)/\(match M with
  |.bad er at_=>e=.panicked [bc.flt er at_]
  | .ok l p'=>∃ v,e=.returned v/\w'.ownsRow w.heap.size 2 1 v l.length (I l)/\Rd w' q ba bc bs p'/\l.length<=bs.length)
theorem ent_c (q ba bc bs p)(n:Int)(w)(h:Rd w q ba bc bs p)(Y:Qm bs)(hl:bs.length<=1099511627776)(A:0<=n)(ag:n<=4294967295) :
    Calls Tryz.prog 284 #[.int .i64 n,.func (.func 235) #[.pointer (some ⟨q,0,none⟩)] #[]] w (RvP (GP bs n.toNat [] p) w q ba bc bs):=by
 obtain ⟨i0,hi,J,H,G⟩:=info_parts Tryz.info2;obtain ⟨N,rfl⟩:=Int.eq_ofNat_of_zero_le A;rw [Int.toNat_natCast];have Z:=Hm h;have HA:=Hm Y;have HL:=Hm (λa (e:ba=some a) (hx:bc.fs≠[])=>By.Has.lt (a:=a) (by rw [<- e];exact h.hasF) hx);have hq:=h.lt;clear h Y A
 go_enter Tryz.func284,Tryz.ntmps284
 go_wp2_with fail
 go_loopw [5,7] (λv i wr=>∃ (k:Nat) (b:List Int) (p1:Nat),k<=N/\i=.int .i64 (k:Int)/\GP bs N [] p=GP bs (N-k) b p1/\b.length<=p1/\wr.ownsRow w.heap.size 2 1 v b.length (I b)/\Rd wr q ba bc bs p1/\w.grownBy wr (some q)) (λ_ i _=>N-(intOf i).toNat)
 case atStart=>exact ⟨0,[],p,Nat.zero_le _,rfl,rfl,by simp,World.ownsRow_nil _ _ _ _,Z.o,World.grownBy.refl _ _⟩
 case round =>
  obtain ⟨k,b,p1,hk,rfl,u,ak,g,z,X⟩:=hrel;have F:=Hm X;have D:=Hm g;have ae:=z.le;clear X g Z
  by_cases ah:k<N
  . have ai:(k:Int)<(N:Int):=by omega
    have K:=Hm (JR q ba bc bs p1 wr z HA.o hl);have m:=λv p2=>Xo (s:=false) (B:=32) (bs:=bs) (p:=p1) (p1:=p2) (v:=v) (by omega);have y:N-k=(N-(k+1))+1:=by omega
    rw [y] at u
    simp only [GP] at u
    have E:=Hm u;clear u y z;generalize Qy false 32 bs p1=M at *
    cases M with
    |bad er at_ =>
     clear m
     go_wp2_with fail
     refine (K.o).mono ?_
     rintro e U ⟨c,rfl⟩
     refine ⟨rfl,Qa F.o c,?_⟩
     rw [E.o]
     exact rfl
    |ok v p2 =>
     have af:=m v p2 rfl;clear m
     go_wp2_with fail
     refine (K.o).mono ?_
     rintro e U ⟨c,rfl,l⟩;have V:=l.le;have t:=Hm l;have C:=Hm (Qa F.o c);have d:=Hm (ownE_grown' D.o c (λj hj=>by have:=(D.o.lt j hj).1;simp;omega));have ad:=C.o.size;clear l c K F D
     go_wp2_with (at_builtin;refine wpList_append_own _ rfl _ _ 25 rfl w.heap.size 2 i0 (.int .i64 0) 1 8 Tryz.underlying25 hi J H G rfl (by decide) _ _ _ rfl (d.o.alloc _) ⟨U.heap.size,0,none⟩ 1 1 [.int .i64 v] rfl rfl (cell_one_new _ _ _) (oneI _) (by unfold maxLen;omega) (by omega) (by simp;omega) ?_;intro v3 w3 f r L;have R:Hid (w3.ownsRow w.heap.size 2 1 v3 (b++[v]).length (I (b++[v]))):=(by show World.ownsRow _ _ _ _ _ _ _;simpa using f);have S:=Hm (Gu (Qa C.o (Qi (bF.alloc lR _))) r (λj hj=>(d.o.lt j hj).1));have O:=Hm ((t.o.keep (bF.alloc lR _)).grown r (λe=>by have:=(d.o.lt q e.symm).1;omega) (λa ea hx e=>by have h1:=HL.o a ea hx;have:=(d.o.lt _ e.symm).1;omega));clear f r L)
     go_roundw
     case rel=>exact ⟨k+1,b++[v],p2,by omega,by go_num,by rw [E.o];rfl,by simp;omega,R.o,O.o,S.o⟩
     case measure=>simp [intOf];omega
  . have e:k=N:=by omega
    subst e;have t:=Hm z;have E:Hid (GP bs k [] p=.ok b p1):=by show _=_;rw [u,Nat.sub_self];rfl
    clear z u
    go_wp2_with fail
    go_ret
    refine ⟨F.o,?_⟩
    rw [E.o]
    exact ⟨_,rfl,D.o,t.o,by omega⟩
def vecM (bs:List Int)(p:Nat):Rs (List Int):=(Qy false 32 bs p).bind λn p1=>GP bs n.toNat [] p1
theorem tell_c (q ba bc bs p)(k n:Int)(w)(h:Rd w q ba bc bs p) :
    Calls Tryz.prog 291 #[.pointer (some ⟨q,0,none⟩),.agg #[.int .i64 k,.int .i64 n,.int .i64 0,.int .i64 0,.int .i64 0,.int .u64 0,.slice none 0 0,.slice none 0 0]] w λe w'=>e=.returned (.tuple #[])/\Below w.heap.size w w':=by
 have a:∀ o,(w.alloc o).cell? ⟨q,19,none⟩=some (.slice none 0 0):=λo=>(World.cell?_of_block (QF w o q h.lt)).trans h.cw;clear h
 go_enter Tryz.func291,Tryz.ntmps291
 go_wp2
 refine wp_loop_rounds 1 ?_
 rw [rounds_succ]
 go_wp2
 go_end0
 exact ⟨rfl,bF.alloc lR _⟩
theorem X6 (q ba bc bs p)(k n:Int)(w)(h:Rd w q ba bc bs p) :
    Calls Tryz.prog 243 #[.pointer (some ⟨q,0,none⟩),.int .i64 k,.int .i64 n] w λe w'=>e=.returned (.tuple #[])/\Below w.heap.size w w':=by
 have K:=Hm (tell_c q ba bc bs p k n w h);clear h
 go_enter Tryz.func243,Tryz.ntmps243
 go_wp2_with fail
 refine K.o.mono ?_
 rintro e b ⟨rfl,a⟩
 go_wp2
 go_end0
 exact ⟨rfl,a⟩
end Go.Proofs.YtedcmcdbejjgcaaGreat
namespace Go.Proofs.YtedcmcdbejjgcaaGreat
open Go.RowKit Go.Sort
def JQ (f:Int)(op:Int)(bs:List Int)(p:Nat):Rs In :=
 if f=1 then (onlyM bs p).bind λa p1=>.ok ⟨op,a,0,0,[]⟩ p1
 else if f=2 then (Qy false 32 bs p).bind λa p1=>.ok ⟨op,a,0,0,[]⟩ p1
 else if f=3 then (vecM bs p).bind λl p1=>(Qy false 32 bs p1).bind λa p2=>.ok ⟨op,a,0,0,l⟩ p2
 else if f=4 then (Qy false 32 bs p).bind λa p1=>(Xp bs p1).bind λ_ p2=>.ok ⟨op,a,0,0,[]⟩ p2
 else if f=5 then (Qy false 32 bs p).bind λa p1=>(Qy false 32 bs p1).bind λb p2=>.ok ⟨op,a,b,0,[]⟩ p2
 else if f=6 then (Xp bs p).bind λ_ p1=>.ok ⟨op,0,0,0,[]⟩ p1
 else if f=7 then (Qy true 32 bs p).bind λv p1=>.ok ⟨op,0,0,v%4294967296,[]⟩ p1
 else if f=8 then (Qy true 64 bs p).bind λv p1=>.ok ⟨op,0,0,v,[]⟩ p1
 else if f=9 then (XC bs p 4).bind λv p1=>.ok ⟨op,0,0,v,[]⟩ p1
 else if f=10 then (XC bs p 8).bind λv p1=>.ok ⟨op,0,0,v,[]⟩ p1
 else .ok ⟨op,0,0,0,[]⟩ p
def RiP (M:Rs In)(w:World)(q:Nat)(ba:Option Addr)(bc:Bf)(bs:List Int)(e:Ending)(w':World):Prop :=
 w.grownBy w' (some q)/\(match M with
  |.bad er at_=>e=.panicked [bc.flt er at_]
  | .ok x p'=>∃ la lc,e=.returned (inV x la lc)/\w'.ownsRow w.heap.size 2 1 (.slice la x.l.length lc) x.l.length (I x.l)/\Rd w' q ba bc bs p'/\x.l.length<=bs.length)
theorem QB {w w1:World}{g l o:Nat}{a b c d e:Value}(h:C5 w g o a b c d e)(hg:w.grownBy w1 (some l))(k:g≠l):C5 w1 g o a b c d e:=by
 have j:w1.heap[g]?=w.heap[g]?:=hg.block g (World.block_lt_of_cell? w _ h.1.1) (by simpa using k);obtain ⟨⟨h0,q,p,n,m⟩,f⟩:=h
 exact ⟨⟨(World.cell?_of_block j).trans h0,(World.cell?_of_block j).trans q,(World.cell?_of_block j).trans p,(World.cell?_of_block j).trans n,(World.cell?_of_block j).trans m⟩,λi=>(World.frozen?_of_block j).trans (f i)⟩
theorem Xd {w:World}{g X o i:Nat}{a b c d e v:Value}(h:C5 w g o a b c d e)(f:g≠X):C5 (w.setCell ⟨X,i,none⟩ v) g o a b c d e:=QB h (Qp w X i v) f
theorem Om {w:World}{g:Nat}{a b c d e v:Value}(h:C5 w g 0 a b c d e):C5 (w.setCell ⟨g,1,none⟩ v) g 0 a v c d e:=by
 obtain ⟨⟨h0,m,l,k,j⟩,f⟩:=h
 exact ⟨⟨Qd h0 (by decide),QE m,Qd l (by decide),Qd k (by decide),Qd j (by decide)⟩,λi=>by rw [World.frozen?_setCell];exact f i⟩
theorem c5_set2 {w:World}{g:Nat}{a b c d e v:Value}(h:C5 w g 0 a b c d e):C5 (w.setCell ⟨g,2,none⟩ v) g 0 a b v d e:=by
 obtain ⟨⟨h0,m,l,k,j⟩,f⟩:=h
 exact ⟨⟨Qd h0 (by decide),Qd m (by decide),QE l,Qd k (by decide),Qd j (by decide)⟩,λi=>by rw [World.frozen?_setCell];exact f i⟩
theorem c5_set3 {w:World}{g:Nat}{a b c d e v:Value}(h:C5 w g 0 a b c d e):C5 (w.setCell ⟨g,3,none⟩ v) g 0 a b c v e:=by
 obtain ⟨⟨h0,m,l,k,j⟩,f⟩:=h
 exact ⟨⟨Qd h0 (by decide),Qd m (by decide),Qd l (by decide),QE k,Qd j (by decide)⟩,λi=>by rw [World.frozen?_setCell];exact f i⟩
theorem c5_set4 {w:World}{g:Nat}{a b c d e v:Value}(h:C5 w g 0 a b c d e):C5 (w.setCell ⟨g,4,none⟩ v) g 0 a b c d v:=by
 obtain ⟨⟨h0,m,l,k,j⟩,f⟩:=h
 exact ⟨⟨Qd h0 (by decide),Qd m (by decide),Qd l (by decide),Qd k (by decide),QE j⟩,λi=>by rw [World.frozen?_setCell];exact f i⟩
structure Lies (w:World)(q:Nat)(ba:Option Addr)(bs:List Int)(X:Nat):Prop where
 ne:X≠q
 by_:∀ a,ba=some a->bs≠[]->a.block≠X
 ge:w.heap.size<=X
theorem Rd.far {w W:World}{q ba bc bs}{p X:Nat}(h:Rd W q ba bc bs p)(b:Lies w q ba bc.fs X)(o:Nat)(v:Value):Rd (W.setCell ⟨X,o,none⟩ v) q ba bc bs p :=
 h.grown (Qp W X o v) (by have:=b.ne;simpa using λe=>this e.symm) (λa ha hx=>by simpa using b.by_ a ha hx)
theorem Jh {w W:World}{q X:Nat}{b:Option Addr}{bs:List Int}(h:w.grownBy W (some q))(a:Lies w q b bs X)(o:Nat)(v:Value):w.grownBy (W.setCell ⟨X,o,none⟩ v) (some q) :=
 Gu h (Qp W X o v) (λk hk=>by simp at hk;have:=a.ge;omega)
theorem JB {w q ba bc bs}{p X:Nat}(h:Rd w q ba bc bs p)(b:w.heap.size<=X):Lies w q ba bc.fs X :=
 ⟨by have:=h.lt;omega,λa ha hx=>by have:=By.Has.lt (a:=a) (by rw [<- ha];exact h.hasF) hx;omega,b⟩
theorem two_box (w:World)(f:Int):C5 ((w.alloc (.cells #[.int .i64 0,.int .i64 0,.int .i64 0,.int .u64 0,.slice none 0 0] 170)).alloc (.cells #[.int .i64 f,.int .i64 0,.int .i64 0,.int .u64 0,.slice none 0 0] 170)) w.heap.size 0 (.int .i64 0) (.int .i64 0) (.int .i64 0) (.int .u64 0) (.slice none 0 0)/\C5 ((w.alloc (.cells #[.int .i64 0,.int .i64 0,.int .i64 0,.int .u64 0,.slice none 0 0] 170)).alloc (.cells #[.int .i64 f,.int .i64 0,.int .i64 0,.int .u64 0,.slice none 0 0] 170)) (w.heap.size+1) 0 (.int .i64 f) (.int .i64 0) (.int .i64 0) (.int .u64 0) (.slice none 0 0)/\Below w.heap.size w ((w.alloc (.cells #[.int .i64 0,.int .i64 0,.int .i64 0,.int .u64 0,.slice none 0 0] 170)).alloc (.cells #[.int .i64 f,.int .i64 0,.int .i64 0,.int .u64 0,.slice none 0 0] 170)):=by
 refine ⟨C5.new.past,?_,(bF.alloc lR _).alloc (by simp) _⟩
 have:=C5.new (w:=w.alloc (.cells #[.int .i64 0,.int .i64 0,.int .i64 0,.int .u64 0,.slice none 0 0] 170)) (a:=.int .i64 f) (b:=.int .i64 0) (c:=.int .i64 0) (d:=.int .u64 0) (e:=.slice none 0 0) (t:=170)
 simpa using this
theorem XW (w:World)(a:Int):∃ W,W=(w.alloc (.cells #[.int .i64 0,.int .i64 0,.int .i64 0,.int .u64 0,.slice none 0 0] 170)).alloc (.cells #[.int .i64 a,.int .i64 0,.int .i64 0,.int .u64 0,.slice none 0 0] 170)/\C5 W w.heap.size 0 (.int .i64 0) (.int .i64 0) (.int .i64 0) (.int .u64 0) (.slice none 0 0)/\C5 W (w.heap.size+1) 0 (.int .i64 a) (.int .i64 0) (.int .i64 0) (.int .u64 0) (.slice none 0 0)/\Below w.heap.size w W:=⟨_,rfl,two_box w a⟩
theorem Gm {w W:World}{q ba bc bs p}{x:In}{la:Option Addr}{lc:Nat}{v0 v1 v2 d c:Value}(f:Rd W q ba bc bs p)(j:w.grownBy W (some q))(a:Lies w q ba bc.fs w.heap.size)(g:W.ownsRow w.heap.size 2 1 (.slice la x.l.length lc) x.l.length (I x.l))(b:(Value.slice la x.l.length lc).ownBlock≠some w.heap.size) :
    w.grownBy (((((W.setCell ⟨w.heap.size,0,none⟩ v0).setCell ⟨w.heap.size,1,none⟩ v1).setCell ⟨w.heap.size,2,none⟩ v2).setCell ⟨w.heap.size,3,none⟩ d).setCell ⟨w.heap.size,4,none⟩ c) (some q)/\(((((W.setCell ⟨w.heap.size,0,none⟩ v0).setCell ⟨w.heap.size,1,none⟩ v1).setCell ⟨w.heap.size,2,none⟩ v2).setCell ⟨w.heap.size,3,none⟩ d).setCell ⟨w.heap.size,4,none⟩ c).ownsRow w.heap.size 2 1 (.slice la x.l.length lc) x.l.length (I x.l)/\Rd (((((W.setCell ⟨w.heap.size,0,none⟩ v0).setCell ⟨w.heap.size,1,none⟩ v1).setCell ⟨w.heap.size,2,none⟩ v2).setCell ⟨w.heap.size,3,none⟩ d).setCell ⟨w.heap.size,4,none⟩ c) q ba bc bs p :=
 ⟨Jh (Jh (Jh (Jh (Jh j a _ _) a _ _) a _ _) a _ _) a _ _,Js (Js (Js (Js (Js g b) b) b) b) b,((((f.far a _ _).far a _ _).far a _ _).far a _ _).far a _ _⟩
end Go.Proofs.YtedcmcdbejjgcaaGreat
namespace Go.Proofs.YtedcmcdbejjgcaaGreat
open Go.RowKit Go.Sort
end Go.Proofs.YtedcmcdbejjgcaaGreat
namespace Go.Proofs.YtedcmcdbejjgcaaGreat
open Go.RowKit Go.Sort
def isB (u:Value):Prop:=u=.int .u8 0
def isI (u:Value):Prop:=∃ v:Int,u=.int .i64 v
def isU (u:Value):Prop:=∃ v:Int,u=.int .u64 v/\0<=v/\v<=18446744073709551615
end Go.Proofs.YtedcmcdbejjgcaaGreat
namespace Go.Proofs.YtedcmcdbejjgcaaGreat
open Go.RowKit Go.Sort
def Sv (sg:Bool)(bs:List Int)(p:Nat)(B:Int)(k:Nat)(acc:Int):Prop:=By.JK sg bs p B 10 0 0=By.JK sg bs p B (10-k) k acc
theorem sv_more {b:Bool}{bs:List Int}{p:Nat}{B:Int}{k:Nat}{a:Int}(h:Sv b bs p B k a)(hp:p+k<bs.length)(d:k<=8)(hr:7<B-7*(k:Int))(c:128<=bs.getD (p+k) 0):Sv b bs p B (k+1) (a+bs.getD (p+k) 0%128*By.P2 (7*(k:Int))):=by
 unfold Sv at *;rw [h,show 10-k=(10-(k+1))+1 by omega,By.Gd hp hr c]
theorem sv_short {b:Bool}{bs:List Int}{p:Nat}{B:Int}{k:Nat}{a:Int}(h:Sv b bs p B k a)(c:k<=9)(hp:bs.length<=p+k):Qy b B bs p=.bad 2 bs.length:=by
 unfold Sv at h;rw [show 10-k=(9-k)+1 by omega,By.Oi hp] at h;unfold Qy;rw [h,if_pos rfl]
theorem sv_long {b:Bool}{bs:List Int}{p:Nat}{B:Int}{k:Nat}{a:Int}(h:Sv b bs p B k a)(d:k<=9)(hp:p+k<bs.length)(hr:B-7*(k:Int)<=7)(c:128<=bs.getD (p+k) 0):Qy b B bs p=.bad 7 ((p:Int)+k+1):=by
 unfold Sv at h;rw [show 10-k=(9-k)+1 by omega,By.Ge hp hr c] at h
 exact GQ h (by decide) (by decide)
theorem sv_bits {a:Bool}{bs:List Int}{p:Nat}{B:Int}{k:Nat}{b:Int}(h:Sv a bs p B k b)(f:k<=9)(hp:p+k<bs.length)(hr:B-7*(k:Int)<=7)(d:bs.getD (p+k) 0<128)(c:By.rok a (bs.getD (p+k) 0) (B-7*(k:Int))=false):Qy a B bs p=.bad 7 ((p:Int)+k+1):=by
 unfold Sv at h;rw [show 10-k=(9-k)+1 by omega,By.Gf hp hr d c] at h
 exact GQ h (by decide) (by decide)
theorem sv_end {b:Bool}{bs:List Int}{p:Nat}{B:Int}{k:Nat}{a:Int}(h:Sv b bs p B k a)(f:k<=9)(hp:p+k<bs.length)(d:bs.getD (p+k) 0<128)(c:B-7*(k:Int)<=7->By.rok b (bs.getD (p+k) 0) (B-7*(k:Int))=true):Qy b B bs p=.ok (By.fin b (a+bs.getD (p+k) 0%128*By.P2 (7*(k:Int))) (bs.getD (p+k) 0) k) (p+k+1):=by
 unfold Sv at h;rw [show 10-k=(9-k)+1 by omega,By.GW hp d c] at h
 refine numM_ok ?_
 rw [h]
 simp
theorem u64rng (y:Int):0<=IntKind.u64.wrap y/\IntKind.u64.wrap y<=18446744073709551615:=by rw [IntKind.wrap_u64];omega
end Go.Proofs.YtedcmcdbejjgcaaGreat
