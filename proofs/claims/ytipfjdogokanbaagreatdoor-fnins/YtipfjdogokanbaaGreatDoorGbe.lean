import Derived.Test.YtipfjdogokanbaaGreatDoorGaa
import Derived.Test.YtipfjdogokanbaaGreatDoorGbb
import Derived.Test.YtipfjdogokanbaaGreatDoorGbc
import Derived.Test.YtipfjdogokanbaaGreatDoorGbd
import Derived.Test.YtipfjdogokanbaaGreatDoorGaf
import Derived.Laws.BitsLemmas
import Derived.Test.YtipfjdogokanbaaGreatDoorGae
import Derived.Test.YtipfjdogokanbaaGreatDoorGba
import Derived.Deep.Cut
set_option linter.all false
set_option maxHeartbeats 400000000
set_option maxRecDepth 100000
set_option linter.all false
namespace Go.Proofs.YtipfjdogokanbaaGreatDoor.Ed
open Go.RowKit Go.Sort
theorem take_c (q:Nat)(ba:Option Addr)(bc:Nat)(bs:List Int)(p:Nat)(w:World)(h:Rd w q ba bc bs p)(hl:bs.length<=1099511627776) :
    Calls Tryz.prog 77 #[.pointer (some ⟨q,0,none⟩)] w (RdP (Qy bs p) (λv=>.int .u8 v) w q ba bc bs):=by
 by_cases hp:bs.length<=p
 . refine (take_bad q ba bc bs p w h hp).mono λe w' ⟨h1,h2⟩=>⟨h2,?_⟩
   simp only [Qy,hp,if_true]
   exact h1
 . refine (take_ok q ba bc bs p w h (by omega) hl).mono λe w' ⟨h1,h2,h3⟩=>⟨h3,?_⟩
   simp only [Qy,hp,if_false]
   exact ⟨h1,h2⟩
theorem XF {bs:List Int}(hA:Qt bs){p p1:Nat}{v:Int}(h:Qy bs p=.ok v p1):0<=v/\v<=255:=by
 unfold Qy at h
 split at h
 . cases h
 . cases h;exact hA p
theorem getU_bd (bs:List Int)(hA:Qt bs)(p:Nat):∀ (f k:Nat) (acc:Int),0<=acc->acc<By.P2 (7*(k:Int))->7*(k:Int)<32->(By.QR false bs p 32 f k acc).1=0->0<=(By.QR false bs p 32 f k acc).2.1/\(By.QR false bs p 32 f k acc).2.1<=4294967295:=by
 intro f
 induction f with
 |zero=>intro k acc _ _ _ _;simp [By.QR]
 |succ f ih =>
  intro k acc h0 h1 hk hz
  have hb:=hA (p+k);have hk4:k=0\/k=1\/k=2\/k=3\/k=4:=by omega
  by_cases c0:bs.length<=p+k
  . rw [By.XN c0] at hz;simp at hz
  by_cases c1:32-7*(k:Int)<=7/\128<=bs.getD (p+k) 0
  . rw [By.JV (by omega) c1.1 c1.2] at hz;simp at hz
  by_cases c2:32-7*(k:Int)<=7/\By.rok false (bs.getD (p+k) 0) (32-7*(k:Int))=false
  . rw [By.JW (by omega) c2.1 (by omega) c2.2] at hz;simp at hz
  by_cases c3:bs.getD (p+k) 0<128
  . have c4:32-7*(k:Int)<=7->By.rok false (bs.getD (p+k) 0) (32-7*(k:Int))=true:=λh=>by
      cases hh:By.rok false (bs.getD (p+k) 0) (32-7*(k:Int)) with
      |false=>exact absurd ⟨h,hh⟩ c2
      |true=>rfl
    rw [By.Xj (by omega) c3 c4]
    simp only [By.fin,Bool.false_eq_true,false_and,if_false]
    generalize bs.getD (p+k) 0=c at *
    rcases hk4 with rfl|rfl|rfl|rfl|rfl
    . rw [show By.P2 (7*((0:Nat):Int))=1 by decide] at h1⊢;omega
    . rw [show By.P2 (7*((1:Nat):Int))=128 by decide] at h1⊢;omega
    . rw [show By.P2 (7*((2:Nat):Int))=16384 by decide] at h1⊢;omega
    . rw [show By.P2 (7*((3:Nat):Int))=2097152 by decide] at h1⊢;omega
    . rw [show By.P2 (7*((4:Nat):Int))=268435456 by decide] at h1⊢
      have:=c4 (by decide)
      simp only [By.rok] at this
      rw [show (32:Int)-7*((4:Nat):Int)=4 by decide] at this;rw [show By.P2 4=16 by decide] at this
      simp at this
      omega
  . rw [By.JU (by omega) (by omega) (by omega)] at hz⊢;have hs:=By.Jy acc (bs.getD (p+k) 0) k h0 h1
    exact ih (k+1) _ hs.1 hs.2 (by omega) hz
theorem getR_bd (s:Bool)(bs:List Int)(p:Nat)(B:Int):∀ (f k:Nat) (acc:Int),0<=(By.QR s bs p B f k acc).2.1/\(By.QR s bs p B f k acc).2.1<=18446744073709551615:=by
 intro f
 induction f with
 |zero=>intro k acc;simp [By.QR]
 |succ f ih =>
  intro k acc
  simp only [By.QR]
  repeat' split
  all_goals first|exact ih _ _|(simp only [By.fin];split<;>omega)|(constructor<;>simp)
theorem numU_bd {bs:List Int}(hA:Qt bs){p p1:Nat}{v:Int}(h:Qp false 32 bs p=.ok v p1):0<=v/\v<=4294967295:=by
 unfold Qp at h
 split at h
 . cases h
 . split at h
   . rename_i h0
     cases h
     exact getU_bd bs hA p 10 0 0 (by omega) (by decide) (by omega) h0
   . cases h
theorem num_bd {s:Bool}{B:Int}{bs:List Int}{p p1:Nat}{v:Int}(h:Qp s B bs p=.ok v p1):0<=v/\v<=18446744073709551615:=by
 unfold Qp at h
 split at h
 . cases h
 . split at h
   . cases h
     exact getR_bd s bs p B 10 0 0
   . cases h
theorem u32_rc (q:Nat)(ba:Option Addr)(bc:Nat)(bs:List Int)(p:Nat)(w:World)(h:Rd w q ba bc bs p)(hA:Qt bs)(hl:bs.length<=1099511627776) :
    Calls Tryz.prog 70 #[.pointer (some ⟨q,0,none⟩)] w (RdP (Qp false 32 bs p) (λv=>.int .i64 v) w q ba bc bs):=by
 have K:=Hm (numU_c q ba bc bs p 32 w h hA hl (by omega) (by omega));have hbd:=λv p1=>numU_bd (p:=p) (p1:=p1) (v:=v) hA;generalize Qp false 32 bs p=M at *
 cases M with
 |bad er at_ =>
  clear hbd h
  go_enter Tryz.func70,Tryz.ntmps70
  go_wp2_with fail
  refine (K.o).mono ?_
  rintro e w1 ⟨hg,rfl⟩
  exact ⟨rfl,hg,rfl⟩
 |ok v p1 =>
  obtain ⟨v0,v1⟩:=hbd v p1 rfl;have hw:wrap64 v=v:=by unfold wrap64;omega
  clear hbd h
  go_enter Tryz.func70,Tryz.ntmps70
  go_wp2_with fail
  refine (K.o).mono ?_
  rintro e w1 ⟨hg,rfl,hr⟩;have HG:=Hm hg;have HR:=Hm hr;clear hg hr K
  go_wp2_with fail
  go_ret
  exact ⟨HG.o,rfl,HR.o⟩
def onlyM (bs:List Int)(p:Nat):Rs Int:=(Qy bs p).bind λx p1=>if (decide (x=64) || tyB x) then .ok x p1 else .bad 8 p1
def JA (bs:List Int)(p:Nat):Rs Unit:=(Qy bs p).bind λx p1=>if x=0 then .ok () p1 else .bad 8 p1
theorem only_c (q:Nat)(ba:Option Addr)(bc:Nat)(bs:List Int)(p:Nat)(w:World)(h:Rd w q ba bc bs p)(hA:Qt bs)(hl:bs.length<=1099511627776) :
    Calls Tryz.prog 69 #[.pointer (some ⟨q,0,none⟩),.func (.func 50) #[] #[]] w (RdP (onlyM bs p) (λv=>.int .i64 v) w q ba bc bs):=by
 have K:=Hm (take_c q ba bc bs p w h hl);have hbd:=λv p1=>XF (p:=p) (p1:=p1) (v:=v) hA;unfold onlyM;generalize Qy bs p=M at *
 cases M with
 |bad er at_ =>
  clear hbd h
  go_enter Tryz.func69,Tryz.ntmps69
  go_wp2_with fail
  refine (K.o).mono ?_
  rintro e w1 ⟨hg,rfl⟩
  exact ⟨rfl,hg,rfl⟩
 |ok v p1 =>
  obtain ⟨v0,v1⟩:=hbd v p1 rfl;have KB:=Hm (ibt_c v)
  show Calls _ _ _ _ (RdP (if (decide (v=64) || tyB v) then .ok v p1 else .bad 8 p1) _ _ _ _ _ _)
  generalize (decide (v=64) || tyB v)=z at *;clear hbd h
  go_enter Tryz.func69,Tryz.ntmps69
  go_wp2_with fail
  refine (K.o).mono ?_
  rintro e w1 ⟨hg,rfl,hr⟩;have HG:=Hm hg;have HR:=Hm hr;have KF:=Hm (fail_c q 8 p1 w1 hr.c1);clear hg hr K
  cases z
  . go_wp2_with (refine (KB.o _).mono ?_;rintro e w2 ⟨rfl,rfl⟩)
    refine (KF.o).mono ?_
    rintro e w3 ⟨rfl,rfl⟩
    exact ⟨rfl,HG.o,rfl⟩
  . go_wp2_with (refine (KB.o _).mono ?_;rintro e w2 ⟨rfl,rfl⟩)
    go_ret
    exact ⟨HG.o,rfl,HR.o⟩
theorem mark_rc (q:Nat)(ba:Option Addr)(bc:Nat)(bs:List Int)(p:Nat)(w:World)(h:Rd w q ba bc bs p)(hA:Qt bs)(hl:bs.length<=1099511627776) :
    Calls Tryz.prog 73 #[.pointer (some ⟨q,0,none⟩),.int .u8 0] w (RdP (JA bs p) (λ_=>.tuple #[]) w q ba bc bs):=by
 have K:=Hm (take_c q ba bc bs p w h hl);unfold JA;generalize Qy bs p=M at *
 cases M with
 |bad er at_ =>
  clear h
  go_enter Tryz.func73,Tryz.ntmps73
  go_wp2_with fail
  refine (K.o).mono ?_
  rintro e w1 ⟨hg,rfl⟩
  exact ⟨rfl,hg,rfl⟩
 |ok v p1 =>
  show Calls _ _ _ _ (RdP (if v=0 then .ok () p1 else .bad 8 p1) _ _ _ _ _ _)
  clear h
  by_cases hv:v=0
  . subst hv
    go_enter Tryz.func73,Tryz.ntmps73
    go_wp2_with fail
    refine (K.o).mono ?_
    rintro e w1 ⟨hg,rfl,hr⟩;have HG:=Hm hg;have HR:=Hm hr;clear hg hr K
    go_wp2_with fail
    go_end0
    exact ⟨HG.o,rfl,HR.o⟩
  . have hvn:(v != 0)=true:=by simpa using hv
    rw [if_neg hv]
    go_enter Tryz.func73,Tryz.ntmps73
    go_wp2_with fail
    refine (K.o).mono ?_
    rintro e w1 ⟨hg,rfl,hr⟩;have HG:=Hm hg;have KF:=Hm (fail_c q 8 p1 w1 hr.c1);clear hg hr K
    go_wp2_with fail
    refine (KF.o).mono ?_
    rintro e w3 ⟨rfl,rfl⟩
    exact ⟨rfl,HG.o,rfl⟩
end Go.Proofs.YtipfjdogokanbaaGreatDoor.Ed
namespace Go.Proofs.YtipfjdogokanbaaGreatDoor.Ed
open Go.RowKit Go.Sort
def Gr (bs:List Int)(p:Nat):Nat->Int
 |0=>0
 |k+1=>Gr bs p k+bs.getD (p+k) 0*2 ^ (8*k)
def JN (bs:List Int)(p n:Nat):Rs Int:=if p+n<=bs.length then .ok (Gr bs p n) (p+n) else .bad 2 bs.length
theorem pow8 (k:Nat):(2:Int) ^ (8*(k+1))=256*2 ^ (8*k):=by rw [show 8*(k+1)=8*k+8 by omega,Int.pow_add];omega
theorem pow_pos' (m:Nat):(1:Int)<=2 ^ m:=by have:=Int.pow_pos (n:=(2:Int)) (m:=m) (by omega);omega
theorem sumB_bd (bs:List Int)(hA:Qt bs)(p k:Nat):0<=Gr bs p k/\Gr bs p k<2 ^ (8*k):=by
 induction k with
 |zero=>simp [Gr]
 |succ k ih =>
  have hb:=hA (p+k);have hp:=pow_pos' (8*k)
  simp only [Gr]
  rw [pow8];generalize (2:Int) ^ (8*k)=P at *;generalize bs.getD (p+k) 0=c at *;have h1:0<=c*P:=Int.mul_nonneg hb.1 (by omega);have h2:c*P<=255*P:=Int.mul_le_mul_of_nonneg_right hb.2 (by omega)
  omega
theorem pow_le56 (k:Nat)(h:k<=7):(2:Int) ^ (8*k)<=72057594037927936:=by
 have h2:k=0\/k=1\/k=2\/k=3\/k=4\/k=5\/k=6\/k=7:=by omega
 rcases h2 with rfl|rfl|rfl|rfl|rfl|rfl|rfl|rfl<;>decide
theorem join8 (acc d:Int)(k:Nat)(h0:0<=acc)(h1:acc<2 ^ (8*k))(hk:k<=7)(hd:0<=d)(hd':d<=255) :
    bits .or .u64 acc (IntKind.u64.wrap (d*2 ^ (8*k)))=acc+d*2 ^ (8*k):=by
 have hp:=pow_pos' (8*k);have hb:=pow_le56 k hk;have hn:0<=d*2 ^ (8*k):=Int.mul_nonneg hd (by omega);have hm:d*2 ^ (8*k)<=255*2 ^ (8*k):=Int.mul_le_mul_of_nonneg_right hd' (by omega);rw [IntKind.wrap_u64,Int.emod_eq_of_lt hn (by omega),By.or_comm',bits_join .u64 64 (by decide) (λn a b=>by rw [IntKind.wrap_u64];omega) (8*k) _ _ hn (Int.mul_emod_left _ _) (by omega) h0 h1 (by omega)]
 omega
theorem flt_rc (q:Nat)(ba:Option Addr)(bc:Nat)(bs:List Int)(p n:Nat)(w:World)(h:Rd w q ba bc bs p)(hA:Qt bs)(hl:bs.length<=1099511627776)(hn:n<=8) :
    Calls Tryz.prog 76 #[.pointer (some ⟨q,0,none⟩),.int .i64 (8*(n:Int))] w (RdP (JN bs p n) (λv=>.int .u64 v) w q ba bc bs):=by
 have HR:=Hm h;have HA:=Hm hA;clear h hA
 go_enter Tryz.func76,Tryz.ntmps76
 go_wp2_with fail
 go_loopw [5,6] (λx i wr=>∃ k:Nat,k<=n/\i=.int .i64 (8*(k:Int))/\x=.int .u64 (Gr bs p k)/\Rd wr q ba bc bs (p+k)/\w.grownBy wr (some q)) (λ_ i _=>8*n-(intOf i).toNat)
 case atStart=>exact ⟨0,Nat.zero_le _,rfl,rfl,HR.o,World.grownBy.refl _ _⟩
 case round =>
  obtain ⟨k,hk,rfl,rfl,hr,hg⟩:=hrel;have HG:=Hm hg;clear hg HR
  by_cases hlt:k<n
  . have hki:8*(k:Int)<8*(n:Int):=by omega
    have hk7:(k:Int)<=7:=by omega
    by_cases hpk:bs.length<=p+k
    . have KT:=Hm (take_bad q ba bc bs (p+k) wr hr hpk);have HM:Hid (JN bs p n=.bad 2 bs.length):=by show _=_;unfold JN;rw [if_neg (by omega)]
      clear hr
      go_wp2_with fail
      refine (KT.o).mono ?_
      rintro e w1 ⟨rfl,hg1⟩
      refine ⟨rfl,Qa HG.o hg1,?_⟩
      rw [HM.o]
    . have KT:=Hm (take_ok q ba bc bs (p+k) wr hr (by omega) hl);obtain ⟨hb0,hb1⟩:=HA.o (p+k);obtain ⟨s0,s1⟩:=sumB_bd bs HA.o p k;have hj:=join8 (Gr bs p k) (bs.getD (p+k) 0) k s0 s1 (by omega) hb0 hb1;have HS:Hid (Gr bs p (k+1)=Gr bs p k+bs.getD (p+k) 0*2 ^ (8*k)):=rfl;generalize Gr bs p k=acc at *;generalize bs.getD (p+k) 0=y at *;clear hr s1
      go_wp2_with fail
      refine (KT.o).mono ?_
      rintro e w1 ⟨rfl,hr1,hg1⟩;have HR1:=Hm hr1;have HG1:=Hm (Qa HG.o hg1);clear hr1 hg1 KT HG
      go_wp2_with fail
      go_roundw
      case rel=>exact ⟨k+1,by omega,by go_num,by rw [HS.o],HR1.o,HG1.o⟩
      case measure=>simp [intOf];omega
  . have e:k=n:=by omega
    subst e;have HR1:=Hm hr;have HM:Hid (JN bs p k=.ok (Gr bs p k) (p+k)):=by show _=_;unfold JN;rw [if_pos hr.le]
    clear hr
    go_wp2_with fail
    go_ret
    refine ⟨HG.o,?_⟩
    rw [HM.o]
    exact ⟨rfl,HR1.o⟩
end Go.Proofs.YtipfjdogokanbaaGreatDoor.Ed
namespace Go.Proofs.YtipfjdogokanbaaGreatDoor.Ed
open Go.RowKit Go.Sort
def JK (bs:List Int):Nat->List Int->Nat->Rs (List Int)
 |0,acc,p=>.ok acc p
 |n+1,acc,p=>(Qp false 32 bs p).bind λv p1=>JK bs n (acc++[v]) p1
theorem getR_next (s:Bool)(bs:List Int)(p:Nat)(B:Int):∀ (f k:Nat) (acc:Int),1<=f->B<=7*((k:Int)+f)->(By.QR s bs p B f k acc).1=0->(p:Int)+k+1<=(By.QR s bs p B f k acc).2.2:=by
 intro f
 induction f with
 |zero=>intro k acc h;omega
 |succ f ih =>
  intro k acc _ hB hz
  simp only [By.QR] at hz⊢
  split at hz
  . simp at hz
  . rename_i c0
    split at hz
    . simp at hz
    . rename_i c1
      split at hz
      . simp at hz
      . rename_i c2
        split at hz
        . rename_i c3
          rw [if_neg c0,if_neg c1,if_neg c2,if_pos c3]
          exact Int.le_refl _
        . rename_i c3
          rw [if_neg c0,if_neg c1,if_neg c2,if_neg c3]
          have h7:7<B-7*(k:Int):=by
           by_cases h:7<B-7*(k:Int)
           . exact h
           . exact absurd ⟨by omega,by omega⟩ c1
          have:=ih (k+1) _ (by omega) (by omega) hz
          omega
theorem num_next {s:Bool}{B:Int}{bs:List Int}{p p1:Nat}{v:Int}(hB:B<=64)(h:Qp s B bs p=.ok v p1):p+1<=p1:=by
 unfold Qp at h
 split at h
 . cases h
 . split at h
   . rename_i h0
     cases h
     have:=getR_next s bs p B 10 0 0 (by omega) (by omega) h0
     omega
   . cases h
theorem By.Has.lt {w:World}{a:Addr}{xs:List Int}(h:By.Has w (some a) xs)(hx:xs≠[]):a.block<w.heap.size:=by
 rcases h with h|⟨b,o,e,hc⟩
 . exact absurd h hx
 . cases e
   exact World.block_lt_of_cell? w _ (hc 0 (List.length_pos_iff.2 hx))
theorem Rd.grown {w w1:World}{q:Nat}{ba:Option Addr}{bc:Nat}{bs:List Int}{p:Nat}{r:Option Nat}(h:Rd w q ba bc bs p)(hg:w.grownBy w1 r)(hq:some q≠r)(hb:∀ a,ba=some a->bs≠[]->some a.block≠r):Rd w1 q ba bc bs p:=by
 have hk:w1.heap[q]?=w.heap[q]?:=hg.block q h.lt hq
 refine ⟨(World.cell?_of_block hk).trans h.c0,(World.cell?_of_block hk).trans h.c1,(World.cell?_of_block hk).trans h.c2,λi=>(World.frozen?_of_block hk).trans (h.fz i),?_,h.ne,h.le,h.cap,(World.cell?_of_block hk).trans h.cn,(World.cell?_of_block hk).trans h.cw⟩
 by_cases hx:bs=[]
 . exact .inl hx
 . rcases h.has with h'|⟨b,o,e,hc⟩
   . exact absurd h' hx
   . exact .inr ⟨b,o,e,λi hi=>hg.cell (hc i hi) (show some b≠r from hb ⟨b,o,none⟩ e hx)⟩
theorem grown_past {w W W':World}{r:Option Nat}{q:Nat}(h:w.grownBy W (some q))(hg:W.grownBy W' r)(hr:∀ k,r=some k->w.heap.size<=k):w.grownBy W' (some q) :=
 ⟨hg.os.trans h.os,hg.tape.trans h.tape,hg.output.trans h.output,Nat.le_trans h.size hg.size,λk hk hne=>(hg.block k (Nat.lt_of_lt_of_le hk h.size) (λe=>by have:=hr k e.symm;omega)).trans (h.block k hk hne)⟩
theorem JC {w w':World}{B e n:Nat}{v:Value}{r:Option Nat}{xs:List Value}(h:w.ownsRow B e 1 v n xs)(hg:w.grownBy w' r)(hne:∀ k,v.ownBlock=some k->r≠some k):w'.ownsRow B e 1 v n xs:=by
 refine ⟨h.1,?_⟩
 rcases h.2 with h0|⟨g,cap,cur,hv,hB,hh,rr⟩
 . exact .inl h0
 . subst hv
   exact .inr ⟨g,cap,cur,rfl,hB,(hg.block g (h.lt g rfl).2 (λe=>hne g rfl e.symm)).trans hh,rr⟩
theorem oneI (x:Int):∀ u ∈ [Value.int .i64 x],u.oneCell'=true:=by
 intro u hu;simp at hu;subst hu;rfl
def RvP (M:Rs (List Int))(w:World)(q:Nat)(ba:Option Addr)(bc:Nat)(bs:List Int)(e:Ending)(w':World):Prop :=
 w.grownBy w' (some q)/\(match M with
  |.bad er at_=>e=.panicked [flt er at_]
  | .ok l p'=>∃ v,e=.returned v/\w'.ownsRow w.heap.size 2 1 v l.length (I l)/\Rd w' q ba bc bs p'/\l.length<=bs.length)
theorem ent_c (q:Nat)(ba:Option Addr)(bc:Nat)(bs:List Int)(p:Nat)(n:Int)(w:World)(h:Rd w q ba bc bs p)(hA:Qt bs)(hl:bs.length<=1099511627776)(hn0:0<=n)(hn1:n<=4294967295) :
    Calls Tryz.prog 72 #[.int .i64 n,.func (.func 70) #[.pointer (some ⟨q,0,none⟩)] #[]] w (RvP (JK bs n.toNat [] p) w q ba bc bs):=by
 obtain ⟨i0,hi,hz0,hz1,hz2⟩:=info_parts Tryz.info2;obtain ⟨N,rfl⟩:=Int.eq_ofNat_of_zero_le hn0;rw [Int.toNat_natCast];have HR:=Hm h;have HA:=Hm hA;have HL:=Hm (λa (e:ba=some a) (hx:bs≠[])=>By.Has.lt (a:=a) (by rw [<- e];exact h.has) hx);have hq:=h.lt;clear h hA hn0
 go_enter Tryz.func72,Tryz.ntmps72
 go_wp2_with fail
 go_loopw [5,7] (λv i wr=>∃ (k:Nat) (acc:List Int) (p1:Nat),k<=N/\i=.int .i64 (k:Int)/\JK bs N [] p=JK bs (N-k) acc p1/\acc.length<=p1/\wr.ownsRow w.heap.size 2 1 v acc.length (I acc)/\Rd wr q ba bc bs p1/\w.grownBy wr (some q)) (λ_ i _=>N-(intOf i).toNat)
 case atStart=>exact ⟨0,[],p,Nat.zero_le _,rfl,rfl,by simp,World.ownsRow_nil _ _ _ _,HR.o,World.grownBy.refl _ _⟩
 case round =>
  obtain ⟨k,acc,p1,hk,rfl,hM,hal,hown,hr,hg⟩:=hrel;have HG:=Hm hg;have HO:=Hm hown;have hpl:=hr.le;clear hg hown HR
  by_cases hlt:k<N
  . have hki:(k:Int)<(N:Int):=by omega
    have K:=Hm (u32_rc q ba bc bs p1 wr hr HA.o hl);have hbd:=λv p2=>num_next (s:=false) (B:=32) (bs:=bs) (p:=p1) (p1:=p2) (v:=v) (by omega);have hst:N-k=(N-(k+1))+1:=by omega
    rw [hst] at hM
    simp only [JK] at hM
    have HM:=Hm hM;clear hM hst hr;generalize Qp false 32 bs p1=M at *
    cases M with
    |bad er at_ =>
     clear hbd
     go_wp2_with fail
     refine (K.o).mono ?_
     rintro e w1 ⟨hg1,rfl⟩
     refine ⟨rfl,Qa HG.o hg1,?_⟩
     rw [HM.o]
     exact rfl
    |ok v p2 =>
     have hp2:=hbd v p2 rfl;clear hbd
     go_wp2_with fail
     refine (K.o).mono ?_
     rintro e w1 ⟨hg1,rfl,hr1⟩;have hpl2:=hr1.le;have HR1:=Hm hr1;have HG1:=Hm (Qa HG.o hg1);have HO1:=Hm (JC HO.o hg1 (λj hj=>by have:=(HO.o.lt j hj).1;simp;omega));have hs1:=HG1.o.size;clear hr1 hg1 K HG HO
     go_wp2_with (at_builtin;refine wpList_append_own _ rfl _ _ 24 rfl w.heap.size 2 i0 (.int .i64 0) 1 8 Tryz.underlying24 hi hz0 hz1 hz2 rfl (by decide) _ _ _ rfl (HO1.o.alloc _) ⟨w1.heap.size,0,none⟩ 1 1 [.int .i64 v] rfl rfl (cell_one_new _ _ _) (oneI _) (by unfold maxLen;omega) (by omega) (by simp;omega) ?_;intro v3 w3 own3 gr3 hnn;have HO3:Hid (w3.ownsRow w.heap.size 2 1 v3 (acc++[v]).length (I (acc++[v]))):=(by show World.ownsRow _ _ _ _ _ _ _;simpa using own3);have HG3:=Hm (grown_past (Qa HG1.o (Qo ((Below.refl _ _).alloc (Nat.le_refl _) _))) gr3 (λj hj=>(HO1.o.lt j hj).1));have HR3:=Hm ((HR1.o.keep ((Below.refl _ _).alloc (Nat.le_refl _) _)).grown gr3 (λe=>by have:=(HO1.o.lt q e.symm).1;omega) (λa ea hx e=>by have h1:=HL.o a ea hx;have:=(HO1.o.lt _ e.symm).1;omega));clear own3 gr3 hnn)
     go_roundw
     case rel=>exact ⟨k+1,acc++[v],p2,by omega,by go_num,by rw [HM.o];rfl,by simp;omega,HO3.o,HR3.o,HG3.o⟩
     case measure=>simp [intOf];omega
  . have e:k=N:=by omega
    subst e;have HR1:=Hm hr;have HM:Hid (JK bs k [] p=.ok acc p1):=by show _=_;rw [hM,Nat.sub_self];rfl
    clear hr hM
    go_wp2_with fail
    go_ret
    refine ⟨HG.o,?_⟩
    rw [HM.o]
    exact ⟨_,rfl,HO.o,HR1.o,by omega⟩
def vecM (bs:List Int)(p:Nat):Rs (List Int):=(Qp false 32 bs p).bind λn p1=>JK bs n.toNat [] p1
theorem tell_c (q:Nat)(ba:Option Addr)(bc:Nat)(bs:List Int)(p:Nat)(k n:Int)(w:World)(h:Rd w q ba bc bs p) :
    Calls Tryz.prog 117 #[.pointer (some ⟨q,0,none⟩),.agg #[.int .i64 k,.int .i64 n,.int .i64 0,.int .i64 0,.int .i64 0,.int .u64 0,.slice none 0 0,.slice none 0 0]] w λe w'=>e=.returned (.tuple #[])/\Below w.heap.size w w':=by
 have cw:∀ o,(w.alloc o).cell? ⟨q,19,none⟩=some (.slice none 0 0):=λo=>(World.cell?_of_block (QC w o q h.lt)).trans h.cw;clear h
 go_enter Tryz.func117,Tryz.ntmps117
 go_wp2
 refine wp_loop_rounds 1 ?_
 rw [rounds_succ]
 go_wp2
 go_end0
 exact ⟨rfl,(Below.refl _ _).alloc (Nat.le_refl _) _⟩
theorem tellN_c (q:Nat)(ba:Option Addr)(bc:Nat)(bs:List Int)(p:Nat)(k n:Int)(w:World)(h:Rd w q ba bc bs p) :
    Calls Tryz.prog 71 #[.pointer (some ⟨q,0,none⟩),.int .i64 k,.int .i64 n] w λe w'=>e=.returned (.tuple #[])/\Below w.heap.size w w':=by
 have K:=Hm (tell_c q ba bc bs p k n w h);clear h
 go_enter Tryz.func71,Tryz.ntmps71
 go_wp2_with fail
 refine K.o.mono ?_
 rintro e w1 ⟨rfl,hb⟩
 go_wp2
 go_end0
 exact ⟨rfl,hb⟩
end Go.Proofs.YtipfjdogokanbaaGreatDoor.Ed
namespace Go.Proofs.YtipfjdogokanbaaGreatDoor.Ed
open Go.RowKit Go.Sort
def Q4 (f:Int)(op:Int)(bs:List Int)(p:Nat):Rs In :=
 if f=1 then (onlyM bs p).bind λa p1=>.ok ⟨op,a,0,0,[]⟩ p1
 else if f=2 then (Qp false 32 bs p).bind λa p1=>.ok ⟨op,a,0,0,[]⟩ p1
 else if f=3 then (vecM bs p).bind λl p1=>(Qp false 32 bs p1).bind λa p2=>.ok ⟨op,a,0,0,l⟩ p2
 else if f=4 then (Qp false 32 bs p).bind λa p1=>(JA bs p1).bind λ_ p2=>.ok ⟨op,a,0,0,[]⟩ p2
 else if f=5 then (Qp false 32 bs p).bind λa p1=>(Qp false 32 bs p1).bind λb p2=>.ok ⟨op,a,b,0,[]⟩ p2
 else if f=6 then (JA bs p).bind λ_ p1=>.ok ⟨op,0,0,0,[]⟩ p1
 else if f=7 then (Qp true 32 bs p).bind λv p1=>.ok ⟨op,0,0,v%4294967296,[]⟩ p1
 else if f=8 then (Qp true 64 bs p).bind λv p1=>.ok ⟨op,0,0,v,[]⟩ p1
 else if f=9 then (JN bs p 4).bind λv p1=>.ok ⟨op,0,0,v,[]⟩ p1
 else if f=10 then (JN bs p 8).bind λv p1=>.ok ⟨op,0,0,v,[]⟩ p1
 else .ok ⟨op,0,0,0,[]⟩ p
def RiP (M:Rs In)(w:World)(q:Nat)(ba:Option Addr)(bc:Nat)(bs:List Int)(e:Ending)(w':World):Prop :=
 w.grownBy w' (some q)/\(match M with
  |.bad er at_=>e=.panicked [flt er at_]
  | .ok x p'=>∃ la lc,e=.returned (inV x la lc)/\w'.ownsRow w.heap.size 2 1 (.slice la x.l.length lc) x.l.length (I x.l)/\Rd w' q ba bc bs p'/\x.l.length<=bs.length)
theorem Qe {w w1:World}{g g0 o:Nat}{a b c d e:Value}(h:C5 w g o a b c d e)(hg:w.grownBy w1 (some g0))(hne:g≠g0):C5 w1 g o a b c d e:=by
 have hb:w1.heap[g]?=w.heap[g]?:=hg.block g (World.block_lt_of_cell? w _ h.1.1) (by simpa using hne);obtain ⟨⟨h0,h1,h2,h3,h4⟩,f⟩:=h
 exact ⟨⟨(World.cell?_of_block hb).trans h0,(World.cell?_of_block hb).trans h1,(World.cell?_of_block hb).trans h2,(World.cell?_of_block hb).trans h3,(World.cell?_of_block hb).trans h4⟩,λi=>(World.frozen?_of_block hb).trans (f i)⟩
theorem Ja {w:World}{g X o i:Nat}{a b c d e v:Value}(h:C5 w g o a b c d e)(hne:g≠X):C5 (w.setCell ⟨X,i,none⟩ v) g o a b c d e:=Qe h (QW w X i v) hne
theorem Jp {w:World}{g:Nat}{a b c d e v:Value}(h:C5 w g 0 a b c d e):C5 (w.setCell ⟨g,1,none⟩ v) g 0 a v c d e:=by
 obtain ⟨⟨h0,h1,h2,h3,h4⟩,f⟩:=h
 exact ⟨⟨Qc h0 (by decide),Qh h1,Qc h2 (by decide),Qc h3 (by decide),Qc h4 (by decide)⟩,λi=>by rw [World.frozen?_setCell];exact f i⟩
theorem c5_set2 {w:World}{g:Nat}{a b c d e v:Value}(h:C5 w g 0 a b c d e):C5 (w.setCell ⟨g,2,none⟩ v) g 0 a b v d e:=by
 obtain ⟨⟨h0,h1,h2,h3,h4⟩,f⟩:=h
 exact ⟨⟨Qc h0 (by decide),Qc h1 (by decide),Qh h2,Qc h3 (by decide),Qc h4 (by decide)⟩,λi=>by rw [World.frozen?_setCell];exact f i⟩
theorem c5_set3 {w:World}{g:Nat}{a b c d e v:Value}(h:C5 w g 0 a b c d e):C5 (w.setCell ⟨g,3,none⟩ v) g 0 a b c v e:=by
 obtain ⟨⟨h0,h1,h2,h3,h4⟩,f⟩:=h
 exact ⟨⟨Qc h0 (by decide),Qc h1 (by decide),Qc h2 (by decide),Qh h3,Qc h4 (by decide)⟩,λi=>by rw [World.frozen?_setCell];exact f i⟩
theorem c5_set4 {w:World}{g:Nat}{a b c d e v:Value}(h:C5 w g 0 a b c d e):C5 (w.setCell ⟨g,4,none⟩ v) g 0 a b c d v:=by
 obtain ⟨⟨h0,h1,h2,h3,h4⟩,f⟩:=h
 exact ⟨⟨Qc h0 (by decide),Qc h1 (by decide),Qc h2 (by decide),Qc h3 (by decide),Qh h4⟩,λi=>by rw [World.frozen?_setCell];exact f i⟩
structure Lies (w:World)(q:Nat)(ba:Option Addr)(bs:List Int)(X:Nat):Prop where
 ne:X≠q
 by_:∀ a,ba=some a->bs≠[]->a.block≠X
 ge:w.heap.size<=X
theorem Rd.far {w W:World}{q:Nat}{ba:Option Addr}{bc:Nat}{bs:List Int}{p X:Nat}(h:Rd W q ba bc bs p)(hL:Lies w q ba bs X)(o:Nat)(v:Value):Rd (W.setCell ⟨X,o,none⟩ v) q ba bc bs p :=
 h.grown (QW W X o v) (by have:=hL.ne;simpa using λe=>this e.symm) (λa ha hx=>by simpa using hL.by_ a ha hx)
theorem Q2 {w W:World}{q X:Nat}{ba:Option Addr}{bs:List Int}(h:w.grownBy W (some q))(hL:Lies w q ba bs X)(o:Nat)(v:Value):w.grownBy (W.setCell ⟨X,o,none⟩ v) (some q) :=
 grown_past h (QW W X o v) (λk hk=>by simp at hk;have:=hL.ge;omega)
theorem lies_of {w:World}{q:Nat}{ba:Option Addr}{bc:Nat}{bs:List Int}{p X:Nat}(h:Rd w q ba bc bs p)(hX:w.heap.size<=X):Lies w q ba bs X :=
 ⟨by have:=h.lt;omega,λa ha hx=>by have:=By.Has.lt (a:=a) (by rw [<- ha];exact h.has) hx;omega,hX⟩
theorem Gn (w:World)(op:Int):C5 ((w.alloc (.cells #[.int .i64 0,.int .i64 0,.int .i64 0,.int .u64 0,.slice none 0 0] 26)).alloc (.cells #[.int .i64 op,.int .i64 0,.int .i64 0,.int .u64 0,.slice none 0 0] 26)) w.heap.size 0 (.int .i64 0) (.int .i64 0) (.int .i64 0) (.int .u64 0) (.slice none 0 0)/\C5 ((w.alloc (.cells #[.int .i64 0,.int .i64 0,.int .i64 0,.int .u64 0,.slice none 0 0] 26)).alloc (.cells #[.int .i64 op,.int .i64 0,.int .i64 0,.int .u64 0,.slice none 0 0] 26)) (w.heap.size+1) 0 (.int .i64 op) (.int .i64 0) (.int .i64 0) (.int .u64 0) (.slice none 0 0)/\Below w.heap.size w ((w.alloc (.cells #[.int .i64 0,.int .i64 0,.int .i64 0,.int .u64 0,.slice none 0 0] 26)).alloc (.cells #[.int .i64 op,.int .i64 0,.int .i64 0,.int .u64 0,.slice none 0 0] 26)):=by
 refine ⟨C5.new.past,?_,((Below.refl _ _).alloc (Nat.le_refl _) _).alloc (by simp) _⟩
 have:=C5.new (w:=w.alloc (.cells #[.int .i64 0,.int .i64 0,.int .i64 0,.int .u64 0,.slice none 0 0] 26)) (a:=.int .i64 op) (b:=.int .i64 0) (c:=.int .i64 0) (d:=.int .u64 0) (e:=.slice none 0 0) (t:=26)
 simpa using this
theorem Gm (w:World)(op:Int):∃ W,W=(w.alloc (.cells #[.int .i64 0,.int .i64 0,.int .i64 0,.int .u64 0,.slice none 0 0] 26)).alloc (.cells #[.int .i64 op,.int .i64 0,.int .i64 0,.int .u64 0,.slice none 0 0] 26)/\C5 W w.heap.size 0 (.int .i64 0) (.int .i64 0) (.int .i64 0) (.int .u64 0) (.slice none 0 0)/\C5 W (w.heap.size+1) 0 (.int .i64 op) (.int .i64 0) (.int .i64 0) (.int .u64 0) (.slice none 0 0)/\Below w.heap.size w W:=⟨_,rfl,Gn w op⟩
theorem XH {w W:World}{q:Nat}{ba:Option Addr}{bc:Nat}{bs:List Int}{p:Nat}{x:In}{la:Option Addr}{lc:Nat}{v0 v1 v2 v3 v4:Value}(hR:Rd W q ba bc bs p)(hG:w.grownBy W (some q))(hL:Lies w q ba bs w.heap.size)(hO:W.ownsRow w.heap.size 2 1 (.slice la x.l.length lc) x.l.length (I x.l))(hN:(Value.slice la x.l.length lc).ownBlock≠some w.heap.size) :
    w.grownBy (((((W.setCell ⟨w.heap.size,0,none⟩ v0).setCell ⟨w.heap.size,1,none⟩ v1).setCell ⟨w.heap.size,2,none⟩ v2).setCell ⟨w.heap.size,3,none⟩ v3).setCell ⟨w.heap.size,4,none⟩ v4) (some q)/\(((((W.setCell ⟨w.heap.size,0,none⟩ v0).setCell ⟨w.heap.size,1,none⟩ v1).setCell ⟨w.heap.size,2,none⟩ v2).setCell ⟨w.heap.size,3,none⟩ v3).setCell ⟨w.heap.size,4,none⟩ v4).ownsRow w.heap.size 2 1 (.slice la x.l.length lc) x.l.length (I x.l)/\Rd (((((W.setCell ⟨w.heap.size,0,none⟩ v0).setCell ⟨w.heap.size,1,none⟩ v1).setCell ⟨w.heap.size,2,none⟩ v2).setCell ⟨w.heap.size,3,none⟩ v3).setCell ⟨w.heap.size,4,none⟩ v4) q ba bc bs p :=
 ⟨Q2 (Q2 (Q2 (Q2 (Q2 hG hL _ _) hL _ _) hL _ _) hL _ _) hL _ _,Qs (Qs (Qs (Qs (Qs hO hN) hN) hN) hN) hN,((((hR.far hL _ _).far hL _ _).far hL _ _).far hL _ _).far hL _ _⟩
end Go.Proofs.YtipfjdogokanbaaGreatDoor.Ed
namespace Go.Proofs.YtipfjdogokanbaaGreatDoor.Ed
open Go.RowKit Go.Sort
structure BC where
 n:Nat
 ev:Value
structure Sr (w:World)(s:Nat)(ba:Option Addr)(bc:BC)(bs:List Int)(p:Nat)(er at_:Int):Prop where
 c0:w.cell? ⟨s,0,none⟩=some (.slice ba bs.length bc.n)
 c1:w.cell? ⟨s,1,none⟩=some (.int .i64 p)
 c2:w.cell? ⟨s,2,none⟩=some (.slice none 0 0)
 c3:w.cell? ⟨s,3,none⟩=some (.int .i64 er)
 c4:w.cell? ⟨s,4,none⟩=some (.int .i64 at_)
 ev:w.cell? ⟨s,18,none⟩=some bc.ev
 c19:w.cell? ⟨s,19,none⟩=some (.int .i64 0)
 fz:∀ i,w.frozen? ⟨s,i,none⟩=false
 has:By.Has w ba bs
 ne:∀ a,ba=some a->a.block<s
 le:p<=bs.length
theorem Sr.lt {w:World}{s:Nat}{ba:Option Addr}{bc:BC}{bs:List Int}{p:Nat}{er at_:Int}(h:Sr w s ba bc bs p er at_):s<w.heap.size:=World.block_lt_of_cell? w _ h.c0
theorem Sr.grown {w w1:World}{s:Nat}{ba:Option Addr}{bc:BC}{bs:List Int}{p:Nat}{er at_:Int}{r:Option Nat}(h:Sr w s ba bc bs p er at_)(hg:w.grownBy w1 r)(hs:some s≠r)(hr:∀ k,r=some k->s<=k):Sr w1 s ba bc bs p er at_:=by
 have hk:w1.heap[s]?=w.heap[s]?:=hg.block s h.lt hs;have C:∀ i v,w.cell? ⟨s,i,none⟩=some v->w1.cell? ⟨s,i,none⟩=some v:=λi v hv=>(World.cell?_of_block hk).trans hv
 refine ⟨C _ _ h.c0,C _ _ h.c1,C _ _ h.c2,C _ _ h.c3,C _ _ h.c4,C _ _ h.ev,C _ _ h.c19,λi=>(World.frozen?_of_block hk).trans (h.fz i),?_,h.ne,h.le⟩
 rcases h.has with h'|⟨b,o,e,hc⟩
 . exact .inl h'
 . exact .inr ⟨b,o,e,λi hi=>hg.cell (hc i hi) (λe'=>by have h1:=h.ne _ e;have:=hr b e'.symm;simp at h1;omega)⟩
theorem Sr.keep {w w1:World}{s:Nat}{ba:Option Addr}{bc:BC}{bs:List Int}{p:Nat}{er at_:Int}(h:Sr w s ba bc bs p er at_)(hb:Below w.heap.size w w1):Sr w1 s ba bc bs p er at_ :=
 h.grown (r:=none) (Qo hb) (by simp) (by simp)
theorem Sr.drewN {w:World}{s:Nat}{ba:Option Addr}{bc:BC}{bs:List Int}{p:Nat}{er at_:Int}(h:Sr w s ba bc bs p er at_)(n:Nat):Sr (w.drewN n) s ba bc bs p er at_ :=
 ⟨h.c0,h.c1,h.c2,h.c3,h.c4,h.ev,h.c19,h.fz,h.has,h.ne,h.le⟩
theorem Sr.has_set {w:World}{s:Nat}{ba:Option Addr}{bs:List Int}(h:By.Has w ba bs)(ne:∀ a,ba=some a->a.block<s)(o:Nat)(v:Value):By.Has (w.setCell ⟨s,o,none⟩ v) ba bs :=
 h.grown (QW w s o v) (λa ha=>by have:=ne a ha;omega)
theorem Sr.step {w:World}{s:Nat}{ba:Option Addr}{bc:BC}{bs:List Int}{p:Nat}{er at_:Int}(h:Sr w s ba bc bs p er at_)(p':Nat)(hp:p'<=bs.length):Sr (w.setCell ⟨s,1,none⟩ (.int .i64 p')) s ba bc bs p' er at_:=by
 exact ⟨Qc h.c0 (by decide),Qh h.c1,Qc h.c2 (by decide),Qc h.c3 (by decide),Qc h.c4 (by decide),Qc h.ev (by decide),Qc h.c19 (by decide),λi=>by rw [World.frozen?_setCell];exact h.fz i,Sr.has_set h.has h.ne _ _,h.ne,hp⟩
theorem Sr.err {w:World}{s:Nat}{ba:Option Addr}{bc:BC}{bs:List Int}{p:Nat}{er at_:Int}(h:Sr w s ba bc bs p er at_)(er' at':Int):Sr ((w.setCell ⟨s,3,none⟩ (.int .i64 er')).setCell ⟨s,4,none⟩ (.int .i64 at')) s ba bc bs p er' at':=by
 exact ⟨Qc (Qc h.c0 (by decide)) (by decide),Qc (Qc h.c1 (by decide)) (by decide),Qc (Qc h.c2 (by decide)) (by decide),Qc (Qh h.c3) (by decide),Qh (Qc h.c4 (by decide)),Qc (Qc h.ev (by decide)) (by decide),Qc (Qc h.c19 (by decide)) (by decide),λi=>by simp only [World.frozen?_setCell];exact h.fz i,Sr.has_set (Sr.has_set h.has h.ne _ _) h.ne _ _,h.ne,h.le⟩
theorem QY (s:Nat)(ba:Option Addr)(bc:BC)(bs:List Int)(p:Nat)(er at_:Int)(w:World)(h:Sr w s ba bc bs p 0 0) :
    Calls Tryz.prog 38 #[.pointer (some ⟨s,0,none⟩),.int .i64 er,.int .i64 at_] w λe w'=>e=.returned (.tuple #[])/\Sr w' s ba bc bs p er at_/\w.grownBy w' (some s):=by
 have c3:=h.c3;have c4:=h.c4;have f3:=h.fz 3;have f4:=h.fz 4;have H:=Hm (h.err er at_);clear h
 go_enter Tryz.func38,Tryz.ntmps38
 go_wp2
 go_end0
 exact ⟨rfl,H.o,Qa (QW _ s 3 _) (QW _ s 4 _)⟩
theorem left_sc (s:Nat)(ba:Option Addr)(bc:BC)(bs:List Int)(p:Nat)(er at_:Int)(w:World)(h:Sr w s ba bc bs p er at_) :
    Calls Tryz.prog 87 #[.pointer (some ⟨s,0,none⟩)] w λe w'=>e=.returned (.int .i64 4294967296)/\w=w':=by
 have c2:=h.c2;clear h
 go_enter Tryz.func87,Tryz.ntmps87
 go_wp2
 go_ret
 exact ⟨rfl,rfl⟩
theorem byte_se (s:Nat)(ba:Option Addr)(bc:BC)(bs:List Int)(p:Nat)(er at_:Int)(w:World)(h:Sr w s ba bc bs p er at_)(hn:er≠0) :
    Calls Tryz.prog 36 #[.pointer (some ⟨s,0,none⟩)] w λe w'=>e=.returned (.int .u8 0)/\w=w':=by
 have c3:=h.c3;have hne:(er != 0)=true:=by simpa using hn
 clear h hn
 go_enter Tryz.func36,Tryz.ntmps36
 go_wp2
 go_ret
 exact ⟨rfl,rfl⟩
end Go.Proofs.YtipfjdogokanbaaGreatDoor.Ed
namespace Go.Proofs.YtipfjdogokanbaaGreatDoor.Ed
open Go.RowKit Go.Sort
def SpP {α:Type}(M:Rs α)(kv:α->Value)(bv:Value->Prop)(w:World)(s:Nat)(ba:Option Addr)(bc:BC)(bs:List Int)(e:Ending)(w':World):Prop :=
 w.grownBy w' (some s)/\(match M with
  |.bad er a=>∃ u p',e=.returned u/\bv u/\Sr w' s ba bc bs p' er a
  | .ok v p'=>e=.returned (kv v)/\Sr w' s ba bc bs p' 0 0)
def isB (u:Value):Prop:=u=.int .u8 0
def isI (u:Value):Prop:=∃ v:Int,u=.int .i64 v
def isU (u:Value):Prop:=∃ v:Int,u=.int .u64 v/\0<=v/\v<=18446744073709551615
theorem Sr.stepI {w:World}{s:Nat}{ba:Option Addr}{bc:BC}{bs:List Int}{p:Nat}{er at_:Int}(h:Sr w s ba bc bs p er at_)(hp:p+1<=bs.length):Sr (w.setCell ⟨s,1,none⟩ (.int .i64 ((p:Int)+1))) s ba bc bs (p+1) er at_:=by
 have:=h.step (p+1) hp
 simpa using this
theorem Xe (s:Nat)(ba:Option Addr)(bc:BC)(bs:List Int)(p:Nat)(w:World)(h:Sr w s ba bc bs p 0 0)(hl:bs.length<=1099511627776) :
    Calls Tryz.prog 36 #[.pointer (some ⟨s,0,none⟩)] w (SpP (Qy bs p) (λv=>.int .u8 v) isB w s ba bc bs):=by
 have c0:=h.c0;have c1:=h.c1;have c3:=h.c3
 by_cases hp:bs.length<=p
 . have hpi:(bs.length:Int)<=(p:Int):=by omega
   have HM:Hid (Qy bs p=.bad 2 bs.length):=by show _=_;unfold Qy;rw [if_pos hp]
   have KF:=Hm (λn=>QY s ba bc bs p 2 bs.length (w.drewN n) (h.drewN n));clear h
   go_enter Tryz.func36,Tryz.ntmps36
   go_wp2_with fail
   go_quiet (fail)
   go_wp2_with fail
   refine (KF.o _).mono ?_
   rintro e w2 ⟨rfl,hs,hg⟩;have HS:=Hm hs;have HG:=Hm hg;clear hs hg KF
   go_wp2_with fail
   go_ret
   refine ⟨⟨HG.o.os,HG.o.tape,HG.o.output,HG.o.size,HG.o.block⟩,?_⟩
   rw [HM.o]
   exact ⟨_,_,rfl,rfl,HS.o⟩
 . have hpi:¬ (bs.length:Int)<=(p:Int):=by omega
   have hpi2:(p:Int)<(bs.length:Int):=by omega
   have HM:Hid (Qy bs p=.ok (bs.getD p 0) (p+1)):=by show _=_;unfold Qy;rw [if_neg hp]
   obtain ⟨y,hy⟩:∃ y,bs.getD p 0=y:=⟨_,rfl⟩;rw [hy] at HM;have HY:=Hm hy;have H:=Hm h;have KL:=Hm (λn=>left_sc s ba bc bs p 0 0 (w.drewN n) (h.drewN n));have f1:=h.fz 1;clear h hy
   go_enter Tryz.func36,Tryz.ntmps36
   go_wp2_with fail
   go_quiet (fail)
   go_wp2_with fail
   refine (KL.o _).mono ?_
   rintro e w2 ⟨rfl,rfl⟩
   go_upto_region 10 with fail
   refine Qj (λW=>Sr W s ba bc bs (p+1) 0 0/\w.grownBy W (some s)) ⟨?_,?_⟩ ?_
   . exact (H.o.drewN _).stepI (by omega)
   . exact Qa (grown_drewN (World.grownBy.refl _ _) _) (QW _ s 1 _)
   rintro W ⟨hR,hG⟩;have e0:=hR.c0;have e1:=hR.c1;have HG:=Hm hG;have HR:=Hm hR
   rcases hR.has with hx|⟨b1,o1,ea,hc⟩
   . subst hx;simp at hp
   have d:=hc p (by omega);rw [HY.o] at d;subst ea;have ecast:((p+1:Nat):Int)=(p:Int)+1:=by omega
   rw [ecast] at e1;clear hR hG hc H KL f1 c0 c1 c3 ecast
   go_quiet (fail)
   go_wp2_with fail
   go_ret
   refine ⟨⟨HG.o.os,HG.o.tape,HG.o.output,HG.o.size,HG.o.block⟩,?_⟩
   rw [HM.o]
   exact ⟨rfl,HR.o.drewN _⟩
end Go.Proofs.YtipfjdogokanbaaGreatDoor.Ed
namespace Go.Proofs.YtipfjdogokanbaaGreatDoor.Ed
open Go.RowKit Go.Sort
def Sv (sg:Bool)(bs:List Int)(p:Nat)(B:Int)(k:Nat)(acc:Int):Prop:=By.QR sg bs p B 10 0 0=By.QR sg bs p B (10-k) k acc
theorem sv_more {sg:Bool}{bs:List Int}{p:Nat}{B:Int}{k:Nat}{acc:Int}(h:Sv sg bs p B k acc)(hp:p+k<bs.length)(hk:k<=8)(hr:7<B-7*(k:Int))(hc:128<=bs.getD (p+k) 0):Sv sg bs p B (k+1) (acc+bs.getD (p+k) 0%128*By.P2 (7*(k:Int))):=by
 unfold Sv at *;rw [h,show 10-k=(10-(k+1))+1 by omega,By.JU hp hr hc]
theorem sv_short {sg:Bool}{bs:List Int}{p:Nat}{B:Int}{k:Nat}{acc:Int}(h:Sv sg bs p B k acc)(hk:k<=9)(hp:bs.length<=p+k):Qp sg B bs p=.bad 2 bs.length:=by
 unfold Sv at h;rw [show 10-k=(9-k)+1 by omega,By.XN hp] at h;unfold Qp;rw [h,if_pos rfl]
theorem sv_long {sg:Bool}{bs:List Int}{p:Nat}{B:Int}{k:Nat}{acc:Int}(h:Sv sg bs p B k acc)(hk:k<=9)(hp:p+k<bs.length)(hr:B-7*(k:Int)<=7)(hc:128<=bs.getD (p+k) 0):Qp sg B bs p=.bad 7 ((p:Int)+k+1):=by
 unfold Sv at h;rw [show 10-k=(9-k)+1 by omega,By.JV hp hr hc] at h
 exact numM_bad h (by decide) (by decide)
theorem sv_bits {sg:Bool}{bs:List Int}{p:Nat}{B:Int}{k:Nat}{acc:Int}(h:Sv sg bs p B k acc)(hk:k<=9)(hp:p+k<bs.length)(hr:B-7*(k:Int)<=7)(hc:bs.getD (p+k) 0<128)(ho:By.rok sg (bs.getD (p+k) 0) (B-7*(k:Int))=false):Qp sg B bs p=.bad 7 ((p:Int)+k+1):=by
 unfold Sv at h;rw [show 10-k=(9-k)+1 by omega,By.JW hp hr hc ho] at h
 exact numM_bad h (by decide) (by decide)
theorem sv_end {sg:Bool}{bs:List Int}{p:Nat}{B:Int}{k:Nat}{acc:Int}(h:Sv sg bs p B k acc)(hk:k<=9)(hp:p+k<bs.length)(hc:bs.getD (p+k) 0<128)(ho:B-7*(k:Int)<=7->By.rok sg (bs.getD (p+k) 0) (B-7*(k:Int))=true):Qp sg B bs p=.ok (By.fin sg (acc+bs.getD (p+k) 0%128*By.P2 (7*(k:Int))) (bs.getD (p+k) 0) k) (p+k+1):=by
 unfold Sv at h;rw [show 10-k=(9-k)+1 by omega,By.Xj hp hc ho] at h
 refine numM_ok ?_
 rw [h]
 simp
theorem XD (y:Int):0<=IntKind.u64.wrap y/\IntKind.u64.wrap y<=18446744073709551615:=by rw [IntKind.wrap_u64];omega
end Go.Proofs.YtipfjdogokanbaaGreatDoor.Ed
