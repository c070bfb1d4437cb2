import Derived.Test.YtipfjdogokanbaaGreatDoorGaa
import Derived.Test.YtipfjdogokanbaaGreatDoorGae
import Derived.Deep.OwnRows
import Derived.Laws.MakeOwn
import Derived.Laws.OwnMore
import Derived.Lib.QuietBelow
import Derived.Maps.AppendAt
set_option linter.all false
set_option maxHeartbeats 400000000
set_option maxRecDepth 100000
set_option linter.all false
namespace Go.Proofs.YtipfjdogokanbaaGreatDoor
open Go.RowKit
structure In where
 op:Int
 a:Int
 b:Int
 v:Int
 l:List Int
abbrev inV (x:In)(la:Option Addr)(lc:Nat):Value:=.agg #[.int .i64 x.op,.int .i64 x.a,.int .i64 x.b,.int .u64 x.v,.slice la x.l.length lc]
def I0:In:=⟨0,0,0,0,[]⟩
end Go.Proofs.YtipfjdogokanbaaGreatDoor
set_option linter.all false
namespace Go.Proofs.YtipfjdogokanbaaGreatDoor
open Go.RowKit
end Go.Proofs.YtipfjdogokanbaaGreatDoor
set_option linter.all false
namespace Go.Proofs.YtipfjdogokanbaaGreatDoor
open Go.RowKit
theorem Has.keep {w w1:World}{a:Option Addr}{xs:List Int}(h:Has w a xs)(hb:Below w.heap.size w w1):Has w1 a xs:=by
 rcases h with h|⟨b',o',e,hc⟩
 . exact .inl h
 . exact .inr ⟨b',o',e,λi hi=>(hb.cell (World.block_lt_of_cell? w _ (hc i hi))).trans (hc i hi)⟩
def C5 (w:World)(g o:Nat)(a b c d e:Value):Prop :=
 (w.cell? ⟨g,o,none⟩=some a/\w.cell? ⟨g,o+1,none⟩=some b/\w.cell? ⟨g,o+2,none⟩=some c/\w.cell? ⟨g,o+3,none⟩=some d/\w.cell? ⟨g,o+4,none⟩=some e)/\∀ i,w.frozen? ⟨g,i,none⟩=false
theorem C5.keep {w w1:World}{g o:Nat}{a b c d e:Value}(h:C5 w g o a b c d e)(hb:Below w.heap.size w w1):C5 w1 g o a b c d e:=by
 obtain ⟨⟨h0,h1,h2,h3,h4⟩,f⟩:=h;have hl:=World.block_lt_of_cell? w _ h0
 exact ⟨⟨(hb.cell (p:=⟨g,o,none⟩) hl).trans h0,(hb.cell (p:=⟨g,o+1,none⟩) hl).trans h1,(hb.cell (p:=⟨g,o+2,none⟩) hl).trans h2,(hb.cell (p:=⟨g,o+3,none⟩) hl).trans h3,(hb.cell (p:=⟨g,o+4,none⟩) hl).trans h4⟩,λi=>(hb.frozen (p:=⟨g,i,none⟩) hl).trans (f i)⟩
theorem C5.new {w:World}{a b c d e:Value}{t:TypeId}:C5 (w.alloc (.cells #[a,b,c,d,e] t)) w.heap.size 0 a b c d e :=
 ⟨⟨Qi rfl rfl,Qi rfl rfl,Qi rfl rfl,Qi rfl rfl,Qi rfl rfl⟩,λi=>World.frozen?_alloc_new w _ t i⟩
theorem C5.past {w:World}{o:Obj}{g q:Nat}{a b c d e:Value}(h:C5 w g q a b c d e):C5 (w.alloc o) g q a b c d e:=h.keep ((Below.refl _ _).alloc (Nat.le_refl _) _)
theorem C5.lt {w:World}{g o:Nat}{a b c d e:Value}(h:C5 w g o a b c d e):g<w.heap.size:=World.block_lt_of_cell? w _ h.1.1
theorem Qh {w:World}{p:Addr}{u v:Value}(h:w.cell? p=some u):(w.setCell p v).cell? p=some v:=World.cell?_setCell_same _ _ _ h
theorem Qc {w:World}{g i j:Nat}{u v:Value}(h:w.cell? ⟨g,j,none⟩=some u)(hn:i≠j):(w.setCell ⟨g,i,none⟩ v).cell? ⟨g,j,none⟩=some u:=by
 rw [World.cell?_setCell_other _ _ _ _ (λhj=>hn (congrArg Addr.off hj))];exact h
end Go.Proofs.YtipfjdogokanbaaGreatDoor
set_option linter.all false
namespace Go.Proofs.YtipfjdogokanbaaGreatDoor
open Go.RowKit Go.Sort
end Go.Proofs.YtipfjdogokanbaaGreatDoor
set_option linter.all false
namespace Go.Proofs.YtipfjdogokanbaaGreatDoor
open Go.RowKit Go.Sort
def Ji (x:Int):Bool:=decide (0<=x/\x<=4294967295)
def tyB (x:Int):Bool:=decide (124<=x/\x<=127)
theorem Xg (x:Int)(w:World):Calls Tryz.prog 62 #[.int .i64 x] w λe w'=>e=.returned (.bool (Ji x))/\w=w':=by
 have H:=Hm (l1In_c x 0 4294967295)
 go_enter Tryz.func62,Tryz.ntmps62
 go_wp2_with fail
 refine (H.o _).mono ?_
 rintro e w1 ⟨rfl,rfl⟩;generalize hb:decide (0<=x/\x<=4294967295)=bb
 go_wp2
 go_ret
 exact ⟨by rw [<- hb];rfl,rfl⟩
theorem ty_c (x:Int)(w:World):Calls Tryz.prog 61 #[.int .i64 x] w λe w'=>e=.returned (.bool (tyB x))/\w=w':=by
 have H:=Hm (l1In_c x 124 127)
 go_enter Tryz.func61,Tryz.ntmps61
 go_wp2_with fail
 refine (H.o _).mono ?_
 rintro e w1 ⟨rfl,rfl⟩;generalize hb:decide (124<=x/\x<=127)=bb
 go_wp2
 go_ret
 exact ⟨by rw [<- hb];rfl,rfl⟩
theorem iu32_c (x:Int)(w:World):Calls Tryz.prog 51 #[.int .i64 x] w λe w'=>e=.returned (.bool (Ji x))/\w=w':=by
 go_enter Tryz.func51,Tryz.ntmps51
 go_wp2
 all_goals
  go_ret
  refine ⟨?_,rfl⟩
  simp [Ji, *]
  try omega
theorem ity_c (x:Int)(w:World):Calls Tryz.prog 108 #[.int .i64 x] w λe w'=>e=.returned (.bool (tyB x))/\w=w':=by
 go_enter Tryz.func108,Tryz.ntmps108
 go_wp2
 all_goals
  go_ret
  refine ⟨?_,rfl⟩
  simp [tyB, *]
  try omega
theorem Qq:Ji 0=true:=rfl
theorem Xs (l:List Int):((l.length:Int)==0)=l.isEmpty:=by
 cases l with
|nil=>rfl
|cons a t=>simp;omega
def Qg (f:Int)(x:In):Bool :=
 if f=0\/f=6 then decide (x.a=0)&&decide (x.b=0)&&decide (x.v=0)&&x.l.isEmpty
 else if f=1 then (decide (x.a=64) || tyB x.a)&&decide (x.b=0)&&decide (x.v=0)&&x.l.isEmpty
 else if f=2\/f=4 then Ji x.a&&decide (x.b=0)&&decide (x.v=0)&&x.l.isEmpty
 else if f=3 then x.l.all Ji&&Ji x.a&&decide (x.b=0)&&decide (x.v=0)
 else if f=5 then Ji x.a&&Ji x.b&&decide (x.v=0)&&x.l.isEmpty
 else if f=7\/f=9 then decide (x.a=0)&&decide (x.b=0)&&decide (x.v<4294967296)&&x.l.isEmpty
 else if f=8\/f=10 then decide (x.a=0)&&decide (x.b=0)&&x.l.isEmpty
 else false
end Go.Proofs.YtipfjdogokanbaaGreatDoor
set_option linter.all false
namespace Go.Proofs.YtipfjdogokanbaaGreatDoor
open Go.RowKit Go.Sort
theorem all_t (l:List Int)(h:∀ i,i<l.length->Ji (l.getD i 0)=true):l.all Ji=true:=by
 rw [List.all_eq_true]
 intro x hx
 obtain ⟨i,hi,rfl⟩:=List.getElem_of_mem hx
 have:=h i hi
 simpa [List.getD,List.getElem?_eq_getElem hi] using this
theorem all_f (l:List Int)(i:Nat)(hi:i<l.length)(h:Ji (l.getD i 0)=false):l.all Ji=false:=by
 rw [List.all_eq_false]
 refine ⟨l[i],List.getElem_mem hi,?_⟩
 have:l.getD i 0=l[i]:=by simp [List.getD,List.getElem?_eq_getElem hi]
 rw [this] at h
 simp [h]
theorem sgood_3a (op a b v:Int)(l:List Int)(la:Option Addr)(lc:Nat)(w:World)(hf:Qd (Qb op)=3)(hv:0<=v)(hln:l.length<=1099511627776)(hH:Has w la l)(hb:¬ b=0):Calls Tryz.prog 21 #[inV ⟨op,a,b,v,l⟩ la lc] w λe w'=>e=.returned (.bool (Qg 3 ⟨op,a,b,v,l⟩))/\Below w.heap.size w w':=by
 have hb1:(b==0)=false:=by simpa using hb
 have HF:=Hm (Qr op);rw [hf] at HF;clear hf;have hlz:=Xs l;have HA:=Hm (Xg a);have HH:=Hm (λo=>hH.keep ((Below.refl w.heap.size w).alloc (Nat.le_refl _) o));clear hH;generalize ht:Ji a=ta at *
 go_enter Tryz.func21,Tryz.ntmps21
 go_wp2_with fail
 refine (HF.o _).mono ?_
 rintro e w1 ⟨rfl,rfl⟩
 go_wp2_with fail
 go_loop [6] (λi=>∃ k:Nat,k<=l.length/\i=.int .i64 k/\∀ j,j<k->Ji (l.getD j 0)=true) (λi=>l.length-(intOf i).toNat)
 case atStart=>exact ⟨0,Nat.zero_le _,rfl,λj h=>by omega⟩
 case round =>
  obtain ⟨k,hk,rfl,hall⟩:=hrel
  by_cases hlt:k<l.length
  . have hki:(k:Int)<(l.length:Int):=by omega
    rcases HH.o (.cells #[.int .i64 op,.int .i64 a,.int .i64 b,.int .u64 v,.slice la l.length lc] 26) with hx|⟨b1,o1,ea,hc⟩
    . subst hx;simp at hlt
    have d:=hc k hlt;subst ea;have HK:=Hm (Xg (l.getD k 0));generalize hy:l.getD k 0=y at *;generalize hz:Ji y=z at *
    cases z
    . have hfin:l.all Ji=false:=all_f l k hlt (by rw [hy];exact hz);have HFIN:=Hm hfin;clear hfin hall hc hy hz HH
      go_wp2_with (refine (HK.o _).mono ?_;rintro e w1 ⟨rfl,rfl⟩)
      go_ret
      exact ⟨by simp [Qg,HFIN.o],(Below.refl _ _).alloc (Nat.le_refl _) _⟩
    . have HA2:Hid (∀ j,j<k+1->Ji (l.getD j 0)=true):=λj hj=>by
        rcases (by omega:j<k\/j=k) with h|h
        . exact hall j h
        . subst h;rw [hy];exact hz
      clear hall hc hy hz HH
      go_wp2_with (refine (HK.o _).mono ?_;rintro e w1 ⟨rfl,rfl⟩)
      go_round
      case rel=>exact ⟨k+1,by omega,by go_num,HA2.o⟩
      case measure=>simp [intOf];omega
  . have e:k=l.length:=by omega
    subst e;have HFIN:=Hm (all_t l hall);clear hall HH
    go_wp2_with (refine (HA.o _).mono ?_;rintro e w1 ⟨rfl,rfl⟩)
    all_goals
     go_ret
     refine ⟨?_,(Below.refl _ _).alloc (Nat.le_refl _) _⟩
     simp [Qg,HFIN.o,ht]
     try simp_all
theorem sgood_3b (op a b v:Int)(l:List Int)(la:Option Addr)(lc:Nat)(w:World)(hf:Qd (Qb op)=3)(hv:0<=v)(hln:l.length<=1099511627776)(hH:Has w la l)(hb:b=0)(hv0:¬ v=0):Calls Tryz.prog 21 #[inV ⟨op,a,b,v,l⟩ la lc] w λe w'=>e=.returned (.bool (Qg 3 ⟨op,a,b,v,l⟩))/\Below w.heap.size w w':=by
 subst hb;have hb1:(v==0)=false:=by simpa using hv0
 have HF:=Hm (Qr op);rw [hf] at HF;clear hf;have hlz:=Xs l;have HA:=Hm (Xg a);have HH:=Hm (λo=>hH.keep ((Below.refl w.heap.size w).alloc (Nat.le_refl _) o));clear hH;generalize ht:Ji a=ta at *
 go_enter Tryz.func21,Tryz.ntmps21
 go_wp2_with fail
 refine (HF.o _).mono ?_
 rintro e w1 ⟨rfl,rfl⟩
 go_wp2_with fail
 go_loop [6] (λi=>∃ k:Nat,k<=l.length/\i=.int .i64 k/\∀ j,j<k->Ji (l.getD j 0)=true) (λi=>l.length-(intOf i).toNat)
 case atStart=>exact ⟨0,Nat.zero_le _,rfl,λj h=>by omega⟩
 case round =>
  obtain ⟨k,hk,rfl,hall⟩:=hrel
  by_cases hlt:k<l.length
  . have hki:(k:Int)<(l.length:Int):=by omega
    rcases HH.o (.cells #[.int .i64 op,.int .i64 a,.int .i64 0,.int .u64 v,.slice la l.length lc] 26) with hx|⟨b1,o1,ea,hc⟩
    . subst hx;simp at hlt
    have d:=hc k hlt;subst ea;have HK:=Hm (Xg (l.getD k 0));generalize hy:l.getD k 0=y at *;generalize hz:Ji y=z at *
    cases z
    . have hfin:l.all Ji=false:=all_f l k hlt (by rw [hy];exact hz);have HFIN:=Hm hfin;clear hfin hall hc hy hz HH
      go_wp2_with (refine (HK.o _).mono ?_;rintro e w1 ⟨rfl,rfl⟩)
      go_ret
      exact ⟨by simp [Qg,HFIN.o],(Below.refl _ _).alloc (Nat.le_refl _) _⟩
    . have HA2:Hid (∀ j,j<k+1->Ji (l.getD j 0)=true):=λj hj=>by
        rcases (by omega:j<k\/j=k) with h|h
        . exact hall j h
        . subst h;rw [hy];exact hz
      clear hall hc hy hz HH
      go_wp2_with (refine (HK.o _).mono ?_;rintro e w1 ⟨rfl,rfl⟩)
      go_round
      case rel=>exact ⟨k+1,by omega,by go_num,HA2.o⟩
      case measure=>simp [intOf];omega
  . have e:k=l.length:=by omega
    subst e;have HFIN:=Hm (all_t l hall);clear hall HH
    go_wp2_with (refine (HA.o _).mono ?_;rintro e w1 ⟨rfl,rfl⟩)
    all_goals
     go_ret
     refine ⟨?_,(Below.refl _ _).alloc (Nat.le_refl _) _⟩
     simp [Qg,HFIN.o,ht]
     try simp_all
theorem sgood_3c (op a b v:Int)(l:List Int)(la:Option Addr)(lc:Nat)(w:World)(hf:Qd (Qb op)=3)(hv:0<=v)(hln:l.length<=1099511627776)(hH:Has w la l)(hb:b=0)(hv0:v=0):Calls Tryz.prog 21 #[inV ⟨op,a,b,v,l⟩ la lc] w λe w'=>e=.returned (.bool (Qg 3 ⟨op,a,b,v,l⟩))/\Below w.heap.size w w':=by
 subst hb hv0;have HF:=Hm (Qr op);rw [hf] at HF;clear hf;have hlz:=Xs l;have HA:=Hm (Xg a);have HH:=Hm (λo=>hH.keep ((Below.refl w.heap.size w).alloc (Nat.le_refl _) o));clear hH;generalize ht:Ji a=ta at *
 go_enter Tryz.func21,Tryz.ntmps21
 go_wp2_with fail
 refine (HF.o _).mono ?_
 rintro e w1 ⟨rfl,rfl⟩
 go_wp2_with fail
 go_loop [6] (λi=>∃ k:Nat,k<=l.length/\i=.int .i64 k/\∀ j,j<k->Ji (l.getD j 0)=true) (λi=>l.length-(intOf i).toNat)
 case atStart=>exact ⟨0,Nat.zero_le _,rfl,λj h=>by omega⟩
 case round =>
  obtain ⟨k,hk,rfl,hall⟩:=hrel
  by_cases hlt:k<l.length
  . have hki:(k:Int)<(l.length:Int):=by omega
    rcases HH.o (.cells #[.int .i64 op,.int .i64 a,.int .i64 0,.int .u64 0,.slice la l.length lc] 26) with hx|⟨b1,o1,ea,hc⟩
    . subst hx;simp at hlt
    have d:=hc k hlt;subst ea;have HK:=Hm (Xg (l.getD k 0));generalize hy:l.getD k 0=y at *;generalize hz:Ji y=z at *
    cases z
    . have hfin:l.all Ji=false:=all_f l k hlt (by rw [hy];exact hz);have HFIN:=Hm hfin;clear hfin hall hc hy hz HH
      go_wp2_with (refine (HK.o _).mono ?_;rintro e w1 ⟨rfl,rfl⟩)
      go_ret
      exact ⟨by simp [Qg,HFIN.o],(Below.refl _ _).alloc (Nat.le_refl _) _⟩
    . have HA2:Hid (∀ j,j<k+1->Ji (l.getD j 0)=true):=λj hj=>by
        rcases (by omega:j<k\/j=k) with h|h
        . exact hall j h
        . subst h;rw [hy];exact hz
      clear hall hc hy hz HH
      go_wp2_with (refine (HK.o _).mono ?_;rintro e w1 ⟨rfl,rfl⟩)
      go_round
      case rel=>exact ⟨k+1,by omega,by go_num,HA2.o⟩
      case measure=>simp [intOf];omega
  . have e:k=l.length:=by omega
    subst e;have HFIN:=Hm (all_t l hall);clear hall HH
    go_wp2_with (refine (HA.o _).mono ?_;rintro e w1 ⟨rfl,rfl⟩)
    all_goals
     go_ret
     refine ⟨?_,(Below.refl _ _).alloc (Nat.le_refl _) _⟩
     simp [Qg,HFIN.o,ht]
     try simp_all
theorem sgood_3 (x:In)(la:Option Addr)(lc:Nat)(w:World)(hf:Qd (Qb x.op)=3)(hv:0<=x.v)(hln:x.l.length<=1099511627776)(hH:Has w la x.l):Calls Tryz.prog 21 #[inV x la lc] w λe w'=>e=.returned (.bool (Qg 3 x))/\Below w.heap.size w w':=by
 obtain ⟨op,a,b,v,l⟩:=x
 by_cases hb:b=0
 . by_cases h0:v=0
   . exact sgood_3c op a b v l la lc w hf hv hln hH hb h0
   . exact sgood_3b op a b v l la lc w hf hv hln hH hb h0
 . exact sgood_3a op a b v l la lc w hf hv hln hH hb
end Go.Proofs.YtipfjdogokanbaaGreatDoor
set_option linter.all false
namespace Go.Proofs.YtipfjdogokanbaaGreatDoor
open Go.RowKit Go.Sort
theorem allAre_c (a:Option Addr)(c:Nat)(l:List Int)(w:World)(hn:l.length<=1099511627776)(hH:Has w a l):Calls Tryz.prog 52 #[.slice a l.length c,.func (.func 51) #[] #[]] w λe w'=>e=.returned (.bool (l.all Ji))/\w=w':=by
 have HH:=Hm hH;clear hH
 go_enter Tryz.func52,Tryz.ntmps52
 go_wp2_with fail
 go_loop [9] (λi=>∃ k:Nat,k<=l.length/\i=.int .i64 k/\∀ j,j<k->Ji (l.getD j 0)=true) (λi=>l.length-(intOf i).toNat)
 case atStart=>exact ⟨0,Nat.zero_le _,rfl,λj h=>by omega⟩
 case round =>
  obtain ⟨k,hk,rfl,hall⟩:=hrel
  by_cases hlt:k<l.length
  . have hki:(k:Int)<(l.length:Int):=by omega
    rcases HH.o with hx|⟨b1,o1,ea,hc⟩
    . subst hx;simp at hlt
    have d:=hc k hlt;subst ea;have HK:=Hm (iu32_c (l.getD k 0));generalize hy:l.getD k 0=y at *;generalize hz:Ji y=z at *
    cases z
    . have HFIN:=Hm (all_f l k hlt (by rw [hy];exact hz));clear hall hc hy hz HH
      go_wp2_with (refine (HK.o _).mono ?_;rintro e w1 ⟨rfl,rfl⟩)
      go_ret
      exact ⟨by rw [HFIN.o];rfl,rfl⟩
    . have HA2:Hid (∀ j,j<k+1->Ji (l.getD j 0)=true):=λj hj=>by
        rcases (by omega:j<k\/j=k) with h|h
        . exact hall j h
        . subst h;rw [hy];exact hz
      clear hall hc hy hz HH
      go_wp2_with (refine (HK.o _).mono ?_;rintro e w1 ⟨rfl,rfl⟩)
      go_round
      case rel=>exact ⟨k+1,by omega,by go_num,HA2.o⟩
      case measure=>simp [intOf];omega
  . have e:k=l.length:=by omega
    subst e;have HFIN:=Hm (all_t l hall);clear hall HH
    go_wp2
    go_ret
    exact ⟨by rw [HFIN.o];rfl,rfl⟩
theorem ibt_c (x:Int)(w:World):Calls Tryz.prog 50 #[.int .i64 x] w λe w'=>e=.returned (.bool (decide (x=64) || tyB x))/\w=w':=by
 have H:=Hm (ity_c x)
 by_cases h:x=64
 . subst h
   go_enter Tryz.func50,Tryz.ntmps50
   go_wp2
   go_ret
   exact ⟨rfl,rfl⟩
 . have f:(x==(64:Int))=false:=by simpa using h
   have HH:=Hm h;clear h
   go_enter Tryz.func50,Tryz.ntmps50
   go_wp2_with (refine (H.o _).mono ?_;rintro e w1 ⟨rfl,rfl⟩)
   go_ret
   exact ⟨by simp [HH.o],rfl⟩
theorem boxes {w w1:World}{c0 c1 c2 c3 c4:Value}(h:Below (((w.alloc (.cells #[c0,c1,c2,c3,c4] 26)).alloc (.cells #[c0,c1,c2,c3,c4] 26)).drew).heap.size (((w.alloc (.cells #[c0,c1,c2,c3,c4] 26)).alloc (.cells #[c0,c1,c2,c3,c4] 26)).drew) w1) :
    C5 w1 w.heap.size 0 c0 c1 c2 c3 c4/\C5 w1 (w.heap.size+1) 0 c0 c1 c2 c3 c4/\Below w.heap.size w w1:=by
 have h':Below ((w.alloc (.cells #[c0,c1,c2,c3,c4] 26)).alloc (.cells #[c0,c1,c2,c3,c4] 26)).heap.size ((w.alloc (.cells #[c0,c1,c2,c3,c4] 26)).alloc (.cells #[c0,c1,c2,c3,c4] 26)) w1:=⟨h.os,h.tape,h.output,h.size,h.block⟩
 refine ⟨(C5.new.past).keep h',?_,up2 h'⟩
 have:=(C5.new (w:=w.alloc (.cells #[c0,c1,c2,c3,c4] 26)) (a:=c0) (b:=c1) (c:=c2) (d:=c3) (e:=c4) (t:=26)).keep h'
 simpa using this
theorem bset {w w1:World}{o:Nat}{v:Value}(h:Below w.heap.size w w1):Below w.heap.size w (w1.setCell ⟨w.heap.size+1,o,none⟩ v):=h.setCell (by show w.heap.size<=w.heap.size+1;omega) _
end Go.Proofs.YtipfjdogokanbaaGreatDoor
set_option linter.all false
namespace Go.Proofs.YtipfjdogokanbaaGreatDoor
open Go.RowKit Go.Sort
abbrev Bs (n:List Bool):List Value:=n.map Value.bool
theorem Qw {w:World}{B e:Nat}{v:Value}{n:Nat}{zs:List Value}(h:w.ownsRow B e 1 v n zs):∃ a c,v=.slice a n c:=by
 rcases h.2 with ⟨e,h0⟩|⟨g,cap,cur,hv,_⟩
 . rw [h0];exact ⟨_,_,e⟩
 . exact ⟨_,_,hv⟩
theorem Qs {w:World}{B e:Nat}{v u:Value}{n b o:Nat}{zs:List Value}(h:w.ownsRow B e 1 v n zs)(hb:v.ownBlock≠some b):(w.setCell ⟨b,o,none⟩ u).ownsRow B e 1 v n zs:=by
 refine ⟨h.1,?_⟩
 rcases h.2 with h0|⟨g',cap',cur,hv,hB,hh,r⟩
 . exact .inl h0
 . subst hv
   exact .inr ⟨g',cap',cur,rfl,hB,(Below.heap_setCell _ _ _ _ (λe=>hb (by simp [Value.ownBlock,e]))).trans hh,r⟩
structure Ne (B g:Nat)(v:Value)(n:List Bool)(w:World):Prop where
 cell:w.cell? ⟨g,0,none⟩=some v
 froz:w.frozen? ⟨g,0,none⟩=false
 own:w.ownsRow B 4 1 v n.length (Bs n)
 ne:v.ownBlock≠some g
 ge:B<=g
 lt:g<w.heap.size
end Go.Proofs.YtipfjdogokanbaaGreatDoor
set_option linter.all false
namespace Go.Proofs.YtipfjdogokanbaaGreatDoor
open Go.RowKit Go.Sort
theorem igood_x (op a b v:Int)(l:List Int)(la:Option Addr)(lc:Nat)(w:World)(kk_:Int)(hk_:kk_=0\/kk_=6\/kk_=8\/kk_=10)(hf:Qd (Qb op)=kk_)(hv:0<=v):Calls Tryz.prog 18 #[inV ⟨op,a,b,v,l⟩ la lc] w λe w'=>e=.returned (.bool (Qg (kk_) ⟨op,a,b,v,l⟩))/\Below w.heap.size w w':=by
 rcases hk_ with rfl|rfl|rfl|rfl
 all_goals
  have hlz:=Xs l;have HF:=Hm (Qu op);rw [hf] at HF;clear hf
  go_enter Tryz.func18,Tryz.ntmps18
  go_wp2_with fail
  go_region
  go_wp2_with fail
  refine (HF.o _).mono ?_
  rintro e w1 ⟨rfl,hb⟩;obtain ⟨⟨⟨c0,c1,c2,c3,c4⟩,cf⟩,⟨⟨d0,d1,d2,d3,d4⟩,df⟩,bel⟩:=boxes hb;clear hb HF
  go_wp2
  all_goals
   go_ret
   refine ⟨?_,by repeat (first|exact bel|refine bset ?_)⟩
   first|(simp_all [Qg,Qq];done)|(simp_all [Qg,Qq];intros;omega)
def igood_0:=λop a b v l la lc w hf hv=>igood_x op a b v l la lc w (0) (.inl rfl) hf hv
def igood_6:=λop a b v l la lc w hf hv=>igood_x op a b v l la lc w (6) (.inr (.inl rfl)) hf hv
def igood_8:=λop a b v l la lc w hf hv=>igood_x op a b v l la lc w (8) (.inr (.inr (.inl rfl))) hf hv
def igood_10:=λop a b v l la lc w hf hv=>igood_x op a b v l la lc w (10) (.inr (.inr (.inr (rfl)))) hf hv
end Go.Proofs.YtipfjdogokanbaaGreatDoor
set_option linter.all false
namespace Go.Proofs.YtipfjdogokanbaaGreatDoor
open Go.RowKit Go.Sort
theorem igood_1 (op a b v:Int)(l:List Int)(la:Option Addr)(lc:Nat)(w:World)(hf:Qd (Qb op)=1)(hv:0<=v):Calls Tryz.prog 18 #[inV ⟨op,a,b,v,l⟩ la lc] w λe w'=>e=.returned (.bool (Qg (1) ⟨op,a,b,v,l⟩))/\Below w.heap.size w w':=by
 have hlz:=Xs l;have HF:=Hm (Qu op);rw [hf] at HF;clear hf
 go_enter Tryz.func18,Tryz.ntmps18
 go_wp2_with fail
 go_region
 go_wp2_with fail
 refine (HF.o _).mono ?_
 rintro e w1 ⟨rfl,hb⟩;obtain ⟨⟨⟨c0,c1,c2,c3,c4⟩,cf⟩,⟨⟨d0,d1,d2,d3,d4⟩,df⟩,bel⟩:=boxes hb;clear hb HF
 go_wp2_with (go_at_call 50;refine (ibt_c _ _).mono ?_;rintro e w2 ⟨rfl,rfl⟩)
 all_goals
  go_ret
  refine ⟨?_,by repeat (first|exact bel|refine bset ?_)⟩
  first|(simp_all [Qg,Qq];done)|(simp_all [Qg,Qq];intros;omega)
theorem igood_2 (op a b v:Int)(l:List Int)(la:Option Addr)(lc:Nat)(w:World)(hf:Qd (Qb op)=2)(hv:0<=v):Calls Tryz.prog 18 #[inV ⟨op,a,b,v,l⟩ la lc] w λe w'=>e=.returned (.bool (Qg (2) ⟨op,a,b,v,l⟩))/\Below w.heap.size w w':=by
 have hlz:=Xs l;have HF:=Hm (Qu op);rw [hf] at HF;clear hf
 go_enter Tryz.func18,Tryz.ntmps18
 go_wp2_with fail
 go_region
 go_wp2_with fail
 refine (HF.o _).mono ?_
 rintro e w1 ⟨rfl,hb⟩;obtain ⟨⟨⟨c0,c1,c2,c3,c4⟩,cf⟩,⟨⟨d0,d1,d2,d3,d4⟩,df⟩,bel⟩:=boxes hb;clear hb HF
 go_wp2_with (go_at_call 51;refine (iu32_c _ _).mono ?_;rintro e w2 ⟨rfl,rfl⟩)
 all_goals
  go_ret
  refine ⟨?_,by repeat (first|exact bel|refine bset ?_)⟩
  first|(simp_all [Qg,Qq];done)|(simp_all [Qg,Qq];intros;omega)
theorem igood_4 (op a b v:Int)(l:List Int)(la:Option Addr)(lc:Nat)(w:World)(hf:Qd (Qb op)=4)(hv:0<=v):Calls Tryz.prog 18 #[inV ⟨op,a,b,v,l⟩ la lc] w λe w'=>e=.returned (.bool (Qg (4) ⟨op,a,b,v,l⟩))/\Below w.heap.size w w':=by
 have hlz:=Xs l;have HF:=Hm (Qu op);rw [hf] at HF;clear hf
 go_enter Tryz.func18,Tryz.ntmps18
 go_wp2_with fail
 go_region
 go_wp2_with fail
 refine (HF.o _).mono ?_
 rintro e w1 ⟨rfl,hb⟩;obtain ⟨⟨⟨c0,c1,c2,c3,c4⟩,cf⟩,⟨⟨d0,d1,d2,d3,d4⟩,df⟩,bel⟩:=boxes hb;clear hb HF
 go_wp2_with (go_at_call 51;refine (iu32_c _ _).mono ?_;rintro e w2 ⟨rfl,rfl⟩)
 all_goals
  go_ret
  refine ⟨?_,by repeat (first|exact bel|refine bset ?_)⟩
  first|(simp_all [Qg,Qq];done)|(simp_all [Qg,Qq];intros;omega)
theorem igood_m1 (op a b v:Int)(l:List Int)(la:Option Addr)(lc:Nat)(w:World)(hf:Qd (Qb op)=-1)(hv:0<=v):Calls Tryz.prog 18 #[inV ⟨op,a,b,v,l⟩ la lc] w λe w'=>e=.returned (.bool (Qg (-1) ⟨op,a,b,v,l⟩))/\Below w.heap.size w w':=by
 have HF:=Hm (Qu op);rw [hf] at HF;clear hf
 go_enter Tryz.func18,Tryz.ntmps18
 go_wp2_with fail
 go_region
 go_wp2_with fail
 refine (HF.o _).mono ?_
 rintro e w1 ⟨rfl,hb⟩;obtain ⟨⟨⟨c0,c1,c2,c3,c4⟩,cf⟩,⟨⟨d0,d1,d2,d3,d4⟩,df⟩,bel⟩:=boxes hb;clear hb HF
 go_wp2
 all_goals
  go_ret
  refine ⟨?_,by repeat (first|exact bel|refine bset ?_)⟩
  first|(simp_all [Qg,Qq];done)|(simp_all [Qg,Qq];intros;omega)
end Go.Proofs.YtipfjdogokanbaaGreatDoor
set_option linter.all false
namespace Go.Proofs.YtipfjdogokanbaaGreatDoor
open Go.RowKit Go.Sort
theorem igood_5 (op a b v:Int)(l:List Int)(la:Option Addr)(lc:Nat)(w:World)(hf:Qd (Qb op)=5)(hv:0<=v):Calls Tryz.prog 18 #[inV ⟨op,a,b,v,l⟩ la lc] w λe w'=>e=.returned (.bool (Qg (5) ⟨op,a,b,v,l⟩))/\Below w.heap.size w w':=by
 have hlz:=Xs l;have HF:=Hm (Qu op);rw [hf] at HF;clear hf
 go_enter Tryz.func18,Tryz.ntmps18
 go_wp2_with fail
 go_region
 go_wp2_with fail
 refine (HF.o _).mono ?_
 rintro e w1 ⟨rfl,hb⟩;obtain ⟨⟨⟨c0,c1,c2,c3,c4⟩,cf⟩,⟨⟨d0,d1,d2,d3,d4⟩,df⟩,bel⟩:=boxes hb;clear hb HF
 go_wp2_with (go_at_call 51;refine (iu32_c _ _).mono ?_;rintro e w2 ⟨rfl,rfl⟩)
 all_goals
  go_ret
  refine ⟨?_,by repeat (first|exact bel|refine bset ?_)⟩
  first|(simp_all [Qg,Qq];done)|(simp_all [Qg,Qq];intros;omega)
theorem igood_7 (op a b v:Int)(l:List Int)(la:Option Addr)(lc:Nat)(w:World)(hf:Qd (Qb op)=7)(hv:0<=v):Calls Tryz.prog 18 #[inV ⟨op,a,b,v,l⟩ la lc] w λe w'=>e=.returned (.bool (Qg (7) ⟨op,a,b,v,l⟩))/\Below w.heap.size w w':=by
 have hlz:=Xs l;have HF:=Hm (Qu op);rw [hf] at HF;clear hf
 go_enter Tryz.func18,Tryz.ntmps18
 go_wp2_with fail
 go_region
 go_wp2_with fail
 refine (HF.o _).mono ?_
 rintro e w1 ⟨rfl,hb⟩;obtain ⟨⟨⟨c0,c1,c2,c3,c4⟩,cf⟩,⟨⟨d0,d1,d2,d3,d4⟩,df⟩,bel⟩:=boxes hb;clear hb HF
 go_wp2
 all_goals
  go_ret
  refine ⟨?_,by repeat (first|exact bel|refine bset ?_)⟩
  first|(simp_all [Qg,Qq];done)|(simp_all [Qg,Qq];intros;omega)
theorem igood_9 (op a b v:Int)(l:List Int)(la:Option Addr)(lc:Nat)(w:World)(hf:Qd (Qb op)=9)(hv:0<=v):Calls Tryz.prog 18 #[inV ⟨op,a,b,v,l⟩ la lc] w λe w'=>e=.returned (.bool (Qg (9) ⟨op,a,b,v,l⟩))/\Below w.heap.size w w':=by
 have hlz:=Xs l;have HF:=Hm (Qu op);rw [hf] at HF;clear hf
 go_enter Tryz.func18,Tryz.ntmps18
 go_wp2_with fail
 go_region
 go_wp2_with fail
 refine (HF.o _).mono ?_
 rintro e w1 ⟨rfl,hb⟩;obtain ⟨⟨⟨c0,c1,c2,c3,c4⟩,cf⟩,⟨⟨d0,d1,d2,d3,d4⟩,df⟩,bel⟩:=boxes hb;clear hb HF
 go_wp2
 all_goals
  go_ret
  refine ⟨?_,by repeat (first|exact bel|refine bset ?_)⟩
  first|(simp_all [Qg,Qq];done)|(simp_all [Qg,Qq];intros;omega)
end Go.Proofs.YtipfjdogokanbaaGreatDoor
set_option linter.all false
namespace Go.Proofs.YtipfjdogokanbaaGreatDoor
open Go.RowKit Go.Sort
theorem igood_3 (op a b v:Int)(l:List Int)(la:Option Addr)(lc:Nat)(w:World)(hf:Qd (Qb op)=3)(hv:0<=v)(hln:l.length<=1099511627776)(hH:Has w la l):Calls Tryz.prog 18 #[inV ⟨op,a,b,v,l⟩ la lc] w λe w'=>e=.returned (.bool (Qg (3) ⟨op,a,b,v,l⟩))/\Below w.heap.size w w':=by
 have HF:=Hm (Qu op);rw [hf] at HF;clear hf
 go_enter Tryz.func18,Tryz.ntmps18
 go_wp2_with fail
 go_region
 go_wp2_with fail
 refine (HF.o _).mono ?_
 rintro e w1 ⟨rfl,hb⟩;obtain ⟨⟨⟨c0,c1,c2,c3,c4⟩,cf⟩,⟨⟨d0,d1,d2,d3,d4⟩,df⟩,bel⟩:=boxes hb;clear hb HF;have HL:=Hm (allAre_c la lc l w1 hln (hH.keep bel));generalize hal:l.all Ji=al at HL;have HAL:=Hm hal;clear hH hal
 go_wp2_with (first|(go_at_call 51;refine (iu32_c _ _).mono ?_;rintro e w2 ⟨rfl,rfl⟩)|(go_at_call 52;refine (HL.o).mono ?_;rintro e w2 ⟨rfl,rfl⟩))
 all_goals
  go_ret
  refine ⟨?_,by repeat (first|exact bel|refine bset ?_)⟩
  simp [Qg,HAL.o]
  try simp_all
end Go.Proofs.YtipfjdogokanbaaGreatDoor
set_option linter.all false
namespace Go.Proofs.YtipfjdogokanbaaGreatDoor
open Go.RowKit Go.Sort
def gd (x:In):Bool:=Qg (Qd (Qb x.op)) x
theorem QA (op:Int):Qd (Qb op)=-1\/Qd (Qb op)=0\/Qd (Qb op)=1\/Qd (Qb op)=2\/Qd (Qb op)=3\/Qd (Qb op)=4\/Qd (Qb op)=5\/Qd (Qb op)=6\/Qd (Qb op)=7\/Qd (Qb op)=8\/Qd (Qb op)=9\/Qd (Qb op)=10:=by
 by_cases h:0<=op/\op<192
 . have e:=of_decide_eq_true (rng 0 192 (λi=>decide (-1<=Qd (tbl.getD i Z0)/\Qd (tbl.getD i Z0)<=10)) (by decide +kernel) op (by omega) (by omega));have er:Qb op=tbl.getD op.toNat Z0:=by simp only [Qb,h,and_self,if_true]
   rw [<- er] at e
   omega
 . have er:Qb op=Z0:=by simp only [Qb,h,if_false]
   rw [er];left;decide
theorem isIns_c (x:In)(la:Option Addr)(lc:Nat)(w:World)(hv:0<=x.v)(hln:x.l.length<=1099511627776)(hH:Has w la x.l):Calls Tryz.prog 18 #[inV x la lc] w λe w'=>e=.returned (.bool (gd x))/\Below w.heap.size w w':=by
 obtain ⟨op,a,b,v,l⟩:=x
 rcases QA op with h|h|h|h|h|h|h|h|h|h|h|h
 . have:=igood_m1 op a b v l la lc w h hv;simp only [gd,h];exact this
 . have:=igood_0 op a b v l la lc w h hv;simp only [gd,h];exact this
 . have:=igood_1 op a b v l la lc w h hv;simp only [gd,h];exact this
 . have:=igood_2 op a b v l la lc w h hv;simp only [gd,h];exact this
 . have:=igood_3 op a b v l la lc w h hv hln hH;simp only [gd,h];exact this
 . have:=igood_4 op a b v l la lc w h hv;simp only [gd,h];exact this
 . have:=igood_5 op a b v l la lc w h hv;simp only [gd,h];exact this
 . have:=igood_6 op a b v l la lc w h hv;simp only [gd,h];exact this
 . have:=igood_7 op a b v l la lc w h hv;simp only [gd,h];exact this
 . have:=igood_8 op a b v l la lc w h hv;simp only [gd,h];exact this
 . have:=igood_9 op a b v l la lc w h hv;simp only [gd,h];exact this
 . have:=igood_10 op a b v l la lc w h hv;simp only [gd,h];exact this
end Go.Proofs.YtipfjdogokanbaaGreatDoor
set_option linter.all false
namespace Go.Proofs.YtipfjdogokanbaaGreatDoor
open Go.RowKit Go.Sort
theorem sgood_0 (x:In)(la:Option Addr)(lc:Nat)(w:World)(hf:Qd (Qb x.op)=0)(hv:0<=x.v):Calls Tryz.prog 21 #[inV x la lc] w λe w'=>e=.returned (.bool (Qg (0) x))/\Below w.heap.size w w':=by
 obtain ⟨op,a,b,v,l⟩:=x
 simp only at hf hv
 have HF:=Hm (Qr op);rw [hf] at HF;clear hf;have hlz:=Xs l
 go_enter Tryz.func21,Tryz.ntmps21
 go_wp2_with fail
 refine (HF.o _).mono ?_
 rintro e w1 ⟨rfl,rfl⟩
 go_wp2
 all_goals
  go_ret
  refine ⟨?_,(Below.refl _ _).alloc (Nat.le_refl _) _⟩
  first|(simp_all [Qg,Qq];done)|(simp_all [Qg,Qq];intros;omega)
theorem sgood_6 (x:In)(la:Option Addr)(lc:Nat)(w:World)(hf:Qd (Qb x.op)=6)(hv:0<=x.v):Calls Tryz.prog 21 #[inV x la lc] w λe w'=>e=.returned (.bool (Qg (6) x))/\Below w.heap.size w w':=by
 obtain ⟨op,a,b,v,l⟩:=x
 simp only at hf hv
 have HF:=Hm (Qr op);rw [hf] at HF;clear hf;have hlz:=Xs l
 go_enter Tryz.func21,Tryz.ntmps21
 go_wp2_with fail
 refine (HF.o _).mono ?_
 rintro e w1 ⟨rfl,rfl⟩
 go_wp2
 all_goals
  go_ret
  refine ⟨?_,(Below.refl _ _).alloc (Nat.le_refl _) _⟩
  first|(simp_all [Qg,Qq];done)|(simp_all [Qg,Qq];intros;omega)
theorem sgood_1 (x:In)(la:Option Addr)(lc:Nat)(w:World)(hf:Qd (Qb x.op)=1)(hv:0<=x.v):Calls Tryz.prog 21 #[inV x la lc] w λe w'=>e=.returned (.bool (Qg (1) x))/\Below w.heap.size w w':=by
 obtain ⟨op,a,b,v,l⟩:=x
 simp only at hf hv
 have HF:=Hm (Qr op);rw [hf] at HF;clear hf;have hlz:=Xs l;have HU:=Hm (ty_c a);generalize ht:tyB a=ta at *
 go_enter Tryz.func21,Tryz.ntmps21
 go_wp2_with fail
 refine (HF.o _).mono ?_
 rintro e w1 ⟨rfl,rfl⟩
 go_wp2_with (go_at_call 61;refine (HU.o _).mono ?_;rintro e w1 ⟨rfl,rfl⟩)
 all_goals
  go_ret
  refine ⟨?_,(Below.refl _ _).alloc (Nat.le_refl _) _⟩
  first|(simp_all [Qg,Qq];done)|(simp_all [Qg,Qq];intros;omega)
theorem sgood_2 (x:In)(la:Option Addr)(lc:Nat)(w:World)(hf:Qd (Qb x.op)=2)(hv:0<=x.v):Calls Tryz.prog 21 #[inV x la lc] w λe w'=>e=.returned (.bool (Qg (2) x))/\Below w.heap.size w w':=by
 obtain ⟨op,a,b,v,l⟩:=x
 simp only at hf hv
 have HF:=Hm (Qr op);rw [hf] at HF;clear hf;have hlz:=Xs l;have HU:=Hm (Xg a);generalize ht:Ji a=ta at *
 go_enter Tryz.func21,Tryz.ntmps21
 go_wp2_with fail
 refine (HF.o _).mono ?_
 rintro e w1 ⟨rfl,rfl⟩
 go_wp2_with (go_at_call 62;refine (HU.o _).mono ?_;rintro e w1 ⟨rfl,rfl⟩)
 all_goals
  go_ret
  refine ⟨?_,(Below.refl _ _).alloc (Nat.le_refl _) _⟩
  first|(simp_all [Qg,Qq];done)|(simp_all [Qg,Qq];intros;omega)
end Go.Proofs.YtipfjdogokanbaaGreatDoor
set_option linter.all false
namespace Go.Proofs.YtipfjdogokanbaaGreatDoor
open Go.RowKit Go.Sort
theorem sgood_4 (x:In)(la:Option Addr)(lc:Nat)(w:World)(hf:Qd (Qb x.op)=4)(hv:0<=x.v):Calls Tryz.prog 21 #[inV x la lc] w λe w'=>e=.returned (.bool (Qg (4) x))/\Below w.heap.size w w':=by
 obtain ⟨op,a,b,v,l⟩:=x
 simp only at hf hv
 have HF:=Hm (Qr op);rw [hf] at HF;clear hf;have hlz:=Xs l;have HU:=Hm (Xg a);generalize ht:Ji a=ta at *
 go_enter Tryz.func21,Tryz.ntmps21
 go_wp2_with fail
 refine (HF.o _).mono ?_
 rintro e w1 ⟨rfl,rfl⟩
 go_wp2_with (go_at_call 62;refine (HU.o _).mono ?_;rintro e w1 ⟨rfl,rfl⟩)
 all_goals
  go_ret
  refine ⟨?_,(Below.refl _ _).alloc (Nat.le_refl _) _⟩
  first|(simp_all [Qg,Qq];done)|(simp_all [Qg,Qq];intros;omega)
theorem sgood_5 (x:In)(la:Option Addr)(lc:Nat)(w:World)(hf:Qd (Qb x.op)=5)(hv:0<=x.v):Calls Tryz.prog 21 #[inV x la lc] w λe w'=>e=.returned (.bool (Qg (5) x))/\Below w.heap.size w w':=by
 obtain ⟨op,a,b,v,l⟩:=x
 simp only at hf hv
 have HF:=Hm (Qr op);rw [hf] at HF;clear hf;have hlz:=Xs l;have HU:=Hm (Xg a);generalize ht:Ji a=ta at *
 cases ta
 . go_enter Tryz.func21,Tryz.ntmps21
   go_wp2_with fail
   refine (HF.o _).mono ?_
   rintro e w1 ⟨rfl,rfl⟩
   go_wp2_with (refine (HU.o _).mono ?_;rintro e w1 ⟨rfl,rfl⟩)
   all_goals
    go_ret
    refine ⟨?_,(Below.refl _ _).alloc (Nat.le_refl _) _⟩
    first|(simp_all [Qg,Qq];done)|(simp_all [Qg,Qq];intros;omega)
 . go_enter Tryz.func21,Tryz.ntmps21
   go_wp2_with fail
   refine (HF.o _).mono ?_
   rintro e w1 ⟨rfl,rfl⟩
   go_wp2_with (first|(refine (HU.o _).mono ?_;rintro e w1 ⟨rfl,rfl⟩)|(refine (Xg _ _).mono ?_;rintro e w1 ⟨rfl,rfl⟩))
   all_goals
    go_ret
    refine ⟨?_,(Below.refl _ _).alloc (Nat.le_refl _) _⟩
    first|(simp_all [Qg,Qq];done)|(simp_all [Qg,Qq];intros;omega)
theorem sgood_x (x:In)(la:Option Addr)(lc:Nat)(w:World)(kk_:Int)(hk_:kk_=7\/kk_=9\/kk_=8\/kk_=10)(hf:Qd (Qb x.op)=kk_)(hv:0<=x.v):Calls Tryz.prog 21 #[inV x la lc] w λe w'=>e=.returned (.bool (Qg (kk_) x))/\Below w.heap.size w w':=by
 rcases hk_ with rfl|rfl|rfl|rfl
 all_goals
  obtain ⟨op,a,b,v,l⟩:=x
  simp only at hf hv
  have HF:=Hm (Qr op);rw [hf] at HF;clear hf;have hlz:=Xs l
  go_enter Tryz.func21,Tryz.ntmps21
  go_wp2_with fail
  refine (HF.o _).mono ?_
  rintro e w1 ⟨rfl,rfl⟩
  go_wp2
  all_goals
   go_ret
   refine ⟨?_,(Below.refl _ _).alloc (Nat.le_refl _) _⟩
   first|(simp_all [Qg,Qq];done)|(simp_all [Qg,Qq];intros;omega)
def sgood_7:=λx la lc w hf hv=>sgood_x x la lc w (7) (.inl rfl) hf hv
def sgood_9:=λx la lc w hf hv=>sgood_x x la lc w (9) (.inr (.inl rfl)) hf hv
def sgood_8:=λx la lc w hf hv=>sgood_x x la lc w (8) (.inr (.inr (.inl rfl))) hf hv
def sgood_10:=λx la lc w hf hv=>sgood_x x la lc w (10) (.inr (.inr (.inr (rfl)))) hf hv
theorem sgood_m1 (x:In)(la:Option Addr)(lc:Nat)(w:World)(hf:Qd (Qb x.op)=-1)(hv:0<=x.v):Calls Tryz.prog 21 #[inV x la lc] w λe w'=>e=.returned (.bool (Qg (-1) x))/\Below w.heap.size w w':=by
 obtain ⟨op,a,b,v,l⟩:=x
 simp only at hf hv
 have HF:=Hm (Qr op);rw [hf] at HF;clear hf;have hlz:=Xs l
 go_enter Tryz.func21,Tryz.ntmps21
 go_wp2_with fail
 refine (HF.o _).mono ?_
 rintro e w1 ⟨rfl,rfl⟩
 go_wp2
 all_goals
  go_ret
  refine ⟨?_,(Below.refl _ _).alloc (Nat.le_refl _) _⟩
  first|(simp_all [Qg,Qq];done)|(simp_all [Qg,Qq];intros;omega)
end Go.Proofs.YtipfjdogokanbaaGreatDoor
