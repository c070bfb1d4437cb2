import Derived.Test.YtdbmolambolmgaaGreatGg
set_option linter.all false
set_option maxHeartbeats 16000000
set_option maxRecDepth 100000
namespace Go.Proofs.YtdbmolambolmgaaGreat
open Go.RowKit Go.Sort
set_option maxRecDepth 100000
theorem sgood_0 (x:In) (la:Option Addr) (lc:Nat) (w:World) (hf:formR (rowOf x.op)=0) (hv:0≤x.v):Calls Tryz.prog 112 #[inV x la lc] w fun e w'=>e=.returned (.bool (goodF (0) x))∧Below w.heap.size w w':=by
 obtain ⟨op,a,b,v,l⟩:=x
 simp only at hf hv
 have HF:=Hm (sform_c op)
 rw [hf] at HF
 clear hf
 have hlz:=len0 l
 go_enter Tryz.func112,Tryz.ntmps112
 go_wp2_with fail
 refine (HF.out _).mono ?_
 rintro e w1 ⟨rfl,rfl⟩
 go_wp2
 all_goals
  go_ret
  refine ⟨?_,(Below.refl _ _).alloc (Nat.le_refl _) _⟩
  first | (simp_all [goodF,u32B_zero];done) | (simp_all [goodF,u32B_zero];intros;omega)
theorem sgood_6 (x:In) (la:Option Addr) (lc:Nat) (w:World) (hf:formR (rowOf x.op)=6) (hv:0≤x.v):Calls Tryz.prog 112 #[inV x la lc] w fun e w'=>e=.returned (.bool (goodF (6) x))∧Below w.heap.size w w':=by
 obtain ⟨op,a,b,v,l⟩:=x
 simp only at hf hv
 have HF:=Hm (sform_c op)
 rw [hf] at HF
 clear hf
 have hlz:=len0 l
 go_enter Tryz.func112,Tryz.ntmps112
 go_wp2_with fail
 refine (HF.out _).mono ?_
 rintro e w1 ⟨rfl,rfl⟩
 go_wp2
 all_goals
  go_ret
  refine ⟨?_,(Below.refl _ _).alloc (Nat.le_refl _) _⟩
  first | (simp_all [goodF,u32B_zero];done) | (simp_all [goodF,u32B_zero];intros;omega)
theorem sgood_1 (x:In) (la:Option Addr) (lc:Nat) (w:World) (hf:formR (rowOf x.op)=1) (hv:0≤x.v):Calls Tryz.prog 112 #[inV x la lc] w fun e w'=>e=.returned (.bool (goodF (1) x))∧Below w.heap.size w w':=by
 obtain ⟨op,a,b,v,l⟩:=x
 simp only at hf hv
 have HF:=Hm (sform_c op)
 rw [hf] at HF
 clear hf
 have hlz:=len0 l
 have HU:=Hm (ty_c a)
 generalize ht:tyB a=ta at *
 go_enter Tryz.func112,Tryz.ntmps112
 go_wp2_with fail
 refine (HF.out _).mono ?_
 rintro e w1 ⟨rfl,rfl⟩
 go_wp2_with (go_at_call 111;refine (HU.out _).mono ?_;rintro e w1 ⟨rfl,rfl⟩)
 all_goals
  go_ret
  refine ⟨?_,(Below.refl _ _).alloc (Nat.le_refl _) _⟩
  first | (simp_all [goodF,u32B_zero];done) | (simp_all [goodF,u32B_zero];intros;omega)
theorem sgood_2 (x:In) (la:Option Addr) (lc:Nat) (w:World) (hf:formR (rowOf x.op)=2) (hv:0≤x.v):Calls Tryz.prog 112 #[inV x la lc] w fun e w'=>e=.returned (.bool (goodF (2) x))∧Below w.heap.size w w':=by
 obtain ⟨op,a,b,v,l⟩:=x
 simp only at hf hv
 have HF:=Hm (sform_c op)
 rw [hf] at HF
 clear hf
 have hlz:=len0 l
 have HU:=Hm (u32_c a)
 generalize ht:u32B a=ta at *
 go_enter Tryz.func112,Tryz.ntmps112
 go_wp2_with fail
 refine (HF.out _).mono ?_
 rintro e w1 ⟨rfl,rfl⟩
 go_wp2_with (go_at_call 31;refine (HU.out _).mono ?_;rintro e w1 ⟨rfl,rfl⟩)
 all_goals
  go_ret
  refine ⟨?_,(Below.refl _ _).alloc (Nat.le_refl _) _⟩
  first | (simp_all [goodF,u32B_zero];done) | (simp_all [goodF,u32B_zero];intros;omega)
open Go.RowKit Go.Sort
theorem sgood_4 (x:In) (la:Option Addr) (lc:Nat) (w:World) (hf:formR (rowOf x.op)=4) (hv:0≤x.v):Calls Tryz.prog 112 #[inV x la lc] w fun e w'=>e=.returned (.bool (goodF (4) x))∧Below w.heap.size w w':=by
 obtain ⟨op,a,b,v,l⟩:=x
 simp only at hf hv
 have HF:=Hm (sform_c op)
 rw [hf] at HF
 clear hf
 have hlz:=len0 l
 have HU:=Hm (u32_c a)
 generalize ht:u32B a=ta at *
 go_enter Tryz.func112,Tryz.ntmps112
 go_wp2_with fail
 refine (HF.out _).mono ?_
 rintro e w1 ⟨rfl,rfl⟩
 go_wp2_with (go_at_call 31;refine (HU.out _).mono ?_;rintro e w1 ⟨rfl,rfl⟩)
 all_goals
  go_ret
  refine ⟨?_,(Below.refl _ _).alloc (Nat.le_refl _) _⟩
  first | (simp_all [goodF,u32B_zero];done) | (simp_all [goodF,u32B_zero];intros;omega)
theorem sgood_5 (x:In) (la:Option Addr) (lc:Nat) (w:World) (hf:formR (rowOf x.op)=5) (hv:0≤x.v):Calls Tryz.prog 112 #[inV x la lc] w fun e w'=>e=.returned (.bool (goodF (5) x))∧Below w.heap.size w w':=by
 obtain ⟨op,a,b,v,l⟩:=x
 simp only at hf hv
 have HF:=Hm (sform_c op)
 rw [hf] at HF
 clear hf
 have hlz:=len0 l
 have HU:=Hm (u32_c a)
 generalize ht:u32B a=ta at *
 cases ta
 · go_enter Tryz.func112,Tryz.ntmps112
   go_wp2_with fail
   refine (HF.out _).mono ?_
   rintro e w1 ⟨rfl,rfl⟩
   go_wp2_with (refine (HU.out _).mono ?_;rintro e w1 ⟨rfl,rfl⟩)
   all_goals
    go_ret
    refine ⟨?_,(Below.refl _ _).alloc (Nat.le_refl _) _⟩
    first | (simp_all [goodF,u32B_zero];done) | (simp_all [goodF,u32B_zero];intros;omega)
 · go_enter Tryz.func112,Tryz.ntmps112
   go_wp2_with fail
   refine (HF.out _).mono ?_
   rintro e w1 ⟨rfl,rfl⟩
   go_wp2_with (first | (refine (HU.out _).mono ?_;rintro e w1 ⟨rfl,rfl⟩) | (refine (u32_c _ _).mono ?_;rintro e w1 ⟨rfl,rfl⟩))
   all_goals
    go_ret
    refine ⟨?_,(Below.refl _ _).alloc (Nat.le_refl _) _⟩
    first | (simp_all [goodF,u32B_zero];done) | (simp_all [goodF,u32B_zero];intros;omega)
theorem sgood_7 (x:In) (la:Option Addr) (lc:Nat) (w:World) (hf:formR (rowOf x.op)=7) (hv:0≤x.v):Calls Tryz.prog 112 #[inV x la lc] w fun e w'=>e=.returned (.bool (goodF (7) x))∧Below w.heap.size w w':=by
 obtain ⟨op,a,b,v,l⟩:=x
 simp only at hf hv
 have HF:=Hm (sform_c op)
 rw [hf] at HF
 clear hf
 have hlz:=len0 l
 go_enter Tryz.func112,Tryz.ntmps112
 go_wp2_with fail
 refine (HF.out _).mono ?_
 rintro e w1 ⟨rfl,rfl⟩
 go_wp2
 all_goals
  go_ret
  refine ⟨?_,(Below.refl _ _).alloc (Nat.le_refl _) _⟩
  first | (simp_all [goodF,u32B_zero];done) | (simp_all [goodF,u32B_zero];intros;omega)
theorem sgood_9 (x:In) (la:Option Addr) (lc:Nat) (w:World) (hf:formR (rowOf x.op)=9) (hv:0≤x.v):Calls Tryz.prog 112 #[inV x la lc] w fun e w'=>e=.returned (.bool (goodF (9) x))∧Below w.heap.size w w':=by
 obtain ⟨op,a,b,v,l⟩:=x
 simp only at hf hv
 have HF:=Hm (sform_c op)
 rw [hf] at HF
 clear hf
 have hlz:=len0 l
 go_enter Tryz.func112,Tryz.ntmps112
 go_wp2_with fail
 refine (HF.out _).mono ?_
 rintro e w1 ⟨rfl,rfl⟩
 go_wp2
 all_goals
  go_ret
  refine ⟨?_,(Below.refl _ _).alloc (Nat.le_refl _) _⟩
  first | (simp_all [goodF,u32B_zero];done) | (simp_all [goodF,u32B_zero];intros;omega)
theorem sgood_8 (x:In) (la:Option Addr) (lc:Nat) (w:World) (hf:formR (rowOf x.op)=8) (hv:0≤x.v):Calls Tryz.prog 112 #[inV x la lc] w fun e w'=>e=.returned (.bool (goodF (8) x))∧Below w.heap.size w w':=by
 obtain ⟨op,a,b,v,l⟩:=x
 simp only at hf hv
 have HF:=Hm (sform_c op)
 rw [hf] at HF
 clear hf
 have hlz:=len0 l
 go_enter Tryz.func112,Tryz.ntmps112
 go_wp2_with fail
 refine (HF.out _).mono ?_
 rintro e w1 ⟨rfl,rfl⟩
 go_wp2
 all_goals
  go_ret
  refine ⟨?_,(Below.refl _ _).alloc (Nat.le_refl _) _⟩
  first | (simp_all [goodF,u32B_zero];done) | (simp_all [goodF,u32B_zero];intros;omega)
theorem sgood_10 (x:In) (la:Option Addr) (lc:Nat) (w:World) (hf:formR (rowOf x.op)=10) (hv:0≤x.v):Calls Tryz.prog 112 #[inV x la lc] w fun e w'=>e=.returned (.bool (goodF (10) x))∧Below w.heap.size w w':=by
 obtain ⟨op,a,b,v,l⟩:=x
 simp only at hf hv
 have HF:=Hm (sform_c op)
 rw [hf] at HF
 clear hf
 have hlz:=len0 l
 go_enter Tryz.func112,Tryz.ntmps112
 go_wp2_with fail
 refine (HF.out _).mono ?_
 rintro e w1 ⟨rfl,rfl⟩
 go_wp2
 all_goals
  go_ret
  refine ⟨?_,(Below.refl _ _).alloc (Nat.le_refl _) _⟩
  first | (simp_all [goodF,u32B_zero];done) | (simp_all [goodF,u32B_zero];intros;omega)
theorem sgood_m1 (x:In) (la:Option Addr) (lc:Nat) (w:World) (hf:formR (rowOf x.op)=-1) (hv:0≤x.v):Calls Tryz.prog 112 #[inV x la lc] w fun e w'=>e=.returned (.bool (goodF (-1) x))∧Below w.heap.size w w':=by
 obtain ⟨op,a,b,v,l⟩:=x
 simp only at hf hv
 have HF:=Hm (sform_c op)
 rw [hf] at HF
 clear hf
 have hlz:=len0 l
 go_enter Tryz.func112,Tryz.ntmps112
 go_wp2_with fail
 refine (HF.out _).mono ?_
 rintro e w1 ⟨rfl,rfl⟩
 go_wp2
 all_goals
  go_ret
  refine ⟨?_,(Below.refl _ _).alloc (Nat.le_refl _) _⟩
  first | (simp_all [goodF,u32B_zero];done) | (simp_all [goodF,u32B_zero];intros;omega)
end Go.Proofs.YtdbmolambolmgaaGreat
