import Derived.Test.YtjiaainhieeepaaDoorClo
set_option linter.unusedVariables false
namespace Go.Proofs.YtjiaainhieeepaaDoor
open Go.RowKit
def tCmp64 : List Value := (((((((((((List.replicate 80 Value.nilFunc).set 70 (.func (.func 85) #[] #[])).set 71 (.func (.func 86) #[] #[])).set 72 (.func (.func 87) #[] #[])).set 73 (.func (.func 88) #[] #[])).set 74 (.func (.func 89) #[] #[])).set 75 (.func (.func 90) #[] #[])).set 76 (.func (.func 91) #[] #[])).set 77 (.func (.func 92) #[] #[])).set 78 (.func (.func 93) #[] #[])).set 79 (.func (.func 94) #[] #[]))
set_option maxHeartbeats 1000000 in
theorem cmp64_found (p F : Nat) (a b : Int) (r : Bool) (w : World) (hp : p < 80) (hT : tCmp64[p]? = some (.func (.func F) #[] #[])) (hE : ∀ xs w, (callFunc F xs).run Tryd.prog w = .ok (.enter F xs) w)
    (hF : ∀ w, Calls Tryd.prog F #[.int .u64 a, .int .u64 b] w fun e w' => e = .returned (.bool r) ∧ w = w') :
    Calls Tryd.prog 59 #[.int .i64 p, .int .u64 a, .int .u64 b] w fun e w' => e = .returned (RV true 0 (fl r)) ∧ Below w.heap.size w w' := by
  have HF := Hid.mk' hF
  clear hF
  have hq := fun f c1 c2 w => eqF1 (P := Tryd.prog) Tryd.underlying78 f c1 c2 w
  have hp' : (p : Int) < 80 := by omega
  go_enter Tryd.func59, Tryd.ntmps59
  go_wp2_with fail
  rw [storeNew tCmp64]
  case hv => rfl
  case hg => simp
  case hl => rfl
  case h1 => rfl
  simp only [Result.andThen_ok]
  go_wp2_with fail
  refine (HF.out _).mono ?_
  rintro e w1 ⟨rfl, rfl⟩
  go_wp2_with fail
  refine (flag64_any _ _).mono ?_
  rintro e w2 ⟨rfl, rfl⟩
  go_wp2
  exact bodyPost_ret (v := RV true 0 (fl r)) (by simp [results, Tryd.results59, go_sem]) rfl ⟨rfl, by repeat (first | exact Below.refl _ _ | refine Below.setCell ?_ (by first | (simp; done) | (simp; omega)) _ | refine Below.alloc ?_ (by first | (simp; done) | (simp; omega)) _ | apply Below.drew)⟩
set_option maxHeartbeats 1000000 in
theorem cmp64_nil (p : Nat) (a b : Int) (w : World) (hp : p < 80) (hT : tCmp64[p]? = some .nilFunc) :
    Calls Tryd.prog 59 #[.int .i64 p, .int .u64 a, .int .u64 b] w fun e w' => e = .returned (RV false 0 0) ∧ Below w.heap.size w w' := by
  have hq := fun w => eqF2 (P := Tryd.prog) Tryd.underlying78 w
  have hp' : (p : Int) < 80 := by omega
  go_enter Tryd.func59, Tryd.ntmps59
  go_wp2_with fail
  rw [storeNew tCmp64]
  case hv => rfl
  case hg => simp
  case hl => rfl
  case h1 => rfl
  simp only [Result.andThen_ok]
  go_wp2
  exact bodyPost_ret (v := RV false 0 0) (by simp [results, Tryd.results59, go_sem]) rfl ⟨rfl, by repeat (first | exact Below.refl _ _ | refine Below.setCell ?_ (by first | (simp; done) | (simp; omega)) _ | refine Below.alloc ?_ (by first | (simp; done) | (simp; omega)) _ | apply Below.drew)⟩
set_option maxHeartbeats 1000000 in
theorem cmp64_lo (p a b : Int) (w : World) (hp : p < 0) :
    Calls Tryd.prog 59 #[.int .i64 p, .int .u64 a, .int .u64 b] w fun e w' => e = .returned (RV false 0 0) ∧ Below w.heap.size w w' := by
  go_enter Tryd.func59, Tryd.ntmps59
  go_wp2_with fail
  rw [storeNew tCmp64]
  case hv => rfl
  case hg => simp
  case hl => rfl
  case h1 => rfl
  simp only [Result.andThen_ok]
  go_wp2
  exact bodyPost_ret (v := RV false 0 0) (by simp [results, Tryd.results59, go_sem]) rfl ⟨rfl, by repeat (first | exact Below.refl _ _ | refine Below.setCell ?_ (by first | (simp; done) | (simp; omega)) _ | refine Below.alloc ?_ (by first | (simp; done) | (simp; omega)) _ | apply Below.drew)⟩
set_option maxHeartbeats 1000000 in
theorem cmp64_hi (p a b : Int) (w : World) (hp : 80 ≤ p) :
    Calls Tryd.prog 59 #[.int .i64 p, .int .u64 a, .int .u64 b] w fun e w' => e = .returned (RV false 0 0) ∧ Below w.heap.size w w' := by
  have hp0 : ¬ p < 0 := by omega
  go_enter Tryd.func59, Tryd.ntmps59
  go_wp2_with fail
  rw [storeNew tCmp64]
  case hv => rfl
  case hg => simp
  case hl => rfl
  case h1 => rfl
  simp only [Result.andThen_ok]
  go_wp2
  exact bodyPost_ret (v := RV false 0 0) (by simp [results, Tryd.results59, go_sem]) rfl ⟨rfl, by repeat (first | exact Below.refl _ _ | refine Below.setCell ?_ (by first | (simp; done) | (simp; omega)) _ | refine Below.alloc ?_ (by first | (simp; done) | (simp; omega)) _ | apply Below.drew)⟩
theorem cmp64_0 (a b : Int) (w : World) : Calls Tryd.prog 59 #[.int .i64 70, .int .u64 a, .int .u64 b] w fun e w' => e = .returned (RV true 0 (fl (cmpB true 0 a b))) ∧ Below w.heap.size w w' :=
  cmp64_found 70 85 a b _ w (by decide) rfl (fun xs w => Tryd.call85 xs w) (fun w => cmpc64_0 a b w)
theorem cmp64_1 (a b : Int) (w : World) : Calls Tryd.prog 59 #[.int .i64 71, .int .u64 a, .int .u64 b] w fun e w' => e = .returned (RV true 0 (fl (cmpB true 1 a b))) ∧ Below w.heap.size w w' :=
  cmp64_found 71 86 a b _ w (by decide) rfl (fun xs w => Tryd.call86 xs w) (fun w => cmpc64_1 a b w)
theorem cmp64_2 (a b : Int) (w : World) : Calls Tryd.prog 59 #[.int .i64 72, .int .u64 a, .int .u64 b] w fun e w' => e = .returned (RV true 0 (fl (cmpB true 2 a b))) ∧ Below w.heap.size w w' :=
  cmp64_found 72 87 a b _ w (by decide) rfl (fun xs w => Tryd.call87 xs w) (fun w => cmpc64_2 a b w)
theorem cmp64_3 (a b : Int) (w : World) : Calls Tryd.prog 59 #[.int .i64 73, .int .u64 a, .int .u64 b] w fun e w' => e = .returned (RV true 0 (fl (cmpB true 3 a b))) ∧ Below w.heap.size w w' :=
  cmp64_found 73 88 a b _ w (by decide) rfl (fun xs w => Tryd.call88 xs w) (fun w => cmpc64_3 a b w)
theorem cmp64_4 (a b : Int) (w : World) : Calls Tryd.prog 59 #[.int .i64 74, .int .u64 a, .int .u64 b] w fun e w' => e = .returned (RV true 0 (fl (cmpB true 4 a b))) ∧ Below w.heap.size w w' :=
  cmp64_found 74 89 a b _ w (by decide) rfl (fun xs w => Tryd.call89 xs w) (fun w => cmpc64_4 a b w)
theorem cmp64_5 (a b : Int) (w : World) : Calls Tryd.prog 59 #[.int .i64 75, .int .u64 a, .int .u64 b] w fun e w' => e = .returned (RV true 0 (fl (cmpB true 5 a b))) ∧ Below w.heap.size w w' :=
  cmp64_found 75 90 a b _ w (by decide) rfl (fun xs w => Tryd.call90 xs w) (fun w => cmpc64_5 a b w)
theorem cmp64_6 (a b : Int) (w : World) : Calls Tryd.prog 59 #[.int .i64 76, .int .u64 a, .int .u64 b] w fun e w' => e = .returned (RV true 0 (fl (cmpB true 6 a b))) ∧ Below w.heap.size w w' :=
  cmp64_found 76 91 a b _ w (by decide) rfl (fun xs w => Tryd.call91 xs w) (fun w => cmpc64_6 a b w)
theorem cmp64_7 (a b : Int) (w : World) : Calls Tryd.prog 59 #[.int .i64 77, .int .u64 a, .int .u64 b] w fun e w' => e = .returned (RV true 0 (fl (cmpB true 7 a b))) ∧ Below w.heap.size w w' :=
  cmp64_found 77 92 a b _ w (by decide) rfl (fun xs w => Tryd.call92 xs w) (fun w => cmpc64_7 a b w)
theorem cmp64_8 (a b : Int) (w : World) : Calls Tryd.prog 59 #[.int .i64 78, .int .u64 a, .int .u64 b] w fun e w' => e = .returned (RV true 0 (fl (cmpB true 8 a b))) ∧ Below w.heap.size w w' :=
  cmp64_found 78 93 a b _ w (by decide) rfl (fun xs w => Tryd.call93 xs w) (fun w => cmpc64_8 a b w)
theorem cmp64_9 (a b : Int) (w : World) : Calls Tryd.prog 59 #[.int .i64 79, .int .u64 a, .int .u64 b] w fun e w' => e = .returned (RV true 0 (fl (cmpB true 9 a b))) ∧ Below w.heap.size w w' :=
  cmp64_found 79 94 a b _ w (by decide) rfl (fun xs w => Tryd.call94 xs w) (fun w => cmpc64_9 a b w)
theorem tCmp64_nil (p : Nat) (h : p < 70) : tCmp64[p]? = some .nilFunc := by
  simp only [tCmp64, List.getElem?_set]
  rw [if_neg (by omega), if_neg (by omega), if_neg (by omega), if_neg (by omega), if_neg (by omega), if_neg (by omega), if_neg (by omega), if_neg (by omega), if_neg (by omega), if_neg (by omega), List.getElem?_replicate, if_pos (by omega)]
theorem cmp64_none (p a b : Int) (w : World) (h : p < 70 ∨ 80 ≤ p) : Calls Tryd.prog 59 #[.int .i64 p, .int .u64 a, .int .u64 b] w fun e w' => e = .returned (RV false 0 0) ∧ Below w.heap.size w w' := by
  by_cases h0 : p < 0
  · exact cmp64_lo p a b w h0
  · by_cases h1 : 80 ≤ p
    · exact cmp64_hi p a b w h1
    · obtain ⟨q, rfl⟩ := Int.eq_ofNat_of_zero_le (show 0 ≤ p by omega)
      exact cmp64_nil q a b w (by omega) (tCmp64_nil q (by omega))
def tCmp32 : List Value := (((((((((((List.replicate 80 Value.nilFunc).set 70 (.func (.func 95) #[] #[])).set 71 (.func (.func 96) #[] #[])).set 72 (.func (.func 97) #[] #[])).set 73 (.func (.func 98) #[] #[])).set 74 (.func (.func 99) #[] #[])).set 75 (.func (.func 100) #[] #[])).set 76 (.func (.func 101) #[] #[])).set 77 (.func (.func 102) #[] #[])).set 78 (.func (.func 103) #[] #[])).set 79 (.func (.func 104) #[] #[]))
set_option maxHeartbeats 1000000 in
theorem cmp32_found (p F : Nat) (a b : Int) (r : Bool) (w : World) (hp : p < 80) (hT : tCmp32[p]? = some (.func (.func F) #[] #[])) (hE : ∀ xs w, (callFunc F xs).run Tryd.prog w = .ok (.enter F xs) w)
    (hF : ∀ w, Calls Tryd.prog F #[.int .u32 a, .int .u32 b] w fun e w' => e = .returned (.bool r) ∧ w = w') :
    Calls Tryd.prog 77 #[.int .i64 p, .int .u32 a, .int .u32 b] w fun e w' => e = .returned (RV true 0 (fl r)) ∧ Below w.heap.size w w' := by
  have HF := Hid.mk' hF
  clear hF
  have hq := fun f c1 c2 w => eqF1 (P := Tryd.prog) Tryd.underlying81 f c1 c2 w
  have hp' : (p : Int) < 80 := by omega
  go_enter Tryd.func77, Tryd.ntmps77
  go_wp2_with fail
  rw [storeNew tCmp32]
  case hv => rfl
  case hg => simp
  case hl => rfl
  case h1 => rfl
  simp only [Result.andThen_ok]
  go_wp2_with fail
  refine (HF.out _).mono ?_
  rintro e w1 ⟨rfl, rfl⟩
  go_wp2_with fail
  refine (flag64_any _ _).mono ?_
  rintro e w2 ⟨rfl, rfl⟩
  go_wp2
  exact bodyPost_ret (v := RV true 0 (fl r)) (by simp [results, Tryd.results77, go_sem]) rfl ⟨rfl, by repeat (first | exact Below.refl _ _ | refine Below.setCell ?_ (by first | (simp; done) | (simp; omega)) _ | refine Below.alloc ?_ (by first | (simp; done) | (simp; omega)) _ | apply Below.drew)⟩
set_option maxHeartbeats 1000000 in
theorem cmp32_nil (p : Nat) (a b : Int) (w : World) (hp : p < 80) (hT : tCmp32[p]? = some .nilFunc) :
    Calls Tryd.prog 77 #[.int .i64 p, .int .u32 a, .int .u32 b] w fun e w' => e = .returned (RV false 0 0) ∧ Below w.heap.size w w' := by
  have hq := fun w => eqF2 (P := Tryd.prog) Tryd.underlying81 w
  have hp' : (p : Int) < 80 := by omega
  go_enter Tryd.func77, Tryd.ntmps77
  go_wp2_with fail
  rw [storeNew tCmp32]
  case hv => rfl
  case hg => simp
  case hl => rfl
  case h1 => rfl
  simp only [Result.andThen_ok]
  go_wp2
  exact bodyPost_ret (v := RV false 0 0) (by simp [results, Tryd.results77, go_sem]) rfl ⟨rfl, by repeat (first | exact Below.refl _ _ | refine Below.setCell ?_ (by first | (simp; done) | (simp; omega)) _ | refine Below.alloc ?_ (by first | (simp; done) | (simp; omega)) _ | apply Below.drew)⟩
set_option maxHeartbeats 1000000 in
theorem cmp32_lo (p a b : Int) (w : World) (hp : p < 0) :
    Calls Tryd.prog 77 #[.int .i64 p, .int .u32 a, .int .u32 b] w fun e w' => e = .returned (RV false 0 0) ∧ Below w.heap.size w w' := by
  go_enter Tryd.func77, Tryd.ntmps77
  go_wp2_with fail
  rw [storeNew tCmp32]
  case hv => rfl
  case hg => simp
  case hl => rfl
  case h1 => rfl
  simp only [Result.andThen_ok]
  go_wp2
  exact bodyPost_ret (v := RV false 0 0) (by simp [results, Tryd.results77, go_sem]) rfl ⟨rfl, by repeat (first | exact Below.refl _ _ | refine Below.setCell ?_ (by first | (simp; done) | (simp; omega)) _ | refine Below.alloc ?_ (by first | (simp; done) | (simp; omega)) _ | apply Below.drew)⟩
set_option maxHeartbeats 1000000 in
theorem cmp32_hi (p a b : Int) (w : World) (hp : 80 ≤ p) :
    Calls Tryd.prog 77 #[.int .i64 p, .int .u32 a, .int .u32 b] w fun e w' => e = .returned (RV false 0 0) ∧ Below w.heap.size w w' := by
  have hp0 : ¬ p < 0 := by omega
  go_enter Tryd.func77, Tryd.ntmps77
  go_wp2_with fail
  rw [storeNew tCmp32]
  case hv => rfl
  case hg => simp
  case hl => rfl
  case h1 => rfl
  simp only [Result.andThen_ok]
  go_wp2
  exact bodyPost_ret (v := RV false 0 0) (by simp [results, Tryd.results77, go_sem]) rfl ⟨rfl, by repeat (first | exact Below.refl _ _ | refine Below.setCell ?_ (by first | (simp; done) | (simp; omega)) _ | refine Below.alloc ?_ (by first | (simp; done) | (simp; omega)) _ | apply Below.drew)⟩
theorem cmp32_0 (a b : Int) (w : World) : Calls Tryd.prog 77 #[.int .i64 70, .int .u32 a, .int .u32 b] w fun e w' => e = .returned (RV true 0 (fl (cmpB false 0 a b))) ∧ Below w.heap.size w w' :=
  cmp32_found 70 95 a b _ w (by decide) rfl (fun xs w => Tryd.call95 xs w) (fun w => cmpc32_0 a b w)
theorem cmp32_1 (a b : Int) (w : World) : Calls Tryd.prog 77 #[.int .i64 71, .int .u32 a, .int .u32 b] w fun e w' => e = .returned (RV true 0 (fl (cmpB false 1 a b))) ∧ Below w.heap.size w w' :=
  cmp32_found 71 96 a b _ w (by decide) rfl (fun xs w => Tryd.call96 xs w) (fun w => cmpc32_1 a b w)
theorem cmp32_2 (a b : Int) (w : World) : Calls Tryd.prog 77 #[.int .i64 72, .int .u32 a, .int .u32 b] w fun e w' => e = .returned (RV true 0 (fl (cmpB false 2 a b))) ∧ Below w.heap.size w w' :=
  cmp32_found 72 97 a b _ w (by decide) rfl (fun xs w => Tryd.call97 xs w) (fun w => cmpc32_2 a b w)
theorem cmp32_3 (a b : Int) (w : World) : Calls Tryd.prog 77 #[.int .i64 73, .int .u32 a, .int .u32 b] w fun e w' => e = .returned (RV true 0 (fl (cmpB false 3 a b))) ∧ Below w.heap.size w w' :=
  cmp32_found 73 98 a b _ w (by decide) rfl (fun xs w => Tryd.call98 xs w) (fun w => cmpc32_3 a b w)
theorem cmp32_4 (a b : Int) (w : World) : Calls Tryd.prog 77 #[.int .i64 74, .int .u32 a, .int .u32 b] w fun e w' => e = .returned (RV true 0 (fl (cmpB false 4 a b))) ∧ Below w.heap.size w w' :=
  cmp32_found 74 99 a b _ w (by decide) rfl (fun xs w => Tryd.call99 xs w) (fun w => cmpc32_4 a b w)
theorem cmp32_5 (a b : Int) (w : World) : Calls Tryd.prog 77 #[.int .i64 75, .int .u32 a, .int .u32 b] w fun e w' => e = .returned (RV true 0 (fl (cmpB false 5 a b))) ∧ Below w.heap.size w w' :=
  cmp32_found 75 100 a b _ w (by decide) rfl (fun xs w => Tryd.call100 xs w) (fun w => cmpc32_5 a b w)
theorem cmp32_6 (a b : Int) (w : World) : Calls Tryd.prog 77 #[.int .i64 76, .int .u32 a, .int .u32 b] w fun e w' => e = .returned (RV true 0 (fl (cmpB false 6 a b))) ∧ Below w.heap.size w w' :=
  cmp32_found 76 101 a b _ w (by decide) rfl (fun xs w => Tryd.call101 xs w) (fun w => cmpc32_6 a b w)
theorem cmp32_7 (a b : Int) (w : World) : Calls Tryd.prog 77 #[.int .i64 77, .int .u32 a, .int .u32 b] w fun e w' => e = .returned (RV true 0 (fl (cmpB false 7 a b))) ∧ Below w.heap.size w w' :=
  cmp32_found 77 102 a b _ w (by decide) rfl (fun xs w => Tryd.call102 xs w) (fun w => cmpc32_7 a b w)
theorem cmp32_8 (a b : Int) (w : World) : Calls Tryd.prog 77 #[.int .i64 78, .int .u32 a, .int .u32 b] w fun e w' => e = .returned (RV true 0 (fl (cmpB false 8 a b))) ∧ Below w.heap.size w w' :=
  cmp32_found 78 103 a b _ w (by decide) rfl (fun xs w => Tryd.call103 xs w) (fun w => cmpc32_8 a b w)
theorem cmp32_9 (a b : Int) (w : World) : Calls Tryd.prog 77 #[.int .i64 79, .int .u32 a, .int .u32 b] w fun e w' => e = .returned (RV true 0 (fl (cmpB false 9 a b))) ∧ Below w.heap.size w w' :=
  cmp32_found 79 104 a b _ w (by decide) rfl (fun xs w => Tryd.call104 xs w) (fun w => cmpc32_9 a b w)
theorem tCmp32_nil (p : Nat) (h : p < 70) : tCmp32[p]? = some .nilFunc := by
  simp only [tCmp32, List.getElem?_set]
  rw [if_neg (by omega), if_neg (by omega), if_neg (by omega), if_neg (by omega), if_neg (by omega), if_neg (by omega), if_neg (by omega), if_neg (by omega), if_neg (by omega), if_neg (by omega), List.getElem?_replicate, if_pos (by omega)]
theorem cmp32_none (p a b : Int) (w : World) (h : p < 70 ∨ 80 ≤ p) : Calls Tryd.prog 77 #[.int .i64 p, .int .u32 a, .int .u32 b] w fun e w' => e = .returned (RV false 0 0) ∧ Below w.heap.size w w' := by
  by_cases h0 : p < 0
  · exact cmp32_lo p a b w h0
  · by_cases h1 : 80 ≤ p
    · exact cmp32_hi p a b w h1
    · obtain ⟨q, rfl⟩ := Int.eq_ofNat_of_zero_le (show 0 ≤ p by omega)
      exact cmp32_nil q a b w (by omega) (tCmp32_nil q (by omega))
end Go.Proofs.YtjiaainhieeepaaDoor
