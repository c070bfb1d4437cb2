import Derived.Test.YtjiaainhieeepaaDoorOne
set_option linter.unusedVariables false
namespace Go.Proofs.YtjiaainhieeepaaDoor
open Go.RowKit
def tUn64 : List Value := ((((((((List.replicate 174 Value.nilFunc).set 69 (.func (.func 28) #[] #[])).set 103 (.func (.func 29) #[] #[])).set 104 (.func (.func 30) #[] #[])).set 105 (.func (.func 31) #[] #[])).set 167 (.func (.func 32) #[] #[])).set 172 (.func (.func 33) #[] #[])).set 173 (.func (.func 32) #[] #[]))
set_option maxHeartbeats 2000000 in
set_option maxRecDepth 100000 in
theorem un64_found (p F : Nat) (a v : Int) (w : World) (hp : p < 174) (hT : tUn64[p]? = some (.func (.func F) #[] #[])) (hE : ∀ xs w, (callFunc F xs).run Tryd.prog w = .ok (.enter F xs) w)
    (hF : ∀ W, Below w.heap.size w W → Calls Tryd.prog F #[.int .u64 a] W fun e W' => e = .returned (.int .u64 v) ∧ W = W') :
    Calls Tryd.prog 17 #[.int .i64 p, .int .u64 a] w fun e w' => e = .returned (RV true 0 v) ∧ Below w.heap.size w w' := by
  have HF := Hid.mk' hF
  clear hF
  have hq := fun f c1 c2 w => eqF1 (P := Tryd.prog) Tryd.underlying52 f c1 c2 w
  have hp' : (p : Int) < 174 := by omega
  go_enter Tryd.func17, Tryd.ntmps17
  go_wp2_with fail
  rw [storeNew tUn64]
  case hv => rfl
  case hg => simp
  case hl => rfl
  case h1 => rfl
  simp only [Result.andThen_ok]
  go_wp2_with fail
  refine (HF.out _ ?hB).mono ?_
  case hB => exact by repeat (first | exact Below.refl _ _ | refine Below.setCell ?_ (by first | (simp; done) | (simp; omega)) _ | refine Below.alloc ?_ (by first | (simp; done) | (simp; omega)) _ | apply Below.drew)
  rintro e w1 ⟨rfl, rfl⟩
  go_wp2
  exact bodyPost_ret (v := RV true 0 v) (by simp [results, Tryd.results17, go_sem]) rfl ⟨rfl, by repeat (first | exact Below.refl _ _ | refine Below.setCell ?_ (by first | (simp; done) | (simp; omega)) _ | refine Below.alloc ?_ (by first | (simp; done) | (simp; omega)) _ | apply Below.drew)⟩
set_option maxHeartbeats 2000000 in
set_option maxRecDepth 100000 in
theorem un64_nil (p : Nat) (a : Int) (w : World) (hp : p < 174) (hT : tUn64[p]? = some .nilFunc) :
    Calls Tryd.prog 17 #[.int .i64 p, .int .u64 a] w fun e w' => e = .returned (RV false 0 0) ∧ Below w.heap.size w w' := by
  have hq := fun w => eqF2 (P := Tryd.prog) Tryd.underlying52 w
  have hp' : (p : Int) < 174 := by omega
  go_enter Tryd.func17, Tryd.ntmps17
  go_wp2_with fail
  rw [storeNew tUn64]
  case hv => rfl
  case hg => simp
  case hl => rfl
  case h1 => rfl
  simp only [Result.andThen_ok]
  go_wp2
  exact bodyPost_ret (v := RV false 0 0) (by simp [results, Tryd.results17, go_sem]) rfl ⟨rfl, by repeat (first | exact Below.refl _ _ | refine Below.setCell ?_ (by first | (simp; done) | (simp; omega)) _ | refine Below.alloc ?_ (by first | (simp; done) | (simp; omega)) _ | apply Below.drew)⟩
set_option maxHeartbeats 2000000 in
set_option maxRecDepth 100000 in
theorem un64_lo (p a : Int) (w : World) (hp : p < 0) :
    Calls Tryd.prog 17 #[.int .i64 p, .int .u64 a] w fun e w' => e = .returned (RV false 0 0) ∧ Below w.heap.size w w' := by
  go_enter Tryd.func17, Tryd.ntmps17
  go_wp2_with fail
  rw [storeNew tUn64]
  case hv => rfl
  case hg => simp
  case hl => rfl
  case h1 => rfl
  simp only [Result.andThen_ok]
  go_wp2
  exact bodyPost_ret (v := RV false 0 0) (by simp [results, Tryd.results17, go_sem]) rfl ⟨rfl, by repeat (first | exact Below.refl _ _ | refine Below.setCell ?_ (by first | (simp; done) | (simp; omega)) _ | refine Below.alloc ?_ (by first | (simp; done) | (simp; omega)) _ | apply Below.drew)⟩
set_option maxHeartbeats 2000000 in
set_option maxRecDepth 100000 in
theorem un64_hi (p a : Int) (w : World) (hp : 174 ≤ p) :
    Calls Tryd.prog 17 #[.int .i64 p, .int .u64 a] w fun e w' => e = .returned (RV false 0 0) ∧ Below w.heap.size w w' := by
  have hp0 : ¬ p < 0 := by omega
  go_enter Tryd.func17, Tryd.ntmps17
  go_wp2_with fail
  rw [storeNew tUn64]
  case hv => rfl
  case hg => simp
  case hl => rfl
  case h1 => rfl
  simp only [Result.andThen_ok]
  go_wp2
  exact bodyPost_ret (v := RV false 0 0) (by simp [results, Tryd.results17, go_sem]) rfl ⟨rfl, by repeat (first | exact Below.refl _ _ | refine Below.setCell ?_ (by first | (simp; done) | (simp; omega)) _ | refine Below.alloc ?_ (by first | (simp; done) | (simp; omega)) _ | apply Below.drew)⟩
theorem tUn64_nil (p : Nat) (h : p < 174) (h1 : p ≠ 69) (h2 : p ≠ 103) (h3 : p ≠ 104) (h4 : p ≠ 105) (h5 : p ≠ 167) (h6 : p ≠ 172) (h7 : p ≠ 173) : tUn64[p]? = some .nilFunc := by
  simp only [tUn64, List.getElem?_set]
  rw [if_neg (by omega), if_neg (by omega), if_neg (by omega), if_neg (by omega), if_neg (by omega), if_neg (by omega), if_neg (by omega), List.getElem?_replicate, if_pos (by omega)]
theorem un64_none (p a : Int) (w : World) (h1 : p ≠ 69) (h2 : p ≠ 103) (h3 : p ≠ 104) (h4 : p ≠ 105) (h5 : p ≠ 167) (h6 : p ≠ 172) (h7 : p ≠ 173) :
    Calls Tryd.prog 17 #[.int .i64 p, .int .u64 a] w fun e w' => e = .returned (RV false 0 0) ∧ Below w.heap.size w w' := by
  by_cases h0 : p < 0
  · exact un64_lo p a w h0
  · by_cases h8 : 174 ≤ p
    · exact un64_hi p a w h8
    · obtain ⟨q, rfl⟩ := Int.eq_ofNat_of_zero_le (show 0 ≤ p by omega)
      exact un64_nil q a w (by omega) (tUn64_nil q (by omega) (by omega) (by omega) (by omega) (by omega) (by omega) (by omega) (by omega))
theorem u64_69 (X : Nat) (w : World) (hX : X < 18446744073709551616) (hT : Tab0 w) (hz : 0 < w.heap.size) : Calls Tryd.prog 17 #[.int .i64 69, .int .u64 X] w fun e w' => e = .returned (RV true 0 (fl ((X : Int) == 0))) ∧ Below w.heap.size w w' :=
  un64_found 69 28 X _ w (by decide) rfl (fun xs w => Tryd.call28 xs w) (fun W hb => eqz64 X W hX)
theorem u64_103 (X : Nat) (w : World) (hX : X < 18446744073709551616) (hT : Tab0 w) (hz : 0 < w.heap.size) : Calls Tryd.prog 17 #[.int .i64 103, .int .u64 X] w fun e w' => e = .returned (RV true 0 (highN 64 64 X)) ∧ Below w.heap.size w w' :=
  un64_found 103 29 X _ w (by decide) rfl (fun xs w => Tryd.call29 xs w) (fun W hb => clz64 X W hX)
theorem u64_104 (X : Nat) (w : World) (hX : X < 18446744073709551616) (hT : Tab0 w) (hz : 0 < w.heap.size) : Calls Tryd.prog 17 #[.int .i64 104, .int .u64 X] w fun e w' => e = .returned (RV true 0 (lowN 64 64 X)) ∧ Below w.heap.size w w' :=
  un64_found 104 30 X _ w (by decide) rfl (fun xs w => Tryd.call30 xs w) (fun W hb => ctz64 X W hX (hT.below hb hz))
theorem u64_105 (X : Nat) (w : World) (hX : X < 18446744073709551616) (hT : Tab0 w) (hz : 0 < w.heap.size) : Calls Tryd.prog 17 #[.int .i64 105, .int .u64 X] w fun e w' => e = .returned (RV true 0 (ones 64 X)) ∧ Below w.heap.size w w' :=
  un64_found 105 31 X _ w (by decide) rfl (fun xs w => Tryd.call31 xs w) (fun W hb => pop64 X W hX)
theorem u64_167 (X : Nat) (w : World) (hX : X < 18446744073709551616) (hT : Tab0 w) (hz : 0 < w.heap.size) : Calls Tryd.prog 17 #[.int .i64 167, .int .u64 X] w fun e w' => e = .returned (RV true 0 ((X : Int) % 4294967296)) ∧ Below w.heap.size w w' :=
  un64_found 167 32 X _ w (by decide) rfl (fun xs w => Tryd.call32 xs w) (fun W hb => lowU64 X W hX)
theorem u64_172 (X : Nat) (w : World) (hX : X < 18446744073709551616) (hT : Tab0 w) (hz : 0 < w.heap.size) : Calls Tryd.prog 17 #[.int .i64 172, .int .u64 X] w fun e w' => e = .returned (RV true 0 (IntKind.u64.wrap (wrap32 X))) ∧ Below w.heap.size w w' :=
  un64_found 172 33 X _ w (by decide) rfl (fun xs w => Tryd.call33 xs w) (fun W hb => lowS64 X W hX)
theorem u64_173 (X : Nat) (w : World) (hX : X < 18446744073709551616) (hT : Tab0 w) (hz : 0 < w.heap.size) : Calls Tryd.prog 17 #[.int .i64 173, .int .u64 X] w fun e w' => e = .returned (RV true 0 ((X : Int) % 4294967296)) ∧ Below w.heap.size w w' :=
  un64_found 173 32 X _ w (by decide) rfl (fun xs w => Tryd.call32 xs w) (fun W hb => lowU64 X W hX)
def tUn32 : List Value := ((((((((List.replicate 174 Value.nilFunc).set 69 (.func (.func 34) #[] #[])).set 103 (.func (.func 35) #[] #[])).set 104 (.func (.func 36) #[] #[])).set 105 (.func (.func 37) #[] #[])).set 167 (.func (.func 38) #[] #[])).set 172 (.func (.func 39) #[] #[])).set 173 (.func (.func 38) #[] #[]))
set_option maxHeartbeats 2000000 in
set_option maxRecDepth 100000 in
theorem un32_found (p F : Nat) (a v : Int) (w : World) (hp : p < 174) (hT : tUn32[p]? = some (.func (.func F) #[] #[])) (hE : ∀ xs w, (callFunc F xs).run Tryd.prog w = .ok (.enter F xs) w)
    (hF : ∀ W, Below w.heap.size w W → Calls Tryd.prog F #[.int .u32 a] W fun e W' => e = .returned (.int .u32 v) ∧ W = W') (hv0 : 0 ≤ v) (hv : v ≤ 4294967295) :
    Calls Tryd.prog 18 #[.int .i64 p, .int .u32 a] w fun e w' => e = .returned (RV true 0 v) ∧ Below w.heap.size w w' := by
  have HF := Hid.mk' hF
  clear hF
  have hq := fun f c1 c2 w => eqF1 (P := Tryd.prog) Tryd.underlying55 f c1 c2 w
  have hp' : (p : Int) < 174 := by omega
  go_enter Tryd.func18, Tryd.ntmps18
  go_wp2_with fail
  rw [storeNew tUn32]
  case hv => rfl
  case hg => simp
  case hl => rfl
  case h1 => rfl
  simp only [Result.andThen_ok]
  go_wp2_with fail
  refine (HF.out _ ?hB).mono ?_
  case hB => exact by repeat (first | exact Below.refl _ _ | refine Below.setCell ?_ (by first | (simp; done) | (simp; omega)) _ | refine Below.alloc ?_ (by first | (simp; done) | (simp; omega)) _ | apply Below.drew)
  rintro e w1 ⟨rfl, rfl⟩
  go_wp2
  exact bodyPost_ret (v := RV true 0 v) (by simp [results, Tryd.results18, go_sem]) rfl ⟨rfl, by repeat (first | exact Below.refl _ _ | refine Below.setCell ?_ (by first | (simp; done) | (simp; omega)) _ | refine Below.alloc ?_ (by first | (simp; done) | (simp; omega)) _ | apply Below.drew)⟩
set_option maxHeartbeats 2000000 in
set_option maxRecDepth 100000 in
theorem un32_nil (p : Nat) (a : Int) (w : World) (hp : p < 174) (hT : tUn32[p]? = some .nilFunc) :
    Calls Tryd.prog 18 #[.int .i64 p, .int .u32 a] w fun e w' => e = .returned (RV false 0 0) ∧ Below w.heap.size w w' := by
  have hq := fun w => eqF2 (P := Tryd.prog) Tryd.underlying55 w
  have hp' : (p : Int) < 174 := by omega
  go_enter Tryd.func18, Tryd.ntmps18
  go_wp2_with fail
  rw [storeNew tUn32]
  case hv => rfl
  case hg => simp
  case hl => rfl
  case h1 => rfl
  simp only [Result.andThen_ok]
  go_wp2
  exact bodyPost_ret (v := RV false 0 0) (by simp [results, Tryd.results18, go_sem]) rfl ⟨rfl, by repeat (first | exact Below.refl _ _ | refine Below.setCell ?_ (by first | (simp; done) | (simp; omega)) _ | refine Below.alloc ?_ (by first | (simp; done) | (simp; omega)) _ | apply Below.drew)⟩
set_option maxHeartbeats 2000000 in
set_option maxRecDepth 100000 in
theorem un32_lo (p a : Int) (w : World) (hp : p < 0) :
    Calls Tryd.prog 18 #[.int .i64 p, .int .u32 a] w fun e w' => e = .returned (RV false 0 0) ∧ Below w.heap.size w w' := by
  go_enter Tryd.func18, Tryd.ntmps18
  go_wp2_with fail
  rw [storeNew tUn32]
  case hv => rfl
  case hg => simp
  case hl => rfl
  case h1 => rfl
  simp only [Result.andThen_ok]
  go_wp2
  exact bodyPost_ret (v := RV false 0 0) (by simp [results, Tryd.results18, go_sem]) rfl ⟨rfl, by repeat (first | exact Below.refl _ _ | refine Below.setCell ?_ (by first | (simp; done) | (simp; omega)) _ | refine Below.alloc ?_ (by first | (simp; done) | (simp; omega)) _ | apply Below.drew)⟩
set_option maxHeartbeats 2000000 in
set_option maxRecDepth 100000 in
theorem un32_hi (p a : Int) (w : World) (hp : 174 ≤ p) :
    Calls Tryd.prog 18 #[.int .i64 p, .int .u32 a] w fun e w' => e = .returned (RV false 0 0) ∧ Below w.heap.size w w' := by
  have hp0 : ¬ p < 0 := by omega
  go_enter Tryd.func18, Tryd.ntmps18
  go_wp2_with fail
  rw [storeNew tUn32]
  case hv => rfl
  case hg => simp
  case hl => rfl
  case h1 => rfl
  simp only [Result.andThen_ok]
  go_wp2
  exact bodyPost_ret (v := RV false 0 0) (by simp [results, Tryd.results18, go_sem]) rfl ⟨rfl, by repeat (first | exact Below.refl _ _ | refine Below.setCell ?_ (by first | (simp; done) | (simp; omega)) _ | refine Below.alloc ?_ (by first | (simp; done) | (simp; omega)) _ | apply Below.drew)⟩
theorem tUn32_nil (p : Nat) (h : p < 174) (h1 : p ≠ 69) (h2 : p ≠ 103) (h3 : p ≠ 104) (h4 : p ≠ 105) (h5 : p ≠ 167) (h6 : p ≠ 172) (h7 : p ≠ 173) : tUn32[p]? = some .nilFunc := by
  simp only [tUn32, List.getElem?_set]
  rw [if_neg (by omega), if_neg (by omega), if_neg (by omega), if_neg (by omega), if_neg (by omega), if_neg (by omega), if_neg (by omega), List.getElem?_replicate, if_pos (by omega)]
theorem un32_none (p a : Int) (w : World) (h1 : p ≠ 69) (h2 : p ≠ 103) (h3 : p ≠ 104) (h4 : p ≠ 105) (h5 : p ≠ 167) (h6 : p ≠ 172) (h7 : p ≠ 173) :
    Calls Tryd.prog 18 #[.int .i64 p, .int .u32 a] w fun e w' => e = .returned (RV false 0 0) ∧ Below w.heap.size w w' := by
  by_cases h0 : p < 0
  · exact un32_lo p a w h0
  · by_cases h8 : 174 ≤ p
    · exact un32_hi p a w h8
    · obtain ⟨q, rfl⟩ := Int.eq_ofNat_of_zero_le (show 0 ≤ p by omega)
      exact un32_nil q a w (by omega) (tUn32_nil q (by omega) (by omega) (by omega) (by omega) (by omega) (by omega) (by omega) (by omega))
theorem u32_69 (X : Nat) (w : World) (hX : X < 4294967296) (hT : Tab0 w) (hz : 0 < w.heap.size) : Calls Tryd.prog 18 #[.int .i64 69, .int .u32 X] w fun e w' => e = .returned (RV true 0 (fl ((X : Int) == 0))) ∧ Below w.heap.size w w' :=
  un32_found 69 34 X _ w (by decide) rfl (fun xs w => Tryd.call34 xs w) (fun W hb => eqz32 X W hX) (by cases ((X : Int) == 0) <;> decide) (by cases ((X : Int) == 0) <;> decide)
theorem u32_103 (X : Nat) (w : World) (hX : X < 4294967296) (hT : Tab0 w) (hz : 0 < w.heap.size) : Calls Tryd.prog 18 #[.int .i64 103, .int .u32 X] w fun e w' => e = .returned (RV true 0 (highN 32 32 X)) ∧ Below w.heap.size w w' :=
  un32_found 103 35 X _ w (by decide) rfl (fun xs w => Tryd.call35 xs w) (fun W hb => clz32 X W hX) (by omega) (by have := high_at 32 32 X (Nat.le_refl _) (by omega); omega)
theorem u32_104 (X : Nat) (w : World) (hX : X < 4294967296) (hT : Tab0 w) (hz : 0 < w.heap.size) : Calls Tryd.prog 18 #[.int .i64 104, .int .u32 X] w fun e w' => e = .returned (RV true 0 (lowN 32 32 X)) ∧ Below w.heap.size w w' :=
  un32_found 104 36 X _ w (by decide) rfl (fun xs w => Tryd.call36 xs w) (fun W hb => ctz32 X W hX (hT.below hb hz)) (by omega) (by have := low_ctz 32 X (by omega) hX; omega)
theorem u32_105 (X : Nat) (w : World) (hX : X < 4294967296) (hT : Tab0 w) (hz : 0 < w.heap.size) : Calls Tryd.prog 18 #[.int .i64 105, .int .u32 X] w fun e w' => e = .returned (RV true 0 (ones 32 X)) ∧ Below w.heap.size w w' :=
  un32_found 105 37 X _ w (by decide) rfl (fun xs w => Tryd.call37 xs w) (fun W hb => pop32 X W hX) (by omega) (by have := ones_le 32 X; omega)
end Go.Proofs.YtjiaainhieeepaaDoor
