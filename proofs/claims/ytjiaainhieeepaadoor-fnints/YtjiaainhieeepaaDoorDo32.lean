import Derived.Test.YtjiaainhieeepaaDoorCmp
import Derived.Test.YtjiaainhieeepaaDoorClo2
set_option linter.unusedVariables false
namespace Go.Proofs.YtjiaainhieeepaaDoor
open Go.RowKit
def tDo32 (g : Nat) : List Value := ((((((((((((((((List.replicate 121 Value.nilFunc).set 106 (.func (.func 61) #[] #[])).set 107 (.func (.func 62) #[] #[])).set 108 (.func (.func 63) #[] #[])).set 109 (.func (.func 64) #[] #[])).set 110 (.func (.func 65) #[] #[])).set 111 (.func (.func 66) #[] #[])).set 112 (.func (.func 67) #[] #[])).set 113 (.func (.func 68) #[] #[])).set 114 (.func (.func 69) #[] #[])).set 115 (.func (.func 70) #[] #[])).set 116 (.func (.func 71) #[] #[.pointer (some ⟨g, 0, none⟩)])).set 117 (.func (.func 72) #[] #[.pointer (some ⟨g, 0, none⟩)])).set 118 (.func (.func 73) #[] #[.pointer (some ⟨g, 0, none⟩)])).set 119 (.func (.func 74) #[] #[])).set 120 (.func (.func 76) #[] #[.pointer (some ⟨g, 0, none⟩)]))
set_option maxHeartbeats 2000000 in
set_option maxRecDepth 100000 in
theorem do32_plain (p F : Nat) (a b t v : Int) (w : World) (hp : p < 121) (hT : (tDo32 (w.heap.size + 1))[p]? = some (.func (.func F) #[] #[])) (hE : ∀ xs w, (callFunc F xs).run Tryd.prog w = .ok (.enter F xs) w)
    (hF : ∀ W, Calls Tryd.prog F #[.int .u32 a, .int .u32 b] W fun e W' => e = .returned (.tuple #[.int .u32 v, .int .i64 t]) ∧ Below W.heap.size W W') (hv0 : 0 ≤ v) (hv : v ≤ 4294967295) :
    Calls Tryd.prog 24 #[.int .i64 p, .int .u32 a, .int .u32 b] w fun e w' => e = .returned (RV true t v) ∧ Below w.heap.size w w' := by
  have HF := Hid.mk' hF
  clear hF
  have hq := fun f c1 c2 w => eqF1 (P := Tryd.prog) Tryd.underlying69 f c1 c2 w
  have hp' : (p : Int) < 121 := by omega
  go_enter Tryd.func24, Tryd.ntmps24
  go_wp2_with fail
  refine (width32 _).mono ?_
  rintro e w0 ⟨rfl, rfl⟩
  go_wp2_with fail
  rw [storeNew (tDo32 (w.heap.size + 1))]
  case hv => rfl
  case hg => simp
  case hl => rfl
  case h1 => rfl
  simp only [Result.andThen_ok]
  go_wp2_with fail
  refine (HF.out _).mono ?_
  rintro e w1 ⟨rfl, hb⟩
  obtain ⟨hc0, hc1, hc2, hf0, hf1, hf2, hb'⟩ := res_cells hb
  have HB := Hid.mk' hb'
  clear hb hb'
  clear HF hT
  go_wp2
  exact bodyPost_ret (v := RV true t v) (by simp [results, Tryd.results24, go_sem, hc0, hc1, hc2]) rfl ⟨rfl, by
    have hb' := HB.out
    repeat (first | exact hb' | refine Below.setCell ?_ (by simp) _)⟩
set_option maxHeartbeats 2000000 in
set_option maxRecDepth 100000 in
theorem do32_cap (p F : Nat) (a b t v : Int) (w : World) (hp : p < 121) (hT : (tDo32 (w.heap.size + 1))[p]? = some (.func (.func F) #[] #[.pointer (some ⟨w.heap.size + 1, 0, none⟩)])) (hE : ∀ xs w, (callFunc F xs).run Tryd.prog w = .ok (.enter F xs) w)
    (hF : ∀ W, W.cell? ⟨w.heap.size + 1, 0, none⟩ = some (.int .u32 32) → Calls Tryd.prog F #[.int .u32 a, .int .u32 b, .pointer (some ⟨w.heap.size + 1, 0, none⟩)] W fun e W' => e = .returned (.tuple #[.int .u32 v, .int .i64 t]) ∧ Below W.heap.size W W') (hv0 : 0 ≤ v) (hv : v ≤ 4294967295) :
    Calls Tryd.prog 24 #[.int .i64 p, .int .u32 a, .int .u32 b] w fun e w' => e = .returned (RV true t v) ∧ Below w.heap.size w w' := by
  have HF := Hid.mk' hF
  clear hF
  have hq := fun f c1 c2 w => eqF1 (P := Tryd.prog) Tryd.underlying69 f c1 c2 w
  have hp' : (p : Int) < 121 := by omega
  go_enter Tryd.func24, Tryd.ntmps24
  go_wp2_with fail
  refine (width32 _).mono ?_
  rintro e w0 ⟨rfl, rfl⟩
  go_wp2_with fail
  rw [storeNew (tDo32 (w.heap.size + 1))]
  case hv => rfl
  case hg => simp
  case hl => rfl
  case h1 => rfl
  simp only [Result.andThen_ok]
  go_wp2_with fail
  refine (HF.out _ ?hcell).mono ?_
  case hcell => exact cell_mid _ _ _ _ _
  rintro e w1 ⟨rfl, hb⟩
  obtain ⟨hc0, hc1, hc2, hf0, hf1, hf2, hb'⟩ := res_cells hb
  have HB := Hid.mk' hb'
  clear hb hb'
  clear HF hT
  go_wp2
  exact bodyPost_ret (v := RV true t v) (by simp [results, Tryd.results24, go_sem, hc0, hc1, hc2]) rfl ⟨rfl, by
    have hb' := HB.out
    repeat (first | exact hb' | refine Below.setCell ?_ (by simp) _)⟩
set_option maxHeartbeats 2000000 in
set_option maxRecDepth 100000 in
theorem do32_nil (p : Nat) (a b : Int) (K : Bool) (t v : Int) (w : World) (hp : p < 121) (hT : (tDo32 (w.heap.size + 1))[p]? = some .nilFunc)
    (hF : ∀ W, Calls Tryd.prog 77 #[.int .i64 p, .int .u32 a, .int .u32 b] W fun e W' => e = .returned (RV K t v) ∧ Below W.heap.size W W') :
    Calls Tryd.prog 24 #[.int .i64 p, .int .u32 a, .int .u32 b] w fun e w' => e = .returned (RV K t v) ∧ Below w.heap.size w w' := by
  have HF := Hid.mk' hF
  clear hF
  have hq := fun w => eqF2 (P := Tryd.prog) Tryd.underlying69 w
  have hp' : (p : Int) < 121 := by omega
  go_enter Tryd.func24, Tryd.ntmps24
  go_wp2_with fail
  refine (width32 _).mono ?_
  rintro e w0 ⟨rfl, rfl⟩
  go_wp2_with fail
  rw [storeNew (tDo32 (w.heap.size + 1))]
  case hv => rfl
  case hg => simp
  case hl => rfl
  case h1 => rfl
  simp only [Result.andThen_ok]
  go_wp2_with fail
  refine (HF.out _).mono ?_
  rintro e w1 ⟨rfl, hb⟩
  obtain ⟨hc0, hc1, hc2, hf0, hf1, hf2, hb'⟩ := res_cells hb
  have HB := Hid.mk' hb'
  clear hb hb'
  clear HF hT
  go_wp2
  exact bodyPost_ret (v := RV K t v) (by simp [results, Tryd.results24, go_sem, hc0, hc1, hc2]) rfl ⟨rfl, by
    have hb' := HB.out
    repeat (first | exact hb' | refine Below.setCell ?_ (by simp) _)⟩
set_option maxHeartbeats 2000000 in
set_option maxRecDepth 100000 in
theorem do32_lo (p a b : Int) (K : Bool) (t v : Int) (w : World) (hp : p < 0)
    (hF : ∀ W, Calls Tryd.prog 77 #[.int .i64 p, .int .u32 a, .int .u32 b] W fun e W' => e = .returned (RV K t v) ∧ Below W.heap.size W W') :
    Calls Tryd.prog 24 #[.int .i64 p, .int .u32 a, .int .u32 b] w fun e w' => e = .returned (RV K t v) ∧ Below w.heap.size w w' := by
  have HF := Hid.mk' hF
  clear hF
  go_enter Tryd.func24, Tryd.ntmps24
  go_wp2_with fail
  refine (width32 _).mono ?_
  rintro e w0 ⟨rfl, rfl⟩
  go_wp2_with fail
  rw [storeNew (tDo32 (w.heap.size + 1))]
  case hv => rfl
  case hg => simp
  case hl => rfl
  case h1 => rfl
  simp only [Result.andThen_ok]
  go_wp2_with fail
  refine (HF.out _).mono ?_
  rintro e w1 ⟨rfl, hb⟩
  obtain ⟨hc0, hc1, hc2, hf0, hf1, hf2, hb'⟩ := res_cells hb
  have HB := Hid.mk' hb'
  clear hb hb'
  clear HF
  go_wp2
  exact bodyPost_ret (v := RV K t v) (by simp [results, Tryd.results24, go_sem, hc0, hc1, hc2]) rfl ⟨rfl, by
    have hb' := HB.out
    repeat (first | exact hb' | refine Below.setCell ?_ (by simp) _)⟩
set_option maxHeartbeats 2000000 in
set_option maxRecDepth 100000 in
theorem do32_hi (p a b : Int) (K : Bool) (t v : Int) (w : World) (hp : 121 ≤ p)
    (hF : ∀ W, Calls Tryd.prog 77 #[.int .i64 p, .int .u32 a, .int .u32 b] W fun e W' => e = .returned (RV K t v) ∧ Below W.heap.size W W') :
    Calls Tryd.prog 24 #[.int .i64 p, .int .u32 a, .int .u32 b] w fun e w' => e = .returned (RV K t v) ∧ Below w.heap.size w w' := by
  have HF := Hid.mk' hF
  clear hF
  have hp0 : ¬ p < 0 := by omega
  go_enter Tryd.func24, Tryd.ntmps24
  go_wp2_with fail
  refine (width32 _).mono ?_
  rintro e w0 ⟨rfl, rfl⟩
  go_wp2_with fail
  rw [storeNew (tDo32 (w.heap.size + 1))]
  case hv => rfl
  case hg => simp
  case hl => rfl
  case h1 => rfl
  simp only [Result.andThen_ok]
  go_wp2_with fail
  refine (HF.out _).mono ?_
  rintro e w1 ⟨rfl, hb⟩
  obtain ⟨hc0, hc1, hc2, hf0, hf1, hf2, hb'⟩ := res_cells hb
  have HB := Hid.mk' hb'
  clear hb hb'
  clear HF
  go_wp2
  exact bodyPost_ret (v := RV K t v) (by simp [results, Tryd.results24, go_sem, hc0, hc1, hc2]) rfl ⟨rfl, by
    have hb' := HB.out
    repeat (first | exact hb' | refine Below.setCell ?_ (by simp) _)⟩
end Go.Proofs.YtjiaainhieeepaaDoor
