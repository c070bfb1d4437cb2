import Derived.Test.YtjiaainhieeepaaDoorCmp
import Derived.Test.YtjiaainhieeepaaDoorClo2
set_option linter.unusedVariables false
namespace Go.Proofs.YtjiaainhieeepaaDoor
open Go.RowKit
def tDo64 (g : Nat) : List Value := ((((((((((((((((List.replicate 121 Value.nilFunc).set 106 (.func (.func 43) #[] #[])).set 107 (.func (.func 44) #[] #[])).set 108 (.func (.func 45) #[] #[])).set 109 (.func (.func 46) #[] #[])).set 110 (.func (.func 47) #[] #[])).set 111 (.func (.func 48) #[] #[])).set 112 (.func (.func 49) #[] #[])).set 113 (.func (.func 50) #[] #[])).set 114 (.func (.func 51) #[] #[])).set 115 (.func (.func 52) #[] #[])).set 116 (.func (.func 53) #[] #[.pointer (some ⟨g, 0, none⟩)])).set 117 (.func (.func 54) #[] #[.pointer (some ⟨g, 0, none⟩)])).set 118 (.func (.func 55) #[] #[.pointer (some ⟨g, 0, none⟩)])).set 119 (.func (.func 56) #[] #[])).set 120 (.func (.func 58) #[] #[.pointer (some ⟨g, 0, none⟩)]))
set_option maxHeartbeats 2000000 in
set_option maxRecDepth 100000 in
theorem do64_plain (p F : Nat) (a b t v : Int) (w : World) (hp : p < 121) (hT : (tDo64 (w.heap.size + 1))[p]? = some (.func (.func F) #[] #[])) (hE : ∀ xs w, (callFunc F xs).run Tryd.prog w = .ok (.enter F xs) w)
    (hF : ∀ W, Calls Tryd.prog F #[.int .u64 a, .int .u64 b] W fun e W' => e = .returned (.tuple #[.int .u64 v, .int .i64 t]) ∧ Below W.heap.size W W') :
    Calls Tryd.prog 23 #[.int .i64 p, .int .u64 a, .int .u64 b] w fun e w' => e = .returned (RV true t v) ∧ Below w.heap.size w w' := by
  have HF := Hid.mk' hF
  clear hF
  have hq := fun f c1 c2 w => eqF1 (P := Tryd.prog) Tryd.underlying63 f c1 c2 w
  have hp' : (p : Int) < 121 := by omega
  go_enter Tryd.func23, Tryd.ntmps23
  go_wp2_with fail
  refine (width64 _).mono ?_
  rintro e w0 ⟨rfl, rfl⟩
  go_wp2_with fail
  rw [storeNew (tDo64 (w.heap.size + 1))]
  case hv => rfl
  case hg => simp
  case hl => rfl
  case h1 => rfl
  simp only [Result.andThen_ok]
  go_wp2_with fail
  refine (HF.out _).mono ?_
  rintro e w1 ⟨rfl, hb⟩
  obtain ⟨hc0, hc1, hc2, hf0, hf1, hf2, hb'⟩ := res_cells hb
  have HB := Hid.mk' hb'
  clear hb hb'
  clear HF hT
  go_wp2
  exact bodyPost_ret (v := RV true t v) (by simp [results, Tryd.results23, go_sem, hc0, hc1, hc2]) rfl ⟨rfl, by
    have hb' := HB.out
    repeat (first | exact hb' | refine Below.setCell ?_ (by simp) _)⟩
set_option maxHeartbeats 2000000 in
set_option maxRecDepth 100000 in
theorem do64_cap (p F : Nat) (a b t v : Int) (w : World) (hp : p < 121) (hT : (tDo64 (w.heap.size + 1))[p]? = some (.func (.func F) #[] #[.pointer (some ⟨w.heap.size + 1, 0, none⟩)])) (hE : ∀ xs w, (callFunc F xs).run Tryd.prog w = .ok (.enter F xs) w)
    (hF : ∀ W, W.cell? ⟨w.heap.size + 1, 0, none⟩ = some (.int .u64 64) → Calls Tryd.prog F #[.int .u64 a, .int .u64 b, .pointer (some ⟨w.heap.size + 1, 0, none⟩)] W fun e W' => e = .returned (.tuple #[.int .u64 v, .int .i64 t]) ∧ Below W.heap.size W W') :
    Calls Tryd.prog 23 #[.int .i64 p, .int .u64 a, .int .u64 b] w fun e w' => e = .returned (RV true t v) ∧ Below w.heap.size w w' := by
  have HF := Hid.mk' hF
  clear hF
  have hq := fun f c1 c2 w => eqF1 (P := Tryd.prog) Tryd.underlying63 f c1 c2 w
  have hp' : (p : Int) < 121 := by omega
  go_enter Tryd.func23, Tryd.ntmps23
  go_wp2_with fail
  refine (width64 _).mono ?_
  rintro e w0 ⟨rfl, rfl⟩
  go_wp2_with fail
  rw [storeNew (tDo64 (w.heap.size + 1))]
  case hv => rfl
  case hg => simp
  case hl => rfl
  case h1 => rfl
  simp only [Result.andThen_ok]
  go_wp2_with fail
  refine (HF.out _ ?hcell).mono ?_
  case hcell => exact cell_mid _ _ _ _ _
  rintro e w1 ⟨rfl, hb⟩
  obtain ⟨hc0, hc1, hc2, hf0, hf1, hf2, hb'⟩ := res_cells hb
  have HB := Hid.mk' hb'
  clear hb hb'
  clear HF hT
  go_wp2
  exact bodyPost_ret (v := RV true t v) (by simp [results, Tryd.results23, go_sem, hc0, hc1, hc2]) rfl ⟨rfl, by
    have hb' := HB.out
    repeat (first | exact hb' | refine Below.setCell ?_ (by simp) _)⟩
set_option maxHeartbeats 2000000 in
set_option maxRecDepth 100000 in
theorem do64_nil (p : Nat) (a b : Int) (K : Bool) (t v : Int) (w : World) (hp : p < 121) (hT : (tDo64 (w.heap.size + 1))[p]? = some .nilFunc)
    (hF : ∀ W, Calls Tryd.prog 59 #[.int .i64 p, .int .u64 a, .int .u64 b] W fun e W' => e = .returned (RV K t v) ∧ Below W.heap.size W W') :
    Calls Tryd.prog 23 #[.int .i64 p, .int .u64 a, .int .u64 b] w fun e w' => e = .returned (RV K t v) ∧ Below w.heap.size w w' := by
  have HF := Hid.mk' hF
  clear hF
  have hq := fun w => eqF2 (P := Tryd.prog) Tryd.underlying63 w
  have hp' : (p : Int) < 121 := by omega
  go_enter Tryd.func23, Tryd.ntmps23
  go_wp2_with fail
  refine (width64 _).mono ?_
  rintro e w0 ⟨rfl, rfl⟩
  go_wp2_with fail
  rw [storeNew (tDo64 (w.heap.size + 1))]
  case hv => rfl
  case hg => simp
  case hl => rfl
  case h1 => rfl
  simp only [Result.andThen_ok]
  go_wp2_with fail
  refine (HF.out _).mono ?_
  rintro e w1 ⟨rfl, hb⟩
  obtain ⟨hc0, hc1, hc2, hf0, hf1, hf2, hb'⟩ := res_cells hb
  have HB := Hid.mk' hb'
  clear hb hb'
  clear HF hT
  go_wp2
  exact bodyPost_ret (v := RV K t v) (by simp [results, Tryd.results23, go_sem, hc0, hc1, hc2]) rfl ⟨rfl, by
    have hb' := HB.out
    repeat (first | exact hb' | refine Below.setCell ?_ (by simp) _)⟩
set_option maxHeartbeats 2000000 in
set_option maxRecDepth 100000 in
theorem do64_lo (p a b : Int) (K : Bool) (t v : Int) (w : World) (hp : p < 0)
    (hF : ∀ W, Calls Tryd.prog 59 #[.int .i64 p, .int .u64 a, .int .u64 b] W fun e W' => e = .returned (RV K t v) ∧ Below W.heap.size W W') :
    Calls Tryd.prog 23 #[.int .i64 p, .int .u64 a, .int .u64 b] w fun e w' => e = .returned (RV K t v) ∧ Below w.heap.size w w' := by
  have HF := Hid.mk' hF
  clear hF
  go_enter Tryd.func23, Tryd.ntmps23
  go_wp2_with fail
  refine (width64 _).mono ?_
  rintro e w0 ⟨rfl, rfl⟩
  go_wp2_with fail
  rw [storeNew (tDo64 (w.heap.size + 1))]
  case hv => rfl
  case hg => simp
  case hl => rfl
  case h1 => rfl
  simp only [Result.andThen_ok]
  go_wp2_with fail
  refine (HF.out _).mono ?_
  rintro e w1 ⟨rfl, hb⟩
  obtain ⟨hc0, hc1, hc2, hf0, hf1, hf2, hb'⟩ := res_cells hb
  have HB := Hid.mk' hb'
  clear hb hb'
  clear HF
  go_wp2
  exact bodyPost_ret (v := RV K t v) (by simp [results, Tryd.results23, go_sem, hc0, hc1, hc2]) rfl ⟨rfl, by
    have hb' := HB.out
    repeat (first | exact hb' | refine Below.setCell ?_ (by simp) _)⟩
set_option maxHeartbeats 2000000 in
set_option maxRecDepth 100000 in
theorem do64_hi (p a b : Int) (K : Bool) (t v : Int) (w : World) (hp : 121 ≤ p)
    (hF : ∀ W, Calls Tryd.prog 59 #[.int .i64 p, .int .u64 a, .int .u64 b] W fun e W' => e = .returned (RV K t v) ∧ Below W.heap.size W W') :
    Calls Tryd.prog 23 #[.int .i64 p, .int .u64 a, .int .u64 b] w fun e w' => e = .returned (RV K t v) ∧ Below w.heap.size w w' := by
  have HF := Hid.mk' hF
  clear hF
  have hp0 : ¬ p < 0 := by omega
  go_enter Tryd.func23, Tryd.ntmps23
  go_wp2_with fail
  refine (width64 _).mono ?_
  rintro e w0 ⟨rfl, rfl⟩
  go_wp2_with fail
  rw [storeNew (tDo64 (w.heap.size + 1))]
  case hv => rfl
  case hg => simp
  case hl => rfl
  case h1 => rfl
  simp only [Result.andThen_ok]
  go_wp2_with fail
  refine (HF.out _).mono ?_
  rintro e w1 ⟨rfl, hb⟩
  obtain ⟨hc0, hc1, hc2, hf0, hf1, hf2, hb'⟩ := res_cells hb
  have HB := Hid.mk' hb'
  clear hb hb'
  clear HF
  go_wp2
  exact bodyPost_ret (v := RV K t v) (by simp [results, Tryd.results23, go_sem, hc0, hc1, hc2]) rfl ⟨rfl, by
    have hb' := HB.out
    repeat (first | exact hb' | refine Below.setCell ?_ (by simp) _)⟩
end Go.Proofs.YtjiaainhieeepaaDoor
