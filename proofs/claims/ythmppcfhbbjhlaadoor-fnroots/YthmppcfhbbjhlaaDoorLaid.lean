import Derived.Test.YthmppcfhbbjhlaaDoorRows
import Derived.Test.YthmppcfhbbjhlaaDoorIc
import Derived.ProofKit
import Derived.LaidMore
import Derived.OpenShut
import Derived.Stop.Joined
set_option linter.all false
namespace Go.Proofs.YthmppcfhbbjhlaaDoor
open Go.ChangeShapes Go.WideShapes Go.ChangeAt Go.WideMaps Go.WideElems Go.RowKit

theorem gTab : Tryd.prog.globalNamed "loop.example/s00119/impl.floatFormats" = some 0 := by kernel_rfl
theorem tTab : (Tryd.prog.globals[0]?).map (·.type) = some 74 := by kernel_rfl
theorem u74 : Tryd.prog.underlying 74 = some (.array 2 56) := by kernel_rfl
theorem u56 : Tryd.prog.underlying 56 = some (.struct (Tryd.prog.fieldsOf 56)) := by kernel_rfl
theorem f56 : (Tryd.prog.fieldsOf 56).size = 4 := by kernel_rfl
theorem u2 : Tryd.prog.underlying 2 = some (.int .i64) := by kernel_rfl
theorem u22 : Tryd.prog.underlying 22 = some (.int .u64) := by kernel_rfl
theorem n56 : Tryd.prog.cellsOf 56 = 4 := by kernel_rfl
theorem n2 : Tryd.prog.cellsOf 2 = 1 := by kernel_rfl
theorem n22 : Tryd.prog.cellsOf 22 = 1 := by kernel_rfl
theorem fd0 : ∃ f, (Tryd.prog.fieldsOf 56)[0]? = some f ∧ f.type = 2 ∧ f.offset = 0 := by
  have h : ((Tryd.prog.fieldsOf 56)[0]?).map (fun f => (f.type, f.offset)) = some (2, 0) := by kernel_rfl
  obtain ⟨f, hf, he⟩ := Option.map_eq_some_iff.1 h
  simp only [Prod.mk.injEq] at he
  exact ⟨f, hf, he.1, he.2⟩
theorem fd1 : ∃ f, (Tryd.prog.fieldsOf 56)[1]? = some f ∧ f.type = 2 ∧ f.offset = 1 := by
  have h : ((Tryd.prog.fieldsOf 56)[1]?).map (fun f => (f.type, f.offset)) = some (2, 1) := by kernel_rfl
  obtain ⟨f, hf, he⟩ := Option.map_eq_some_iff.1 h
  simp only [Prod.mk.injEq] at he
  exact ⟨f, hf, he.1, he.2⟩
theorem fd2 : ∃ f, (Tryd.prog.fieldsOf 56)[2]? = some f ∧ f.type = 2 ∧ f.offset = 2 := by
  have h : ((Tryd.prog.fieldsOf 56)[2]?).map (fun f => (f.type, f.offset)) = some (2, 2) := by kernel_rfl
  obtain ⟨f, hf, he⟩ := Option.map_eq_some_iff.1 h
  simp only [Prod.mk.injEq] at he
  exact ⟨f, hf, he.1, he.2⟩
theorem fd3 : ∃ f, (Tryd.prog.fieldsOf 56)[3]? = some f ∧ f.type = 22 ∧ f.offset = 3 := by
  have h : ((Tryd.prog.fieldsOf 56)[3]?).map (fun f => (f.type, f.offset)) = some (22, 3) := by kernel_rfl
  obtain ⟨f, hf, he⟩ := Option.map_eq_some_iff.1 h
  simp only [Prod.mk.injEq] at he
  exact ⟨f, hf, he.1, he.2⟩
theorem at_of {cs : List Value} {a : Value} {i : Nat} (h : (cs.drop i).take 1 = [a]) : cs[i]? = some a := by
  have h2 := congrArg (fun l => l[0]?) h
  simpa [List.getElem?_take, List.getElem?_drop] using h2
theorem at_in {cs : List Value} {a : Value} {j i : Nat} (h : ((cs.drop j).take 4)[i]? = some a) (hi : i < 4) : cs[j + i]? = some a := by
  rw [List.getElem?_take, if_pos hi, List.getElem?_drop] at h
  exact h

theorem of_laid {W : World} (h : laidMetH Tryd.prog [("loop.example/s00119/impl.floatFormats", Rows.laid_loop_example_s00119_impl_floatFormats)] W) : Tab0 W ∧ 0 < W.heap.size := by
  rw [MakeChecks.laidMetH_plain _ _ _ (by kernel_rfl)] at h
  obtain ⟨ps, ⟨g0, t0, cs0, f0, p0, q0, hg0, ht0, hv0, hd0, _, _⟩, _, _⟩ := h
  obtain rfl := Option.some.inj (gTab.symm.trans hg0)
  obtain rfl := Option.some.inj (tTab.symm.trans ht0)
  obtain ⟨xs, m, rfl, hx, hlen, hn, hel⟩ := DataW.trod_array u74 hd0
  simp only [Prod.mk.injEq] at hx
  have hxs := hx.1
  have hmap : [(DataW.agg [.lit (.int .i64 32), .lit (.int .i64 23), .lit (.int .i64 (-149)), .lit (.int .u64 2143289344)] : DataW Unit), .agg [.lit (.int .i64 64), .lit (.int .i64 52), .lit (.int .i64 (-1074)), .lit (.int .u64 9221120237041090560)]] = xs.map (·.1) := by
    have e : (Rows.laid_loop_example_s00119_impl_floatFormats : DataW Unit) = .agg [.agg [.lit (.int .i64 32), .lit (.int .i64 23), .lit (.int .i64 (-149)), .lit (.int .u64 2143289344)], .agg [.lit (.int .i64 64), .lit (.int .i64 52), .lit (.int .i64 (-1074)), .lit (.int .u64 9221120237041090560)]] := rfl
    rw [e] at hxs
    injection hxs
  have hcell : ∀ (k : Nat) (v : Value), cs0.toList[k]? = some v → W.cell? ⟨0, k, none⟩ = some v := fun k v hk => by
    rw [World.var?_cell hg0 hv0 k]
    simpa using hk
  have hj0 := hel 0 (by decide)
  rw [n56, List.getElem?_eq_getElem (show 0 < xs.length by omega)] at hj0
  have ej0 := congrArg (fun l => l[0]?) hmap
  simp only [List.getElem?_map, List.getElem?_eq_getElem (show 0 < xs.length by omega), Option.map_some] at ej0
  have ej0 := Option.some.inj ej0
  obtain ⟨ys0, m0, _, hy0, hl0, hlen0, hf0⟩ := DataW.trod_struct u56 hj0
  rw [hy0] at ej0
  have em0 : [(DataW.lit (.int .i64 32) : DataW Unit), .lit (.int .i64 23), .lit (.int .i64 (-149)), .lit (.int .u64 2143289344)] = ys0.map (·.1) := by injection ej0
  rw [f56] at hlen0
  have c00 : W.cell? ⟨0, 0, none⟩ = some (.int .i64 32) := by
    obtain ⟨f, hf, ht, ho⟩ := fd0
    have h1 := hf0 0 f hf
    rw [ht, ho, n2, List.getElem?_eq_getElem (show 0 < ys0.length by omega)] at h1
    obtain ⟨k, e1, e2, _⟩ := DataW.trod_int u2 h1
    have e3 := congrArg (fun l => l[0]?) em0
    simp only [List.getElem?_map, List.getElem?_eq_getElem (show 0 < ys0.length by omega), Option.map_some, e2] at e3
    have e4 : k = 32 := by
      have e5 := Option.some.inj e3
      simp only [DataW.lit.injEq, Lit.int.injEq, true_and] at e5
      exact e5.symm
    subst e4
    exact hcell 0 _ (at_in (j := 0) (i := 0) (at_of e1) (by decide))
  have c01 : W.cell? ⟨0, 1, none⟩ = some (.int .i64 23) := by
    obtain ⟨f, hf, ht, ho⟩ := fd1
    have h1 := hf0 1 f hf
    rw [ht, ho, n2, List.getElem?_eq_getElem (show 1 < ys0.length by omega)] at h1
    obtain ⟨k, e1, e2, _⟩ := DataW.trod_int u2 h1
    have e3 := congrArg (fun l => l[1]?) em0
    simp only [List.getElem?_map, List.getElem?_eq_getElem (show 1 < ys0.length by omega), Option.map_some, e2] at e3
    have e4 : k = 23 := by
      have e5 := Option.some.inj e3
      simp only [DataW.lit.injEq, Lit.int.injEq, true_and] at e5
      exact e5.symm
    subst e4
    exact hcell 1 _ (at_in (j := 0) (i := 1) (at_of e1) (by decide))
  have c02 : W.cell? ⟨0, 2, none⟩ = some (.int .i64 (-149)) := by
    obtain ⟨f, hf, ht, ho⟩ := fd2
    have h1 := hf0 2 f hf
    rw [ht, ho, n2, List.getElem?_eq_getElem (show 2 < ys0.length by omega)] at h1
    obtain ⟨k, e1, e2, _⟩ := DataW.trod_int u2 h1
    have e3 := congrArg (fun l => l[2]?) em0
    simp only [List.getElem?_map, List.getElem?_eq_getElem (show 2 < ys0.length by omega), Option.map_some, e2] at e3
    have e4 : k = (-149) := by
      have e5 := Option.some.inj e3
      simp only [DataW.lit.injEq, Lit.int.injEq, true_and] at e5
      exact e5.symm
    subst e4
    exact hcell 2 _ (at_in (j := 0) (i := 2) (at_of e1) (by decide))
  have c03 : W.cell? ⟨0, 3, none⟩ = some (.int .u64 2143289344) := by
    obtain ⟨f, hf, ht, ho⟩ := fd3
    have h1 := hf0 3 f hf
    rw [ht, ho, n22, List.getElem?_eq_getElem (show 3 < ys0.length by omega)] at h1
    obtain ⟨k, e1, e2, _⟩ := DataW.trod_int u22 h1
    have e3 := congrArg (fun l => l[3]?) em0
    simp only [List.getElem?_map, List.getElem?_eq_getElem (show 3 < ys0.length by omega), Option.map_some, e2] at e3
    have e4 : k = 2143289344 := by
      have e5 := Option.some.inj e3
      simp only [DataW.lit.injEq, Lit.int.injEq, true_and] at e5
      exact e5.symm
    subst e4
    exact hcell 3 _ (at_in (j := 0) (i := 3) (at_of e1) (by decide))
  have hj1 := hel 1 (by decide)
  rw [n56, List.getElem?_eq_getElem (show 1 < xs.length by omega)] at hj1
  have ej1 := congrArg (fun l => l[1]?) hmap
  simp only [List.getElem?_map, List.getElem?_eq_getElem (show 1 < xs.length by omega), Option.map_some] at ej1
  have ej1 := Option.some.inj ej1
  obtain ⟨ys1, m1, _, hy1, hl1, hlen1, hf1⟩ := DataW.trod_struct u56 hj1
  rw [hy1] at ej1
  have em1 : [(DataW.lit (.int .i64 64) : DataW Unit), .lit (.int .i64 52), .lit (.int .i64 (-1074)), .lit (.int .u64 9221120237041090560)] = ys1.map (·.1) := by injection ej1
  rw [f56] at hlen1
  have c10 : W.cell? ⟨0, 4, none⟩ = some (.int .i64 64) := by
    obtain ⟨f, hf, ht, ho⟩ := fd0
    have h1 := hf1 0 f hf
    rw [ht, ho, n2, List.getElem?_eq_getElem (show 0 < ys1.length by omega)] at h1
    obtain ⟨k, e1, e2, _⟩ := DataW.trod_int u2 h1
    have e3 := congrArg (fun l => l[0]?) em1
    simp only [List.getElem?_map, List.getElem?_eq_getElem (show 0 < ys1.length by omega), Option.map_some, e2] at e3
    have e4 : k = 64 := by
      have e5 := Option.some.inj e3
      simp only [DataW.lit.injEq, Lit.int.injEq, true_and] at e5
      exact e5.symm
    subst e4
    exact hcell 4 _ (at_in (j := 4) (i := 0) (at_of e1) (by decide))
  have c11 : W.cell? ⟨0, 5, none⟩ = some (.int .i64 52) := by
    obtain ⟨f, hf, ht, ho⟩ := fd1
    have h1 := hf1 1 f hf
    rw [ht, ho, n2, List.getElem?_eq_getElem (show 1 < ys1.length by omega)] at h1
    obtain ⟨k, e1, e2, _⟩ := DataW.trod_int u2 h1
    have e3 := congrArg (fun l => l[1]?) em1
    simp only [List.getElem?_map, List.getElem?_eq_getElem (show 1 < ys1.length by omega), Option.map_some, e2] at e3
    have e4 : k = 52 := by
      have e5 := Option.some.inj e3
      simp only [DataW.lit.injEq, Lit.int.injEq, true_and] at e5
      exact e5.symm
    subst e4
    exact hcell 5 _ (at_in (j := 4) (i := 1) (at_of e1) (by decide))
  have c12 : W.cell? ⟨0, 6, none⟩ = some (.int .i64 (-1074)) := by
    obtain ⟨f, hf, ht, ho⟩ := fd2
    have h1 := hf1 2 f hf
    rw [ht, ho, n2, List.getElem?_eq_getElem (show 2 < ys1.length by omega)] at h1
    obtain ⟨k, e1, e2, _⟩ := DataW.trod_int u2 h1
    have e3 := congrArg (fun l => l[2]?) em1
    simp only [List.getElem?_map, List.getElem?_eq_getElem (show 2 < ys1.length by omega), Option.map_some, e2] at e3
    have e4 : k = (-1074) := by
      have e5 := Option.some.inj e3
      simp only [DataW.lit.injEq, Lit.int.injEq, true_and] at e5
      exact e5.symm
    subst e4
    exact hcell 6 _ (at_in (j := 4) (i := 2) (at_of e1) (by decide))
  have c13 : W.cell? ⟨0, 7, none⟩ = some (.int .u64 9221120237041090560) := by
    obtain ⟨f, hf, ht, ho⟩ := fd3
    have h1 := hf1 3 f hf
    rw [ht, ho, n22, List.getElem?_eq_getElem (show 3 < ys1.length by omega)] at h1
    obtain ⟨k, e1, e2, _⟩ := DataW.trod_int u22 h1
    have e3 := congrArg (fun l => l[3]?) em1
    simp only [List.getElem?_map, List.getElem?_eq_getElem (show 3 < ys1.length by omega), Option.map_some, e2] at e3
    have e4 : k = 9221120237041090560 := by
      have e5 := Option.some.inj e3
      simp only [DataW.lit.injEq, Lit.int.injEq, true_and] at e5
      exact e5.symm
    subst e4
    exact hcell 7 _ (at_in (j := 4) (i := 3) (at_of e1) (by decide))
  refine ⟨⟨⟨c00, c01, c02, c03⟩, c10, c11, c12, c13⟩, World.block_lt_of_cell? W _ c00⟩

/-- The door's own heap meets the condition. -/
theorem door_met (os : Os) (args : Array Value) : laidMetH Tryd.prog [("loop.example/s00119/impl.floatFormats", Rows.laid_loop_example_s00119_impl_floatFormats)] ((World.doorLaid Tryd.prog 400 os).forCall (fun _ _ => 0) ⟨#[], args, []⟩).memory :=
  laidMetH_of_parts3 (fuel := 8) (laidMet_of_run' 8 (by kernel_rfl) (by kernel_rfl)) (by kernel_rfl) (by kernel_rfl)
end Go.Proofs.YthmppcfhbbjhlaaDoor
