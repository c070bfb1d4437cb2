import Derived.Test.YtbdcgifdggpnlaaRows
import Derived.Test.YtbdcgifdggpnlaaTE4
import Derived.Deep.Slices
import Derived.WalkKit
import Derived.ProofKit
import Derived.OpenShut
import Derived.ShutString
import Derived.ChangeOld
import Derived.Below
set_option linter.all false
namespace Go.Proofs.Ytbdcgifdggpnlaa.fnExactTypeEq
open Go.ChangeShapes Go.WideShapes Go.ChangeAt Go.RowKit
open Go.ChangeMaps (open_string shut_string)
set_option linter.unusedVariables false

theorem own : ownKnob Try.prog.godebug = none := by kernel_rfl
theorem laidOut : laidOutB Try.prog = true := by kernel_rfl

theorem c2' : Try.prog.cellsOf 2 = 1 := by kernel_rfl
theorem c28' : Try.prog.cellsOf 28 = 1 := by kernel_rfl
theorem cF' : Try.prog.cellsOf 30 = 2 := by kernel_rfl
theorem has_take {W : World} {a : Addr} {len : Nat} {zs : List Int} (hl : len ≤ zs.length) (hc : ∀ i, i < zs.length → W.cell? (a.add i) = some (.int .i64 (zs.getD i 0))) : Has W (some a) (zs.take len) := by
  by_cases h0 : len = 0
  · subst h0; exact .inl (by simp)
  · obtain ⟨b, off, spot⟩ := a
    have h1 := hc 0 (by omega)
    have hspot : spot = none := by simpa [Addr.add] using World.cell?_spot h1
    subst hspot
    refine .inr ⟨b, off, rfl, fun i hi => ?_⟩
    have hi' : i < len := by simp at hi; omega
    have h2 := hc i (by omega)
    have e : (zs.take len).getD i 0 = zs.getD i 0 := by simp [List.getD, hi']
    rw [e]
    rwa [Addr.add_lit] at h2
theorem open_row {H : Type} {enc : TypeId × Value → H} {W : World} {n : Nat} {v : Value} {y : DataW H × List MemPlace} (g : DataW.trod enc Try.prog W 0 (fun _ => true) true n 28 [v] = some y) :
    ∃ (a : Option Addr) (c : Nat) (l : List Int), v = .slice a l.length c ∧ l.length ≤ maxLen ∧ Has W a l := by
  rcases open_ints Try.underlying28 Try.underlying2 c2' g with ⟨hcs, _⟩ | ⟨x, len, cap, zs, hcs, _, hl, hm, hz, _, hc, _⟩
  · simp at hcs
    subst hcs
    exact ⟨none, 0, [], rfl, Nat.zero_le _, .inl rfl⟩
  · simp at hcs hz
    subst hcs
    exact ⟨some x, cap, zs.take len, by simp; omega, by simp; omega, has_take (by omega) hc⟩
set_option maxRecDepth 100000 in
theorem open_ft {H : Type} {enc : TypeId × Value → H} {W : World} {r : Reach} {b0 : Nat} {v : Value} {d : DataW H} {p : List MemPlace} (hv : Value.okWide Try.prog W r b0 30 v) (h : DataW.Trod enc Try.prog W 0 (fun _ => true) true 30 v d p) :
    ∃ (pa ra : Option Addr) (pc rc : Nat) (xs ys : List Int), v = .agg #[.slice pa xs.length pc, .slice ra ys.length rc] ∧ xs.length ≤ maxLen ∧ ys.length ≤ maxLen ∧ Has W pa xs ∧ Has W ra ys := by
  obtain ⟨cs, rfl, hsz⟩ := okWide_struct Try.underlying30 hv
  rw [cF'] at hsz
  obtain ⟨fuel, hf0⟩ := h
  obtain ⟨xs, k, hk, hxy, _, hxl, hf⟩ := DataW.trod_struct Try.underlying30 hf0
  obtain ⟨cl⟩ := cs
  match xs, hxl, cl, hsz with
  | [y0, y1], _, [v0, v1], _ =>
    have g0 := hf 0 _ rfl
    have g1 := hf 1 _ rfl
    simp [c28', Value.cells] at g0 g1
    obtain ⟨pa, pc, l, rfl, hm, hH⟩ := open_row g0
    obtain ⟨ra, rc, l', rfl, hm', hH'⟩ := open_row g1
    exact ⟨pa, ra, pc, rc, l, l', rfl, hm, hm', hH, hH'⟩

theorem walk (v0 v1 : Value) (w : World) (h : ∃ (pa ra : Option Addr) (pc rc : Nat) (xs ys : List Int), v0 = .agg #[.slice pa xs.length pc, .slice ra ys.length rc] ∧ xs.length ≤ maxLen ∧ ys.length ≤ maxLen ∧ Has w pa xs ∧ Has w ra ys) (h' : ∃ (pa ra : Option Addr) (pc rc : Nat) (xs ys : List Int), v1 = .agg #[.slice pa xs.length pc, .slice ra ys.length rc] ∧ xs.length ≤ maxLen ∧ ys.length ≤ maxLen ∧ Has w pa xs ∧ Has w ra ys) :
    Calls Try.prog 4 #[v0, v1] w fun e w' => e = .returned (.bool true) ∧ Below w.heap.size w w' := by
  obtain ⟨pa, ra, pc, rc, xs, ys, rfl, k1, k2, k3, k4⟩ := h
  obtain ⟨pa', ra', pc', rc', xs', ys', rfl, j1, j2, j3, j4⟩ := h'
  unfold maxLen at k1 k2 j1 j2
  exact lawTE pa ra pa' ra' pc rc pc' rc' xs ys xs' ys' w (by omega) (by omega) (by omega) (by omega) k3 k4 j3 j4

set_option maxRecDepth 100000 in
theorem lifted (os : Os) (started : os.Started) (H : Type) (enc : TypeId × Value → H) :
    ReturnsInHanded {} Try.checked os 4 .any (Rows.fnExactTypeEqSpec.pre6 enc Try.prog Try.f4 Rows.fnExactTypeEqRow.domain false) (Rows.fnExactTypeEqSpec.post enc Try.prog Try.f4 false true false false) := by
  refine returnsInHanded_of_change (C := Try.checked) own started (by kernel_rfl) Try.func4
    (ChangeSpec.witness6 (enc := enc) (C := Try.checked) false ⟨#[], #[.agg #[.slice none 0 0, .slice none 0 0], .agg #[.slice none 0 0, .slice none 0 0]], []⟩ 8 (by kernel_rfl) (by kernel_rfl) (by kernel_rfl) (by kernel_rfl)) ?_
  intro W base args ds gs before hval0 hW hcnd _
  have hval : ∀ (j : Nat) t v, Try.f4.params[j]? = some t → args[j]? = some v → Value.okWide Try.prog W .any base t v := hval0
  have hW' := hW
  obtain ⟨p, q, hA0, hV, rfl, hfz, hnd⟩ := hW
  have hA : DataW.TrodAll enc Try.prog W 0 (fun _ => true) true Try.f4.params.toList args.toList ds p := hA0
  rw [Try.params4] at hA hval
  obtain ⟨v0, vs0, d0, ds0, p0, q0, hargs, rfl, rfl, h0, r0⟩ := trodAll_cons hA
  obtain ⟨v1, vs1, d1, ds1, p1, q1, hargs1, rfl, rfl, h1, r1⟩ := trodAll_cons r0
  obtain ⟨rfl, rfl, rfl⟩ := trodAll_nil r1
  obtain rfl : args = #[v0, v1] := by cases args; simp_all
  obtain ⟨rfl, rfl⟩ := trodVars_none hV
  have k0 := h0
  have k1 := h1
  have lt0 : ∀ x ∈ p0, x.block < W.heap.size := by obtain ⟨m, hm⟩ := k0; exact DataW.trod_lt m _ _ _ hm
  have lt1 : ∀ x ∈ p1, x.block < W.heap.size := by obtain ⟨m, hm⟩ := k1; exact DataW.trod_lt m _ _ _ hm
  have w0 := open_ft (hval 0 30 v0 rfl rfl) h0
  have w1 := open_ft (hval 1 30 v1 rfl rfl) h1
  clear hA0 hval0
  refine (walk v0 v1 W w0 w1).mono fun e W' ⟨he, bel⟩ => ?_
  subst he
  exact ⟨_, rfl, _, _, _, [], _, [], hW', trodAll_mk1 (shut_bool Try.underlying4 _), (trodAll_cons_mk (Below.trod laidOut (by kernel_rfl) (of_decide_eq_true (by kernel_rfl)) k0 bel lt0) (trodAll_cons_mk (Below.trod laidOut (by kernel_rfl) (of_decide_eq_true (by kernel_rfl)) k1 bel lt1) trodAll_mk0)), rfl, bel.frame _, fun h => by cases h⟩

theorem over : Rows.fnExactTypeEqRow.holds Try.pinned (OpenSpec.ofChange Rows.fnExactTypeEqSpec) :=
  OpenClaim.holds_of_wide 4 Try.f4 rfl rfl rfl rfl rfl rfl rfl ⟨rfl, rfl, rfl, rfl, rfl⟩ rfl rfl rfl rfl rfl (by kernel_rfl) Try.func4 (by kernel_rfl)
    (of_decide_eq_true (by kernel_rfl)) (by unfold Func.isWrapper; first | (rw [if_pos (by decide +kernel)]; kernel_rfl) | (rw [if_neg (by decide +kernel)]; exact ⟨rfl, rfl⟩))
    (fun os started H enc _ => lifted os started H enc)

end Go.Proofs.Ytbdcgifdggpnlaa.fnExactTypeEq
namespace Go.Proofs.Ytbdcgifdggpnlaa
theorem fnExactTypeEq_holds : Rows.FnExactTypeEqSaid := fnExactTypeEq.over
#print axioms fnExactTypeEq_holds
end Go.Proofs.Ytbdcgifdggpnlaa
