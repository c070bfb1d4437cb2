import Derived.Test.YtgjpgcfpgeonlaaDoorRows
import Derived.Test.YtgjpgcfpgeonlaaDoorCards
import Derived.Test.YtgjpgcfpgeonlaaDoorTie
import Derived.Test.YtgjpgcfpgeonlaaDoorPiL
import Derived.Test.YtgjpgcfpgeonlaaDoorPLd
import Derived.SevenTiedAt
import Derived.WalkKit
import Derived.ProofKit
import Derived.OpenShut
import Derived.ShutString
import Derived.ChangeOld
import Derived.Below
set_option linter.all false
namespace Go.Proofs.YtgjpgcfpgeonlaaDoor.fnExactPrintIns
open Go.ChangeShapes Go.WideShapes Go.ChangeAt Go.RowKit
open Go.ChangeMaps (open_string shut_string)
set_option linter.unusedVariables false

theorem own : ownKnob Tryd.prog.godebug = none := by kernel_rfl
theorem laidOut : laidOutB Tryd.prog = true := by kernel_rfl

set_option maxRecDepth 100000 in
theorem open_inV {H : Type} {enc : TypeId × Value → H} {W : World} {r : Reach} {b0 : Nat} {v : Value} {d : DataW H} {p : List MemPlace} (hv : Value.okWide Tryd.prog W r b0 25 v) (h : DataW.Trod enc Tryd.prog W 0 (fun _ => true) true 25 v d p) :
    ∃ (x : In) (la : Option Addr) (lc : Nat), v = inV x la lc ∧ x.l.length ≤ maxLen ∧ 0 ≤ x.v ∧ x.v ≤ 18446744073709551615 ∧ Has W la x.l := by
  obtain ⟨cs, rfl, hsz⟩ := okWide_struct Tryd.underlying25 hv
  rw [c59'] at hsz
  obtain ⟨fuel, hf0⟩ := h
  obtain ⟨xs, k, hk, hxy, _, hxl, hf⟩ := DataW.trod_struct Tryd.underlying25 hf0
  obtain ⟨cl⟩ := cs
  match xs, hxl, cl, hsz with
  | [y0, y1, y2, y3, y4], _, [v0, v1, v2, v3, v4], _ =>
    have g0 := hf 0 _ rfl
    have g1 := hf 1 _ rfl
    have g2 := hf 2 _ rfl
    have g3 := hf 3 _ rfl
    have g4 := hf 4 _ rfl
    simp [c2', c57', c27', Value.cells] at g0 g1 g2 g3 g4
    obtain ⟨n0, e0, _, _⟩ := DataW.trod_int Tryd.underlying2 g0
    obtain ⟨n1, e1, _, _⟩ := DataW.trod_int Tryd.underlying2 g1
    obtain ⟨n2, e2, _, _⟩ := DataW.trod_int Tryd.underlying2 g2
    obtain ⟨n3, e3, _, w3⟩ := DataW.trod_int Tryd.underlying22 g3
    simp at e0 e1 e2 e3
    subst e0 e1 e2 e3
    obtain ⟨hq, hq'⟩ := bounds_u64 w3
    rcases open_ints Tryd.underlying23 Tryd.underlying2 c2' g4 with ⟨hcs, _⟩ | ⟨x, len, cap, zs, hcs, _, hl, hm, hz, _, hc, _⟩
    · simp at hcs
      subst hcs
      exact ⟨⟨n0, n1, n2, n3, []⟩, none, 0, rfl, Nat.zero_le _, hq, hq', .inl rfl⟩
    · simp at hcs hz
      subst hcs
      exact ⟨⟨n0, n1, n2, n3, zs.take len⟩, some x, cap, by simp [inV]; omega, by simp; omega, hq, hq', has_take (by omega) hc⟩

theorem walk (v0 : Value) (w : World) (hV : Vs w) (h : ∃ (x : In) (la : Option Addr) (lc : Nat), v0 = inV x la lc ∧ x.l.length ≤ maxLen ∧ 0 ≤ x.v ∧ x.v ≤ 18446744073709551615 ∧ Has w la x.l) :
    Calls Tryd.prog 3 #[v0] w fun e w' => e = .returned (.bool true) ∧ Below w.heap.size w w' := by
  obtain ⟨x, la, lc, rfl, hm, h0, h1, hH⟩ := h
  exact lawPrt x la lc w h0 h1 (by unfold maxLen at hm; omega) hH hV

set_option maxRecDepth 100000 in
theorem lifted (os : Os) (started : os.Started) (H : Type) (enc : TypeId × Value → H) :
    ReturnsInHanded {} Tryd.checked os 3 .any (fun w args => (Rows.fnExactPrintInsSpec.pre enc Tryd.prog Tryd.f3 [] false w args ∧ laidMetH Tryd.prog lds w) ∧ sizedMet enc Tryd.prog Tryd.f3 (OpenSpec.ofChange Rows.fnExactPrintInsSpec) false w args) (Rows.fnExactPrintInsSpec.post enc Tryd.prog Tryd.f3 false true false false) := by
  refine returnsInHanded_of_change_and (C := Tryd.checked) (X := fun w _ => laidMetH Tryd.prog lds w) (fun _ _ _ hh h => h.of_heap hh) own started (by kernel_rfl) Tryd.func3
    (ChangeSpec.witness_shaped (enc := enc) (C := Tryd.checked) (os := os) (X := fun w _ => laidMetH Tryd.prog lds w) false (World.doorLaid Tryd.prog 400 os) #[.agg #[.int .i64 0, .int .i64 0, .int .i64 0, .int .u64 0, .slice none 0 0]] 8 rfl (World.shaped_of_RefB (by kernel_rfl) (by kernel_rfl)) (by kernel_rfl) (by kernel_rfl) (by kernel_rfl) (door_met os _)) ?_
  intro W base args ds gs before hval0 hW _ _ hL _
  have hV := of_laid hL
  have hval : ∀ (j : Nat) t v, Tryd.f3.params[j]? = some t → args[j]? = some v → Value.okWide Tryd.prog W .any base t v := hval0
  have hW' := hW
  obtain ⟨p, q, hA0, hVr, rfl, hfz, hnd⟩ := hW
  have hA : DataW.TrodAll enc Tryd.prog W 0 (fun _ => true) true Tryd.f3.params.toList args.toList ds p := hA0
  rw [Tryd.params3] at hA hval
  obtain ⟨v0, vs0, d0, ds0, p0, q0, hargs, rfl, rfl, h0, r0⟩ := trodAll_cons hA
  obtain ⟨rfl, rfl, rfl⟩ := trodAll_nil r0
  obtain rfl : args = #[v0] := by cases args; simp_all
  obtain ⟨rfl, rfl⟩ := trodVars_none hVr
  have k0 := h0
  have lt0 : ∀ x ∈ p0, x.block < W.heap.size := by obtain ⟨m, hm⟩ := k0; exact DataW.trod_lt m _ _ _ hm
  have w0 := open_inV (hval 0 25 v0 rfl rfl) h0
  clear hA0 hval0
  refine (walk v0 W hV w0).mono fun e W' ⟨he, bel⟩ => ?_
  subst he
  exact ⟨_, rfl, _, _, _, [], _, [], hW', trodAll_mk1 (shut_bool Tryd.underlying4 _), (trodAll_cons_mk (Below.trod laidOut (by kernel_rfl) (of_decide_eq_true (by kernel_rfl)) k0 bel lt0) trodAll_mk0), rfl, bel.frame _, fun h => by cases h⟩

theorem over : Rows.fnExactPrintInsRow.holds Tryd.pinned (OpenSpec.ofChange Rows.fnExactPrintInsSpec) :=
  OpenClaim.holds_of_wide 3 Tryd.f3 rfl rfl rfl rfl rfl rfl rfl ⟨rfl, rfl, rfl, rfl, rfl⟩ rfl rfl rfl rfl rfl (by kernel_rfl) Tryd.func3 (by kernel_rfl)
    (of_decide_eq_true (by kernel_rfl)) (by unfold Func.isWrapper; first | (rw [if_pos (by decide +kernel)]; kernel_rfl) | (rw [if_neg (by decide +kernel)]; exact ⟨rfl, rfl⟩))
    (fun os started H enc _ => lifted os started H enc)

theorem card : Rows.FnExactPrintInsCardSaid :=
  Claim7.holds_tied_plain_at .later [] [.data, .data, .data] true (true, "d7cad22b40bfef1d3ba41baceb0e155fda57d8660a35a74c0321847111eb7dd4") false
    over (fun _ h => by cases h) (by kernel_rfl) (fun _ h => by cases h) fnExactPrintIns_row_tie rfl ⟨rfl, rfl⟩ (by kernel_rfl) rfl
    (fun f fn hf hfn => by
      obtain rfl : f = 3 := Option.some.inj ((show Tryd.prog.funcNamed "loop.example/s00119/laws.FnExactPrintIns" = some 3 by kernel_rfl).symm.trans hf) |>.symm
      obtain rfl : fn = Tryd.f3 := (Option.some.inj (Tryd.func3.symm.trans hfn)).symm
      exact ⟨by kernel_rfl, fun j t ht => by
        rw [Tryd.params3] at ht
        have hm : t ∈ [25] := by simpa using Array.mem_of_getElem? ht
        have hall : ([25].all fun u => !Tryd.prog.wantsStandIn u) = true := by kernel_rfl
        exact (show Tryd.prog.wantsStandIn t = false by simpa using List.all_eq_true.1 hall t hm)⟩)
    (by kernel_rfl)
end Go.Proofs.YtgjpgcfpgeonlaaDoor.fnExactPrintIns
namespace Go.Proofs.YtgjpgcfpgeonlaaDoor
theorem fnExactPrintIns_holds : Rows.FnExactPrintInsCardSaid := fnExactPrintIns.card
#print axioms fnExactPrintIns_holds
end Go.Proofs.YtgjpgcfpgeonlaaDoor
