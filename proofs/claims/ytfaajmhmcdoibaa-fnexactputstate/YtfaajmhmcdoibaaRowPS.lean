import Derived.Test.YtfaajmhmcdoibaaRows
import Derived.Test.YtfaajmhmcdoibaaOp12
import Derived.WalkKit
import Derived.ProofKit
import Derived.OpenShut
import Derived.ShutString
import Derived.ChangeOld
import Derived.Below
set_option linter.all false
namespace Go.Proofs.Ytfaajmhmcdoibaa.fnExactPutState
open Go.ChangeShapes Go.WideShapes Go.ChangeAt Go.RowKit
open Go.ChangeMaps (open_string shut_string)
set_option linter.unusedVariables false

theorem own : ownKnob Try.prog.godebug = none := by kernel_rfl
theorem laidOut : laidOutB Try.prog = true := by kernel_rfl

set_option maxRecDepth 100000 in
theorem walk (v0 : Value) (w : World) (h : ∃ (x : Sta) (a1 : Option Addr) (c1 : Nat) (a2 : Option Addr) (c2 : Nat), v0 = .agg #[.int .i64 x.st, .int .i64 x.tr, .slice a1 x.stk.length c1, .slice a2 x.frs.length c2] ∧ Sta.Is 0 w x a1 a2 ∧ Sta.LB 9223372036854775807 x ∧ x.Vs) :
    Calls Try.prog 3 #[v0] w fun e w' => e = .returned (.bool true) ∧ Below w.heap.size w w' := by
  obtain ⟨x, a1, c1, a2, c2, rfl, hi, hl, hp⟩ := h
  exact lawPut x a1 c1 a2 c2 w hi hl hp

set_option maxRecDepth 100000 in
theorem open_mod {H : Type} {enc : TypeId × Value → H} {W : World} {r : Reach} {b0 : Nat} {v : Value} {d : DataW H} {p : List MemPlace} (hv : Value.okWide Try.prog W r b0 25 v) (h : DataW.Trod enc Try.prog W 0 (fun _ => true) true 25 v d p) :
    ∃ (x : Sta) (a1 : Option Addr) (c1 : Nat) (a2 : Option Addr) (c2 : Nat), v = .agg #[.int .i64 x.st, .int .i64 x.tr, .slice a1 x.stk.length c1, .slice a2 x.frs.length c2] ∧ Sta.Is 0 W x a1 a2 ∧ Sta.LB 9223372036854775807 x ∧ x.Vs := by
  obtain ⟨cs, rfl, hsz⟩ := okWide_struct Try.underlying25 hv
  obtain ⟨fuel, hf0⟩ := h
  obtain ⟨x, a1, c1, a2, c2, e, hi, hl, hp⟩ := vl2_Sta hf0
  refine ⟨x, a1, c1, a2, c2, ?_, hi, hl, hp⟩
  obtain ⟨cl⟩ := cs
  have e' : cl = [.int .i64 x.st, .int .i64 x.tr, .slice a1 x.stk.length c1, .slice a2 x.frs.length c2] := by simpa [Value.cells] using e
  rw [e']

set_option maxRecDepth 100000 in
theorem lifted (os : Os) (started : os.Started) (H : Type) (enc : TypeId × Value → H) :
    ReturnsInHanded {} Try.checked os 3 .any (Rows.fnExactPutStateSpec.pre6 enc Try.prog Try.f3 Rows.fnExactPutStateRow.domain false) (Rows.fnExactPutStateSpec.post enc Try.prog Try.f3 false true false false) := by
  refine returnsInHanded_of_change (C := Try.checked) own started (by kernel_rfl) Try.func3
    (ChangeSpec.witness6 (enc := enc) (C := Try.checked) false ⟨#[], #[.agg #[.int .i64 0, .int .i64 0, .slice none 0 0, .slice none 0 0]], []⟩ 8 (by kernel_rfl) (by kernel_rfl) (by kernel_rfl) (by kernel_rfl)) ?_
  intro W base args ds gs before hval0 hW hcnd _
  have hval : ∀ (j : Nat) t v, Try.f3.params[j]? = some t → args[j]? = some v → Value.okWide Try.prog W .any base t v := hval0
  have hW' := hW
  obtain ⟨p, q, hA0, hV, rfl, hfz, hnd⟩ := hW
  have hA : DataW.TrodAll enc Try.prog W 0 (fun _ => true) true Try.f3.params.toList args.toList ds p := hA0
  rw [Try.params3] at hA hval
  obtain ⟨v0, vs0, d0, ds0, p0, q0, hargs, rfl, rfl, h0, r0⟩ := trodAll_cons hA
  obtain ⟨rfl, rfl, rfl⟩ := trodAll_nil r0
  obtain rfl : args = #[v0] := by cases args; simp_all
  obtain ⟨rfl, rfl⟩ := trodVars_none hV
  have k0 := h0
  have lt0 : ∀ x ∈ p0, x.block < W.heap.size := by obtain ⟨m, hm⟩ := k0; exact DataW.trod_lt m _ _ _ hm
  have w0 := open_mod (hval 0 25 v0 rfl rfl) h0
  clear hA0 hval0
  refine (walk v0 W w0).mono fun e W' ⟨he, bel⟩ => ?_
  subst he
  exact ⟨_, rfl, _, _, _, [], _, [], hW', trodAll_mk1 (shut_bool Try.underlying4 _), (trodAll_cons_mk (Below.trod laidOut (by kernel_rfl) (of_decide_eq_true (by kernel_rfl)) k0 bel lt0) trodAll_mk0), rfl, bel.frame _, fun h => by cases h⟩

theorem jf0 : OpenClaim.wf (OpenSpec.ofChange Rows.fnExactPutStateSpec) Rows.fnExactPutStateRow = true := by kernel_rfl
theorem jf1 : laidOutB Try.prog = true := by kernel_rfl
theorem jf2 : mapsRowed Try.prog = true := by kernel_rfl
theorem jf3 : (Try.f3.params.all fun x => Try.prog.readableRec x) = true := by kernel_rfl
theorem jf4 : namedTie Try.prog Rows.fnExactPutStateRow.named Rows.fnExactPutStateSpec.vars = true := by kernel_rfl
theorem jf5 : (Rows.fnExactPutStateRow.stops == []) = true := by kernel_rfl
theorem jf6 : (Try.prog.stops == []) = true := by kernel_rfl
theorem jf7 : (Rows.fnExactPutStateRow.knobs == []) = true := by kernel_rfl
theorem jf8 : (Try.prog.stopKnobs == []) = true := by kernel_rfl
theorem jf9 : (Rows.fnExactPutStateRow.inPlace == Try.prog.inPlace 3) = true := by kernel_rfl
theorem jf10 : (Rows.fnExactPutStateRow.unfollowed == Try.prog.unfollowed 3) = true := by kernel_rfl
theorem jf11 : (Rows.fnExactPutStateRow.recurses == Try.prog.recurses 3) = true := by kernel_rfl
theorem jf12 : (Rows.fnExactPutStateRow.named == Try.prog.varsNamed 3) = true := by kernel_rfl
theorem jf13 : (Rows.fnExactPutStateRow.maps == (Try.f3.params.toList ++ DataSpec.varTypes Try.prog Rows.fnExactPutStateSpec.plain).any fun x => Try.prog.mapsRec x) = true := by kernel_rfl
theorem jf14 : (Rows.fnExactPutStateRow.ifaces == (Try.f3.params.toList ++ DataSpec.varTypes Try.prog Rows.fnExactPutStateSpec.plain).any fun x => Try.prog.ifacesRec x) = true := by kernel_rfl
theorem jf15 : (Rows.fnExactPutStateRow.mapsOut == Try.prog.mapsAmong Try.f3.resultTypes.toList) = true := by kernel_rfl
theorem jf16 : (Rows.fnExactPutStateRow.loops == (Try.f3.params.toList ++ DataSpec.varTypes Try.prog Rows.fnExactPutStateSpec.plain).any fun x => Try.prog.loopsFrom x) = true := by kernel_rfl
theorem jf17 : (Rows.fnExactPutStateRow.wideKeys == (Try.f3.params.toList ++ DataSpec.varTypes Try.prog Rows.fnExactPutStateSpec.plain ++ Try.f3.resultTypes.toList).any fun x => Try.prog.wideKeysFrom x) = true := by kernel_rfl
theorem jf18 : (Rows.fnExactPutStateSpec.vars.all fun x => Try.prog.varReadable x) = true := by kernel_rfl
theorem jf19 : (Try.f3.resultTypes.all fun t => Try.prog.readableRec t && decide (t < Try.prog.types.size)) = true := by kernel_rfl
theorem jf20 : (Rows.fnExactPutStateRow.ifacesOut == Try.f3.resultTypes.toList.any fun x => Try.prog.ifacesRec x) = true := by kernel_rfl
theorem jf21 : (Rows.fnExactPutStateRow.loopsOut == Try.f3.resultTypes.toList.any fun x => Try.prog.loopsFrom x) = true := by kernel_rfl
theorem jf22 : (Rows.fnExactPutStateRow.plainKeys == Try.prog.plainKeys) = true := by kernel_rfl
theorem jf23 : Rows.fnExactPutStateRow.shortTexts.isNone = true := by kernel_rfl
theorem jf24 : Try.prog.stopsHeard = true := by kernel_rfl
theorem jf25 : Try.prog.mayEnter = true := by kernel_rfl
theorem jf26 : (Rows.fnExactPutStateRow.lifted == Try.prog.liftsFinal) = true := by kernel_rfl
theorem jf27 : (Try.prog.make == some Rows.fnExactPutStateRow.make) = true := by kernel_rfl
theorem jf28 : (Rows.fnExactPutStateRow.kinds == if Rows.fnExactPutStateRow.domain.isEmpty = true then [] else List.map (fun t => match Try.prog.underlying t with | some (TypeDesc.int k) => some k | x => none) Try.f3.params.toList) = true := by kernel_rfl
theorem jf29 : (Rows.fnExactPutStateRow.pinned == Rows.fnExactPutStateRow.pinnedBy) = true := by kernel_rfl
theorem jf30 : (Rows.fnExactPutStateRow.veiled == (Try.f3.params.toList ++ DataSpec.varTypes Try.prog Rows.fnExactPutStateSpec.plain ++ Try.f3.resultTypes.toList).any fun x => Try.prog.veiledRec x) = true := by kernel_rfl
theorem jf31 : Rows.fnExactPutStateRow.veiledFits Try.prog Try.f3.params.toList (Try.f3.params.toList ++ DataSpec.varTypes Try.prog Rows.fnExactPutStateSpec.plain ++ Try.f3.resultTypes.toList) = true := by kernel_rfl
set_option maxRecDepth 100000 in
theorem facts : joinedFacts Try.prog 3 Try.f3 Rows.fnExactPutStateSpec Rows.fnExactPutStateRow = true := by
  unfold joinedFacts
  simp only [Bool.and_eq_true]
  exact ⟨⟨⟨⟨⟨⟨⟨⟨⟨⟨⟨⟨⟨⟨⟨⟨⟨⟨⟨⟨⟨⟨⟨⟨⟨⟨⟨⟨⟨⟨⟨jf0, jf1⟩, jf2⟩, jf3⟩, jf4⟩, jf5⟩, jf6⟩, jf7⟩, jf8⟩, jf9⟩, jf10⟩, jf11⟩, jf12⟩, jf13⟩, jf14⟩, jf15⟩, jf16⟩, jf17⟩, jf18⟩, jf19⟩, jf20⟩, jf21⟩, jf22⟩, jf23⟩, jf24⟩, jf25⟩, jf26⟩, jf27⟩, jf28⟩, jf29⟩, jf30⟩, jf31⟩
theorem over : Rows.fnExactPutStateRow.holds Try.pinned (OpenSpec.ofChange Rows.fnExactPutStateSpec) :=
  OpenClaim.holds_of_wide 3 Try.f3 rfl rfl rfl rfl rfl rfl rfl ⟨rfl, rfl, rfl, rfl, rfl⟩ rfl rfl rfl rfl rfl (by kernel_rfl) Try.func3 facts
    (of_decide_eq_true (by kernel_rfl)) (by unfold Func.isWrapper; first | (rw [if_pos (by decide +kernel)]; kernel_rfl) | (rw [if_neg (by decide +kernel)]; exact ⟨rfl, rfl⟩))
    (fun os started H enc _ => lifted os started H enc)

end Go.Proofs.Ytfaajmhmcdoibaa.fnExactPutState
namespace Go.Proofs.Ytfaajmhmcdoibaa
theorem fnExactPutState_holds : Rows.FnExactPutStateSaid := fnExactPutState.over
#print axioms fnExactPutState_holds
end Go.Proofs.Ytfaajmhmcdoibaa
