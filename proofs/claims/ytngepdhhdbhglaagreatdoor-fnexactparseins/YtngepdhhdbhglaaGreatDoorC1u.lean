import Derived.Test.YtngepdhhdbhglaaGreatDoorPn
import Derived.Maps.Own
import Derived.Maps.OwnOps
import Derived.Maps.OwnSet
set_option linter.all false
set_option linter.unusedVariables false
namespace Go.Proofs.YtngepdhhdbhglaaGreatDoor
open Go.RowKit Go.WideMaps Go.Maps
set_option maxRecDepth 100000
def nm (k : Nat) : ByteArray := (rowOf k).nm
def find : Nat → List UInt8 → Option Nat
  | 0, _ => none
  | k + 1, s => if (nm k).data.toList = s ∧ s ≠ [] then some k else find k s
def Good (D : DataW Unit) (k : Nat) : Prop := IsMap D ∧ ∀ s, has D (.string s) = (find k s).isSome ∧ ∀ z, D.atKey (.string s) z = (match find k s with | some j => .lit (.int .i64 (j : Int)) | none => z)
theorem Good.start : Good (.map []) 0 := ⟨isMap_empty, fun s => ⟨rfl, fun z => rfl⟩⟩
theorem Good.put {D : DataW Unit} {k : Nat} (h : Good D k) (hn : (nm k).data.toList ≠ []) : Good (D.put (.string (nm k).data.toList) (.lit (.int .i64 (k : Int)))) (k + 1) := by
  refine ⟨h.1.put _ _, fun s => ?_⟩
  by_cases e : (nm k).data.toList = s
  · have hf : find (k + 1) s = some k := by simp only [find, e]; rw [if_pos ⟨trivial, e ▸ hn⟩]
    rw [hf, e]
    exact ⟨has_put_same h.1 (by simp [WideAt.IsKeyLit]) _, fun z => atKey_put_same h.1 (by simp [WideAt.IsKeyLit]) _ _⟩
  · have hf : find (k + 1) s = find k s := by simp only [find]; rw [if_neg (fun x => e x.1)]
    have hne : (Lit.string s) ≠ Lit.string (nm k).data.toList := fun x => e (by injection x with x; exact x.symm)
    rw [hf]
    exact ⟨(has_put_other hne _).trans (h.2 s).1, fun z => (atKey_put_other hne _ _).trans ((h.2 s).2 z)⟩
theorem Good.skip {D : DataW Unit} {k : Nat} (h : Good D k) (hn : (nm k).data.toList = []) : Good D (k + 1) := by
  refine ⟨h.1, fun s => ?_⟩
  have hf : find (k + 1) s = find k s := by
    simp only [find]; rw [if_neg]; rintro ⟨a, b⟩; exact b (a ▸ hn)
  rw [hf]; exact h.2 s
theorem owns_below {P : Program} {kt : TypeId} {R : Value → Option (DataW Unit × List MemPlace)} {b n : Nat} {D : DataW Unit} {w w' : World} (h : w.ownsMap P kt R b n D) (hb : b < w.heap.size) (hB : Below w.heap.size w w') : w'.ownsMap P kt R b n D := by
  obtain ⟨es, clock, e, r⟩ := h
  exact ⟨es, clock, (hB.block b hb).trans e, r⟩
theorem owns_more {P : Program} {kt : TypeId} {R : Value → Option (DataW Unit × List MemPlace)} {b n : Nat} {D : DataW Unit} {w : World} (h : w.ownsMap P kt R b n D) : w.ownsMap P kt R b (n + 1) D := by
  obtain ⟨es, clock, e, r1, r2, r3⟩ := h
  exact ⟨es, clock, e, r1, by omega, r3⟩
theorem owns_lt {P : Program} {kt : TypeId} {R : Value → Option (DataW Unit × List MemPlace)} {b n : Nat} {D : DataW Unit} {w : World} (h : w.ownsMap P kt R b n D) : b < w.heap.size := by
  obtain ⟨es, clock, e, r⟩ := h
  rcases Nat.lt_or_ge b w.heap.size with h' | h'
  · exact h'
  · rw [Array.getElem?_eq_none h'] at e; cases e
theorem law9 : Keyed Tryz.prog 9 := string_keyed Tryz.underlying9
theorem zero2 (w : World) : (zeroValue 2).run Tryz.prog w = .ok (.int .i64 0) w := by kernel_rfl
theorem nm_size (k : Nat) : (nm k).size ≤ 100 := by
  by_cases h : k < 192
  · have e := of_decide_eq_true (rng 0 192 (fun i => decide ((tbl.getD i Z0).nm.size ≤ 100)) (by decide +kernel) (k : Int) (by omega) (by omega))
    simpa only [nm, rowOf, show (0 : Int) ≤ k ∧ (k : Int) < 192 by omega, and_self, if_true] using e
  · simp only [nm, rowOf, show ¬ ((0 : Int) ≤ k ∧ (k : Int) < 192) by omega, if_false]; decide
abbrev mapT : TypeId := 74
set_option maxHeartbeats 1000000 in
theorem opNames_c (w : World) : Calls Tryz.prog 30 #[] w fun e w' => ∃ D : DataW Unit, e = .returned (.map (some w.heap.size)) ∧ w'.ownsMap Tryz.prog 9 (plainElem Tryz.prog 2) w.heap.size 192 D ∧ Good D 192 ∧ Below w.heap.size w w' := by
  have hmm := @run_makeMap Tryz.prog
  go_enter Tryz.func30, Tryz.ntmps30
  go_wp2
  go_loopw [5] (fun i wr => ∃ k : Nat, k ≤ 192 ∧ i = .int .i64 k ∧ ∃ D : DataW Unit, wr.ownsMap Tryz.prog 9 (plainElem Tryz.prog 2) w.heap.size k D ∧ Good D k ∧ Below w.heap.size w wr)
    (fun i _ => 192 - (intOf i).toNat)
  case atStart => exact ⟨0, Nat.zero_le _, rfl, .map [], World.ownsMap_made _ _ _ _, Good.start, (Below.refl _ _).alloc (Nat.le_refl _) _⟩
  case round =>
    obtain ⟨k, hk, rfl, D, hown, hgood, hnx⟩ := hrel
    by_cases hlt : k < 192
    · have hki : (k : Int) < 192 := by omega
      have hlo := owns_lt hown
      obtain ⟨s, hs⟩ : ∃ s, s = (rowOf (k : Int)).nm := ⟨_, rfl⟩
      have hc := Hid.mk' (iname_c (k : Int) wr)
      rw [← hs] at hc
      have hsz : s.size ≤ 100 := by rw [hs]; exact nm_size k
      have hkey : keyOf Tryz.prog 9 (.string s) = some (.string s.data.toList) := keyOf_string_mk Tryz.underlying9 (by unfold maxLen; omega)
      have hnm : nm k = s := hs.symm
      clear hs
      by_cases he : s.data.toList = []
      · have h0 : s.toList.isEmpty = true := by rw [ByteArray.toList_eq, he]; rfl
        have hg1 := hgood.skip (by rw [hnm]; exact he)
        clear he
        go_wp2_with fail
        refine hc.out.mono ?_
        rintro e w1 ⟨rfl, hb⟩
        have hown1 := owns_below hown hlo hb
        have hnx1 : Below w.heap.size w w1 := hnx.trans (hb.mono (by omega))
        clear hb hnx hown hgood
        go_wp2
        go_roundw
        case rel => exact ⟨k + 1, by omega, by go_num, D, owns_more hown1, hg1, hnx1⟩
        case measure => simp [intOf]; omega
      · have h0 : s.toList.isEmpty = false := by rw [ByteArray.toList_eq]; simpa using he
        have hg1 := hgood.put (by rw [hnm]; exact he)
        rw [hnm] at hg1
        clear he
        go_wp2_with fail
        refine hc.out.mono ?_
        rintro e w1 ⟨rfl, hb⟩
        have hown1 := owns_below hown hlo hb
        have hnx1 : Below w.heap.size w w1 := hnx.trans (hb.mono (by omega))
        clear hb hnx hown hgood
        go_wp2_with (first
          | (at_mapUpdate; refine wpList_mapUpdate_own _ rfl _ _ _ mapT rfl 9 2 law9 Tryz.underlying74 _ w.heap.size k _ rfl hown1 (by unfold maxLen; omega) _ _ _ rfl rfl hkey _ [] (plainElem_int Tryz.underlying2 (WalkArith.wf_i64 (by omega))) ?_)
          | go_in)
        intro w2 hown2 hgrow2
        have hnx2 := hnx1.grown hgrow2 hnx1.size (fun j hj => by cases hj; exact Nat.le_refl _)
        clear hown1 hnx1 hgrow2
        go_wp2
        go_roundw
        case rel => exact ⟨k + 1, by omega, by go_num, _, hown2, hg1, hnx2⟩
        case measure => simp [intOf]; omega
    · have hk2 : k = 192 := by omega
      subst hk2
      go_wp2
      go_ret
      exact ⟨D, rfl, hown, hgood, hnx⟩
end Go.Proofs.YtngepdhhdbhglaaGreatDoor
