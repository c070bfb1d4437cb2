import Derived.Test.YtngepdhhdbhglaaGreatDoorN2
import Derived.Test.YtngepdhhdbhglaaGreatDoorN3
import Derived.Test.YtngepdhhdbhglaaGreatDoorN4
set_option linter.all false
set_option linter.unusedVariables false
namespace Go.Proofs.YtngepdhhdbhglaaGreatDoor
open Go.RowKit
theorem pick (L : List ByteArray) (i : Nat) (h : i < L.length) : L[i]? = some (L.getD i ⟨#[]⟩) := by simp [List.getD, List.getElem?_eq_getElem h]
theorem sname_c (p : Int) (w : World) : Calls Tryz.prog 40 #[.int .i64 p] w fun e w' => e = .returned (.string (rowOf p).nm) ∧ Below w.heap.size w w' := by
  have hc : (p ≤ -1) ∨ (192 ≤ p) ∨ (69 ≤ p ∧ p ≤ 69) ∨ (80 ≤ p ∧ p ≤ 80) ∨ (70 ≤ p ∧ p ≤ 79) ∨ (81 ≤ p ∧ p ≤ 90) ∨ (91 ≤ p ∧ p ≤ 96) ∨ (97 ≤ p ∧ p ≤ 102) ∨ (103 ≤ p ∧ p ≤ 120) ∨ (121 ≤ p ∧ p ≤ 138) ∨ (139 ≤ p ∧ p ≤ 152) ∨ (153 ≤ p ∧ p ≤ 166) ∨ (167 ≤ p ∧ p ≤ 191) ∨ (0 ≤ p ∧ p ≤ 68) := by omega
  rcases hc with h | h | h | h | h | h | h | h | h | h | h | h | h | h
  · have e : rowOf p = Z0 := by simp only [rowOf, show ¬ (0 ≤ p ∧ p < 192) by omega, if_false]
    rw [e]; exact sn_z0 p w h
  · have e : rowOf p = Z0 := by simp only [rowOf, show ¬ (0 ≤ p ∧ p < 192) by omega, if_false]
    rw [e]; exact sn_z1 p w h
  · obtain rfl : p = 69 := by omega
    exact sn_x 69 w (by omega) (by omega)
  · obtain rfl : p = 80 := by omega
    exact sn_y 80 w (by omega) (by omega)
  · have e := of_decide_eq_true (rng 70 10 (fun i => decide ((tbl.getD i Z0).nm = (⟨#[105, 51, 50, 46]⟩ ++ LTests.getD (i - 70) ⟨#[]⟩ : ByteArray) ∧ (LTests.getD (i - 70) ⟨#[]⟩).size ≤ 100)) (by decide +kernel) p (by omega) (by omega))
    have e' : (rowOf p).nm = (tbl.getD p.toNat Z0).nm := by
      simp only [rowOf, show (0 ≤ p ∧ p < 192) by omega, and_self, if_true]
    rw [e', e.1]
    exact sn_a p (p.toNat - 70) _ w h.1 h.2 (by omega) (pick LTests _ (by show _ < 10; omega)) e.2
  · have e := of_decide_eq_true (rng 81 10 (fun i => decide ((tbl.getD i Z0).nm = (⟨#[105, 54, 52, 46]⟩ ++ LTests.getD (i - 81) ⟨#[]⟩ : ByteArray) ∧ (LTests.getD (i - 81) ⟨#[]⟩).size ≤ 100)) (by decide +kernel) p (by omega) (by omega))
    have e' : (rowOf p).nm = (tbl.getD p.toNat Z0).nm := by
      simp only [rowOf, show (0 ≤ p ∧ p < 192) by omega, and_self, if_true]
    rw [e', e.1]
    exact sn_b p (p.toNat - 81) _ w h.1 h.2 (by omega) (pick LTests _ (by show _ < 10; omega)) e.2
  · have e := of_decide_eq_true (rng 91 6 (fun i => decide ((tbl.getD i Z0).nm = (⟨#[102, 51, 50, 46]⟩ ++ LT6.getD (i - 91) ⟨#[]⟩ : ByteArray) ∧ (LT6.getD (i - 91) ⟨#[]⟩).size ≤ 100)) (by decide +kernel) p (by omega) (by omega))
    have e' : (rowOf p).nm = (tbl.getD p.toNat Z0).nm := by
      simp only [rowOf, show (0 ≤ p ∧ p < 192) by omega, and_self, if_true]
    rw [e', e.1]
    exact sn_c p (p.toNat - 91) _ w h.1 h.2 (by omega) (pick LT6 _ (by show _ < 6; omega)) e.2
  · have e := of_decide_eq_true (rng 97 6 (fun i => decide ((tbl.getD i Z0).nm = (⟨#[102, 54, 52, 46]⟩ ++ LT6.getD (i - 97) ⟨#[]⟩ : ByteArray) ∧ (LT6.getD (i - 97) ⟨#[]⟩).size ≤ 100)) (by decide +kernel) p (by omega) (by omega))
    have e' : (rowOf p).nm = (tbl.getD p.toNat Z0).nm := by
      simp only [rowOf, show (0 ≤ p ∧ p < 192) by omega, and_self, if_true]
    rw [e', e.1]
    exact sn_d p (p.toNat - 97) _ w h.1 h.2 (by omega) (pick LT6 _ (by show _ < 6; omega)) e.2
  · have e := of_decide_eq_true (rng 103 18 (fun i => decide ((tbl.getD i Z0).nm = (⟨#[105, 51, 50, 46]⟩ ++ LInts.getD (i - 103) ⟨#[]⟩ : ByteArray) ∧ (LInts.getD (i - 103) ⟨#[]⟩).size ≤ 100)) (by decide +kernel) p (by omega) (by omega))
    have e' : (rowOf p).nm = (tbl.getD p.toNat Z0).nm := by
      simp only [rowOf, show (0 ≤ p ∧ p < 192) by omega, and_self, if_true]
    rw [e', e.1]
    exact sn_e p (p.toNat - 103) _ w h.1 h.2 (by omega) (pick LInts _ (by show _ < 18; omega)) e.2
  · have e := of_decide_eq_true (rng 121 18 (fun i => decide ((tbl.getD i Z0).nm = (⟨#[105, 54, 52, 46]⟩ ++ LInts.getD (i - 121) ⟨#[]⟩ : ByteArray) ∧ (LInts.getD (i - 121) ⟨#[]⟩).size ≤ 100)) (by decide +kernel) p (by omega) (by omega))
    have e' : (rowOf p).nm = (tbl.getD p.toNat Z0).nm := by
      simp only [rowOf, show (0 ≤ p ∧ p < 192) by omega, and_self, if_true]
    rw [e', e.1]
    exact sn_f p (p.toNat - 121) _ w h.1 h.2 (by omega) (pick LInts _ (by show _ < 18; omega)) e.2
  · have e := of_decide_eq_true (rng 139 14 (fun i => decide ((tbl.getD i Z0).nm = (⟨#[102, 51, 50, 46]⟩ ++ LFloats.getD (i - 139) ⟨#[]⟩ : ByteArray) ∧ (LFloats.getD (i - 139) ⟨#[]⟩).size ≤ 100)) (by decide +kernel) p (by omega) (by omega))
    have e' : (rowOf p).nm = (tbl.getD p.toNat Z0).nm := by
      simp only [rowOf, show (0 ≤ p ∧ p < 192) by omega, and_self, if_true]
    rw [e', e.1]
    exact sn_g p (p.toNat - 139) _ w h.1 h.2 (by omega) (pick LFloats _ (by show _ < 14; omega)) e.2
  · have e := of_decide_eq_true (rng 153 14 (fun i => decide ((tbl.getD i Z0).nm = (⟨#[102, 54, 52, 46]⟩ ++ LFloats.getD (i - 153) ⟨#[]⟩ : ByteArray) ∧ (LFloats.getD (i - 153) ⟨#[]⟩).size ≤ 100)) (by decide +kernel) p (by omega) (by omega))
    have e' : (rowOf p).nm = (tbl.getD p.toNat Z0).nm := by
      simp only [rowOf, show (0 ≤ p ∧ p < 192) by omega, and_self, if_true]
    rw [e', e.1]
    exact sn_h p (p.toNat - 153) _ w h.1 h.2 (by omega) (pick LFloats _ (by show _ < 14; omega)) e.2
  · have e := of_decide_eq_true (rng 167 25 (fun i => decide ((tbl.getD i Z0).nm = (LConv.getD (i - 167) ⟨#[]⟩ : ByteArray) ∧ (LConv.getD (i - 167) ⟨#[]⟩).size ≤ 100)) (by decide +kernel) p (by omega) (by omega))
    have e' : (rowOf p).nm = (tbl.getD p.toNat Z0).nm := by
      simp only [rowOf, show (0 ≤ p ∧ p < 192) by omega, and_self, if_true]
    rw [e', e.1]
    exact sn_i p (p.toNat - 167) _ w h.1 h.2 (by omega) (pick LConv _ (by show _ < 25; omega)) e.2
  · have e := of_decide_eq_true (rng 0 69 (fun i => decide ((tbl.getD i Z0).nm = (LNames.getD (i - 0) ⟨#[]⟩ : ByteArray) ∧ (LNames.getD (i - 0) ⟨#[]⟩).size ≤ 100)) (by decide +kernel) p (by omega) (by omega))
    have e' : (rowOf p).nm = (tbl.getD p.toNat Z0).nm := by
      simp only [rowOf, show (0 ≤ p ∧ p < 192) by omega, and_self, if_true]
    rw [e', e.1]
    exact sn_n p (p.toNat - 0) _ w h.1 h.2 (by omega) (pick LNames _ (by show _ < 69; omega)) e.2
end Go.Proofs.YtngepdhhdbhglaaGreatDoor

