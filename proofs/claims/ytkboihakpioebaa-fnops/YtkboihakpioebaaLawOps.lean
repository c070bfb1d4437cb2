import Derived.Test.YtkboihakpioebaaO1
set_option linter.all false
set_option linter.unusedVariables false
namespace Go.Proofs.Ytkboihakpioebaa
open Go.RowKit
set_option maxRecDepth 100000
theorem grown_below {w w1 w2 : World} {g : Nat} (h : Below w.heap.size w w1) (hg : w1.grownBy w2 (some g)) (hw : w.heap.size ≤ g) : Below w.heap.size w w2 :=
  h.grown hg h.size (fun j hj => by cases hj; exact hw)
set_option maxHeartbeats 1000000 in
theorem drawOp_c (a : Option Addr) (cap : Nat) (xs : List Int) (w : World) (hl : xs.length ≤ 1099511627776) (hB : AllB xs) (ha : HasB w a xs) :
    Calls Try.prog 25 #[.slice a xs.length cap] w fun e w' => ∃ v : Int, e = .returned (.int .i64 v) ∧ -3 ≤ v ∧ v ≤ 196 ∧ Below w.heap.size w w' := by
  have CN := Hid.mk' (new_any a cap xs w hl hB ha)
  have CB := Hid.mk' (fun W hC => below_any w.heap.size a cap xs 200 W hl hB hC (by omega) (by omega))
  clear hB ha hl
  go_enter Try.func25, Try.ntmps25
  go_wp2_with fail
  refine CN.out.mono ?_
  rintro e w1 ⟨rfl, hC, hb, _⟩
  go_wp2_with fail
  refine (CB.out _ hC).mono ?_
  rintro e w2 ⟨x, rfl, h0, h1, _, hg⟩
  have hb2 := grown_below hb hg (Nat.le_refl _)
  clear hC hb hg
  go_wp2
  go_ret
  exact ⟨x - 3, by first | rfl | simp, by omega, by omega, hb2⟩
def noX : Bool := (List.range 192).all fun i => decide (((tbl.getD i Z0).nm.data.toList.getLast? ≠ some 120)) || tbl.all fun r => decide (r.nm.data.toList = [] ∨ r.nm.data.toList ≠ (tbl.getD i Z0).nm.data.toList.dropLast)
theorem noX_t : noX = true := by decide +kernel
theorem no_x (j : Nat) (hj : j < 192) (hn : (nm j).data.toList ≠ []) (i : Nat) (hi : i < 192) : (nm i).data.toList ≠ (nm j).data.toList ++ [120] := by
  intro e
  have h := List.all_eq_true.1 noX_t i (by simpa using hi)
  rw [Bool.or_eq_true] at h
  rw [nm_tbl i hi] at e
  rcases h with h | h
  · have h := of_decide_eq_true h
    rw [e] at h
    simp at h
  · have hl : j < tbl.length := hj
    have h := of_decide_eq_true (List.all_eq_true.1 h (tbl[j]) (List.getElem_mem hl))
    have hjt : nm j = (tbl[j]'hl).nm := by
      rw [nm_tbl j hj]; simp [List.getD, List.getElem?_eq_getElem hl]
    rw [e, List.dropLast_concat, ← hjt] at h
    rcases h with h | h
    · exact hn h
    · exact h rfl
theorem codeI_x (j : Nat) (hj : j < 192) (hn : (nm j).data.toList ≠ []) : codeI ((nm j).data.toList ++ [120]) = -1 := by
  simp [codeI, find_none 192 _ (fun i hi => no_x j hj hn i hi)]
theorem codeI_nil : codeI [] = -1 := by
  have : ∀ k, find k [] = none := by
    intro k; induction k with
    | zero => rfl
    | succ k ih => simp only [find]; rw [if_neg (fun x => x.2 rfl)]; exact ih
  simp [codeI, this]
theorem codeI_at (j : Nat) (hj : j < 192) (hn : (nm j).data.toList ≠ []) : codeI (nm j).data.toList = j := by
  simp [codeI, find_at j _ rfl hn 192 hj (Nat.le_refl _)]
/-- All that the law asks of an opcode. -/
theorem op_facts (op : Int) : ((rowOf op).nm.toList.isEmpty = true ∧ formR (rowOf op) = -1 ∧ codeI (rowOf op).nm.data.toList = -1) ∨ ((rowOf op).nm.toList.isEmpty = false ∧ codeI (rowOf op).nm.data.toList = op ∧ codeI ((rowOf op).nm.data.toList ++ [120]) = -1 ∧ (rowOf op).nm.size ≤ 100) := by
  by_cases h0 : (rowOf op).nm.size = 0
  · left
    have e : (rowOf op).nm.data.toList = [] := List.length_eq_zero_iff.1 h0
    refine ⟨by rw [isE]; simpa using h0, by simp [formR, h0], by rw [e]; exact codeI_nil⟩
  · right
    by_cases hr : 0 ≤ op ∧ op < 192
    · obtain ⟨j, rfl⟩ := Int.eq_ofNat_of_zero_le hr.1
      have hj : j < 192 := by omega
      have hn : (nm j).data.toList ≠ [] := fun e => h0 (by show (nm j).data.toList.length = 0; rw [e]; rfl)
      exact ⟨by rw [isE]; simpa using h0, codeI_at j hj hn, codeI_x j hj hn, nm_size j⟩
    · exfalso
      apply h0
      simp only [rowOf, hr, if_false]; rfl
set_option maxHeartbeats 4000000 in
theorem lawOps (a : Option Addr) (cap : Nat) (xs : List Int) (w : World) (hB : AllB xs) (ha : HasB w a xs) :
    Calls Try.prog 8 #[.slice a xs.length cap] w fun e w' => e = .returned (.bool true) ∧ Below w.heap.size w w' := by
  by_cases hl : 1048576 < (xs.length : Int)
  · clear ha hB
    go_enter Try.func8, Try.ntmps8
    go_wp2
    go_ret
    exact ⟨rfl, Below.refl _ _⟩
  · have KD := Hid.mk' (drawOp_c a cap xs w (by omega) hB ha)
    clear ha hB
    go_enter Try.func8, Try.ntmps8
    go_wp2_with fail
    refine KD.out.mono ?_
    rintro e w1 ⟨op, rfl, h1, h2, b1⟩
    have KN := Hid.mk' (iname_c op)
    have KM := Hid.mk' (sname_c op)
    have KF := Hid.mk' (iform_c op)
    have KG := Hid.mk' (sform_c op)
    have KS := Hid.mk' (stype_c op)
    have KI := Hid.mk' (itype_c op)
    have KT := Hid.mk' (ty_len op)
    have KC := Hid.mk' (fun w hs => icode_c (rowOf op).nm w hs)
    have KX := Hid.mk' (fun w hs => icode_c ((rowOf op).nm ++ ⟨#[120]⟩) w hs)
    have hxd : ((rowOf op).nm ++ ⟨#[120]⟩ : ByteArray).data.toList = (rowOf op).nm.data.toList ++ [120] := by simp
    rw [hxd] at KX
    clear hxd KD hl
    rcases op_facts op with ⟨q0, q1, q2⟩ | ⟨q0, q1, q2, q3⟩
    · rw [q1] at KF KG
      rw [q2] at KC
      clear KX KS KI KT q1 q2
      generalize (rowOf op).nm = s at *
      have hv : (s.toList == s.toList) = true := by simp
      have hs0 : s.size ≤ maxLen := by
        rw [isE] at q0
        have := of_decide_eq_true q0
        omega
      go_wp2_with fail
      refine (KN.out _).mono ?_
      rintro e w2 ⟨rfl, b2⟩
      have b2 := b1.trans (b2.mono b1.size)
      go_wp2_with fail
      refine (KM.out _).mono ?_
      rintro e w3 ⟨rfl, b3⟩
      have b3 := b2.trans (b3.mono b2.size)
      go_wp2_with fail
      refine (KF.out _).mono ?_
      rintro e w4 ⟨rfl, b4⟩
      have b4 := b3.trans (b4.mono b3.size)
      go_wp2_with fail
      refine (KG.out _).mono ?_
      rintro e w5 ⟨rfl, rfl⟩
      go_wp2_with fail
      refine (KF.out _).mono ?_
      rintro e w6 ⟨rfl, b6⟩
      have b6 := b4.trans (b6.mono b4.size)
      go_wp2_with fail
      refine (KC.out _ hs0).mono ?_
      rintro e w7 ⟨rfl, b7⟩
      have b7 := b6.trans (b7.mono b6.size)
      go_wp2
      go_ret
      exact ⟨rfl, b7⟩
    · rw [q1] at KC
      rw [q2] at KX
      clear q1 q2
      generalize (rowOf op).nm = s at *
      generalize formR (rowOf op) = f at *
      generalize nz [(rowOf op).a, (rowOf op).b] = X at *
      generalize nz [(rowOf op).g] = Y at *
      obtain ⟨hX, hY⟩ := KT.out
      have hv : (s.toList == s.toList) = true := by simp
      have hs1 : ¬ 9223372036854775807 < s.size + 1 := by omega
      have hs2 : (s ++ ⟨#[120]⟩ : ByteArray).size ≤ maxLen := by
        have : (s ++ ⟨#[120]⟩ : ByteArray).size = s.size + 1 := by simp; rfl
        unfold maxLen; omega
      have hs3 : s.size ≤ maxLen := by unfold maxLen; omega
      go_wp2_with fail
      refine (KN.out _).mono ?_
      rintro e w2 ⟨rfl, b2⟩
      have b2 := b1.trans (b2.mono b1.size)
      go_wp2_with fail
      refine (KM.out _).mono ?_
      rintro e w3 ⟨rfl, b3⟩
      have b3 := b2.trans (b3.mono b2.size)
      go_wp2_with fail
      refine (KF.out _).mono ?_
      rintro e w4 ⟨rfl, b4⟩
      have b4 := b3.trans (b4.mono b3.size)
      go_wp2_with fail
      refine (KG.out _).mono ?_
      rintro e w5 ⟨rfl, rfl⟩
      go_wp2_with fail
      refine (KC.out _ hs3).mono ?_
      rintro e w6 ⟨rfl, b6⟩
      have b6 := b4.trans (b6.mono b4.size)
      go_wp2_with fail
      refine (KX.out _ hs2).mono ?_
      rintro e w7 ⟨rfl, b7⟩
      have b7 := b6.trans (b7.mono b6.size)
      go_wp2_with fail
      refine (KI.out _).mono ?_
      rintro e w8 ⟨p8, r8, rfl, f8, b8⟩
      have b8' := b7.trans (b8.mono b7.size)
      go_wp2_with fail
      refine (KS.out _).mono ?_
      rintro e w9 ⟨p9, r9, rfl, f9, b9⟩
      have f8' := f8.below b9 (Nat.le_refl _)
      have b9' := b8'.trans (b9.mono b8'.size)
      go_wp2_with fail
      refine (teq_c _ _ _ _ _ _ _ _ X Y _ hX hY f8' f9).mono ?_
      rintro e w10 ⟨rfl, b10⟩
      have b10 := b9'.trans (b10.mono b9'.size)
      clear f8 f9 f8' b8 b9 b8' b9' b7 b6 b4 b3 b2 b1
      go_wp2
      go_ret
      exact ⟨rfl, b10⟩
end Go.Proofs.Ytkboihakpioebaa
