import Derived.Test.YtngepdhhdbhglaaGreatDoorC1u
set_option linter.all false
set_option linter.unusedVariables false
namespace Go.Proofs.YtngepdhhdbhglaaGreatDoor
open Go.RowKit Go.WideMaps Go.Maps
set_option maxRecDepth 100000
def codeI (s : List UInt8) : Int := match find 192 s with | some j => (j : Int) | none => -1
set_option maxHeartbeats 1000000 in
theorem icode_c (s : ByteArray) (w : World) (hs : s.size ≤ maxLen) : Calls Tryz.prog 15 #[.string s] w fun e w' => e = .returned (.int .i64 (codeI s.data.toList)) ∧ Below w.heap.size w w' := by
  have hkey : keyOf Tryz.prog 9 (.string s) = some (.string s.data.toList) := keyOf_string_mk Tryz.underlying9 hs
  cases hf : find 192 s.data.toList with
  | none =>
    have hcI : codeI s.data.toList = -1 := by simp [codeI, hf]
    rw [hcI]
    go_enter Tryz.func15, Tryz.ntmps15
    go_wp2_with fail
    refine (opNames_c w).mono ?_
    rintro e w1 ⟨D, rfl, hown, hgood, hb⟩
    have h1 := (hgood.2 s.data.toList).1
    rw [hf] at h1
    go_wp2_with (first
      | (at_lookup; refine wpList_lookup_own_ok_int _ rfl _ _ mapT rfl 9 2 .i64 law9 Tryz.underlying74 Tryz.underlying2 (zero2 _) w.heap.size 192 _ rfl hown _ _ rfl hkey ?_; intro c hat hwc; rw [h1])
      | go_in)
    go_ret
    exact ⟨rfl, hb⟩
  | some j =>
    have hcI : codeI s.data.toList = j := by simp [codeI, hf]
    rw [hcI]
    go_enter Tryz.func15, Tryz.ntmps15
    go_wp2_with fail
    refine (opNames_c w).mono ?_
    rintro e w1 ⟨D, rfl, hown, hgood, hb⟩
    have h1 := (hgood.2 s.data.toList).1
    have h2 := (hgood.2 s.data.toList).2 (.lit (.int .i64 0))
    rw [hf] at h1 h2
    go_wp2_with (first
      | (at_lookup; refine wpList_lookup_own_ok_int _ rfl _ _ mapT rfl 9 2 .i64 law9 Tryz.underlying74 Tryz.underlying2 (zero2 _) w.heap.size 192 _ rfl hown _ _ rfl hkey ?_; intro c hat hwc; rw [h1]; obtain rfl : c = j := by (rw [h2] at hat; injection hat with hat; injection hat with _ hat; exact hat.symm))
      | go_in)
    go_ret
    exact ⟨rfl, hb⟩
theorem find_none (k : Nat) (s : List UInt8) (h : ∀ j, j < k → (nm j).data.toList ≠ s) : find k s = none := by
  induction k with
  | zero => rfl
  | succ k ih => simp only [find]; rw [if_neg (fun x => h k (by omega) x.1)]; exact ih (fun j hj => h j (by omega))
def distinct : List Row → Bool
  | [] => true
  | r :: l => l.all (fun x => decide (x.nm.data.toList = [] ∨ x.nm.data.toList ≠ r.nm.data.toList)) && distinct l
theorem distinct_tbl : distinct tbl = true := by decide +kernel
theorem distinct_at (l : List Row) (h : distinct l = true) (i j : Nat) (hij : i < j) (hj : j < l.length) : (l.getD j Z0).nm.data.toList = [] ∨ (l.getD j Z0).nm.data.toList ≠ (l.getD i Z0).nm.data.toList := by
  induction l generalizing i j with
  | nil => simp at hj
  | cons r l ih =>
    simp only [distinct, Bool.and_eq_true, List.all_eq_true, decide_eq_true_eq] at h
    cases j with
    | zero => omega
    | succ j =>
      have hj' : j < l.length := by simpa using hj
      cases i with
      | zero =>
        have := h.1 l[j] (List.getElem_mem hj')
        simpa [List.getD, List.getElem?_eq_getElem hj'] using this
      | succ i => simpa using ih h.2 i j (by omega) hj'
theorem nm_tbl (k : Nat) (h : k < 192) : nm k = (tbl.getD k Z0).nm := by
  simp only [nm, rowOf, show (0 : Int) ≤ k ∧ (k : Int) < 192 by omega, and_self, if_true, Int.toNat_natCast]
theorem nm_dist (i j : Nat) (hij : i < j) (hj : j < 192) : (nm j).data.toList = [] ∨ (nm j).data.toList ≠ (nm i).data.toList := by
  rw [nm_tbl i (by omega), nm_tbl j hj]
  exact distinct_at tbl distinct_tbl i j hij hj
theorem find_at (i : Nat) (s : List UInt8) (hi : (nm i).data.toList = s) (hs : s ≠ []) : ∀ k, i < k → k ≤ 192 → find k s = some i
  | 0, h, _ => by omega
  | k + 1, h, hk => by
    by_cases e : i = k
    · subst e; simp only [find]; rw [if_pos ⟨hi, hs⟩]
    · simp only [find]
      rw [if_neg]
      · exact find_at i s hi hs k (by omega) (by omega)
      · rintro ⟨a, b⟩
        rcases nm_dist i k (by omega) (by omega) with c | c
        · exact b (a ▸ c)
        · exact c (a.trans hi.symm)
set_option maxHeartbeats 1000000 in
theorem scode_c (s : ByteArray) (w : World) : Calls Tryz.prog 22 #[.string s] w fun e w' => e = .returned (.int .i64 (codeI s.data.toList)) ∧ Below w.heap.size w w' := by
  by_cases he : s.data.toList = []
  · have h0 : s.toList.isEmpty = true := by rw [ByteArray.toList_eq, he]; rfl
    have hcI : codeI s.data.toList = -1 := by
      have : find 192 s.data.toList = none := by
        have : ∀ k, find k s.data.toList = none := by
          intro k; induction k with
          | zero => rfl
          | succ k ih => simp only [find]; rw [if_neg (fun x => x.2 he)]; exact ih
        exact this _
      simp [codeI, this]
    rw [hcI]
    go_enter Tryz.func22, Tryz.ntmps22
    go_wp2
    refine wp_loop_rounds 1 ?_
    rw [rounds_succ]
    go_wp2
    go_ret
    exact ⟨rfl, Below.refl _ _⟩
  · have h0 : s.toList.isEmpty = false := by rw [ByteArray.toList_eq]; simpa using he
    go_enter Tryz.func22, Tryz.ntmps22
    go_wp2
    go_loopw [3] (fun i wr => ∃ k : Nat, k ≤ 192 ∧ i = .int .i64 k ∧ (∀ j, j < k → (nm j).data.toList ≠ s.data.toList) ∧ Below w.heap.size w wr) (fun i _ => 192 - (intOf i).toNat)
    case atStart => exact ⟨0, Nat.zero_le _, rfl, fun j h => by omega, Below.refl _ _⟩
    case round =>
      obtain ⟨k, hk, rfl, hno, hnx⟩ := hrel
      by_cases hlt : k < 192
      · have hki : (k : Int) ≤ 191 := by omega
        have hc := Hid.mk' (sname_c (k : Int) wr)
        by_cases hm : (nm k).data.toList = s.data.toList
        · have hcI : codeI s.data.toList = k := by
            simp [codeI, find_at k _ hm he 192 hlt (by omega)]
          have HcI := Hid.mk' hcI
          clear hcI
          have hq : ((nm k).toList == s.toList) = true := by rw [ByteArray.toList_eq, ByteArray.toList_eq]; simpa using hm
          change Hid (Calls Tryz.prog 40 #[.int .i64 k] wr fun e w' => e = .returned (.string (nm k)) ∧ Below wr.heap.size wr w') at hc
          generalize nm k = t at *
          have H1 := Hid.mk' hno
          clear hm hno he
          go_wp2_with fail
          refine hc.out.mono ?_
          rintro e w1 ⟨rfl, hb⟩
          have hnx1 : Below w.heap.size w w1 := hnx.trans (hb.mono hnx.size)
          clear hb hnx
          go_wp2
          go_ret
          exact ⟨by rw [HcI.out]; rfl, hnx1⟩
        · have hno1 : ∀ j, j < k + 1 → (nm j).data.toList ≠ s.data.toList := fun j hj => by
            rcases (by omega : j < k ∨ j = k) with h | h
            · exact hno j h
            · subst h; exact hm
          have hq : ((nm k).toList == s.toList) = false := by rw [ByteArray.toList_eq, ByteArray.toList_eq]; simpa using hm
          change Hid (Calls Tryz.prog 40 #[.int .i64 k] wr fun e w' => e = .returned (.string (nm k)) ∧ Below wr.heap.size wr w') at hc
          have H1 := Hid.mk' hno1
          clear hno hno1 hm he
          generalize nm k = t at hq hc
          go_wp2_with fail
          refine hc.out.mono ?_
          rintro e w1 ⟨rfl, hb⟩
          have hnx1 : Below w.heap.size w w1 := hnx.trans (hb.mono hnx.size)
          clear hb hnx
          go_wp2
          go_roundw
          case rel => exact ⟨k + 1, by omega, by go_num, H1.out, hnx1⟩
          case measure => simp [intOf]; omega
      · have hk2 : k = 192 := by omega
        subst hk2
        have hcI : codeI s.data.toList = -1 := by simp [codeI, find_none 192 _ hno]
        have HcI := Hid.mk' hcI
        clear hcI
        have H1 := Hid.mk' hno
        clear hno
        go_wp2
        go_ret
        exact ⟨by rw [HcI.out]; rfl, hnx⟩
end Go.Proofs.YtngepdhhdbhglaaGreatDoor
