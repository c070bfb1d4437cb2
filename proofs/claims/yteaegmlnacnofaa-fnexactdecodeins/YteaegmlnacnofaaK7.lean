import Derived.Test.YteaegmlnacnofaaK5
set_option linter.all false
set_option linter.unusedVariables false
namespace Go.Proofs.Yteaegmlnacnofaa
open Go.RowKit Go.Sort
set_option maxRecDepth 100000
theorem all_t (l : List Int) (h : ∀ i, i < l.length → u32B (l.getD i 0) = true) : l.all u32B = true := by
  rw [List.all_eq_true]
  intro x hx
  obtain ⟨i, hi, rfl⟩ := List.getElem_of_mem hx
  have := h i hi
  simpa [List.getD, List.getElem?_eq_getElem hi] using this
theorem all_f (l : List Int) (i : Nat) (hi : i < l.length) (h : u32B (l.getD i 0) = false) : l.all u32B = false := by
  rw [List.all_eq_false]
  refine ⟨l[i], List.getElem_mem hi, ?_⟩
  have : l.getD i 0 = l[i] := by simp [List.getD, List.getElem?_eq_getElem hi]
  rw [this] at h
  simp [h]
set_option maxHeartbeats 4000000 in
theorem sgood_3a (op a b v : Int) (l : List Int) (la : Option Addr) (lc : Nat) (w : World) (hf : formR (rowOf op) = 3) (hv : 0 ≤ v) (hln : l.length ≤ 1099511627776) (hH : Has w la l) (hb : ¬ b = 0) : Calls Try.prog 67 #[inV ⟨op, a, b, v, l⟩ la lc] w fun e w' => e = .returned (.bool (goodF 3 ⟨op, a, b, v, l⟩)) ∧ Below w.heap.size w w' := by
  have hb1 : (b == 0) = false := by simpa using hb
  have HF := Hid.mk' (sform_c op)
  rw [hf] at HF
  clear hf
  have hlz := len0 l
  have HA := Hid.mk' (u32_c a)
  have HH := Hid.mk' (fun o => hH.keep ((Below.refl w.heap.size w).alloc (Nat.le_refl _) o))
  clear hH
  generalize ht : u32B a = ta at *
  go_enter Try.func67, Try.ntmps67
  go_wp2_with fail
  refine (HF.out _).mono ?_
  rintro e w1 ⟨rfl, rfl⟩
  go_wp2_with fail
  go_loop [6] (fun i => ∃ k : Nat, k ≤ l.length ∧ i = .int .i64 k ∧ ∀ j, j < k → u32B (l.getD j 0) = true) (fun i => l.length - (intOf i).toNat)
  case atStart => exact ⟨0, Nat.zero_le _, rfl, fun j h => by omega⟩
  case round =>
    obtain ⟨k, hk, rfl, hall⟩ := hrel
    by_cases hlt : k < l.length
    · have hki : (k : Int) < (l.length : Int) := by omega
      rcases HH.out (.cells #[.int .i64 op, .int .i64 a, .int .i64 b, .int .u64 v, .slice la l.length lc] 26) with hx | ⟨b1, o1, ea, hc⟩
      · subst hx; simp at hlt
      have d := hc k hlt
      subst ea
      have HK := Hid.mk' (u32_c (l.getD k 0))
      generalize hy : l.getD k 0 = y at *
      generalize hz : u32B y = z at *
      cases z
      · have hfin : l.all u32B = false := all_f l k hlt (by rw [hy]; exact hz)
        have HFIN := Hid.mk' hfin
        clear hfin hall hc hy hz HH
        go_wp2_with (refine (HK.out _).mono ?_; rintro e w1 ⟨rfl, rfl⟩)
        go_ret
        exact ⟨by simp [goodF, HFIN.out], (Below.refl _ _).alloc (Nat.le_refl _) _⟩
      · have HA2 : Hid (∀ j, j < k + 1 → u32B (l.getD j 0) = true) := fun j hj => by
          rcases (by omega : j < k ∨ j = k) with h | h
          · exact hall j h
          · subst h; rw [hy]; exact hz
        clear hall hc hy hz HH
        go_wp2_with (refine (HK.out _).mono ?_; rintro e w1 ⟨rfl, rfl⟩)
        go_round
        case rel => exact ⟨k + 1, by omega, by go_num, HA2.out⟩
        case measure => simp [intOf]; omega
    · have e : k = l.length := by omega
      subst e
      have HFIN := Hid.mk' (all_t l hall)
      clear hall HH
      go_wp2_with (refine (HA.out _).mono ?_; rintro e w1 ⟨rfl, rfl⟩)
      all_goals
        go_ret
        refine ⟨?_, (Below.refl _ _).alloc (Nat.le_refl _) _⟩
        simp [goodF, HFIN.out, ht]
        try simp_all
set_option maxHeartbeats 4000000 in
theorem sgood_3b (op a b v : Int) (l : List Int) (la : Option Addr) (lc : Nat) (w : World) (hf : formR (rowOf op) = 3) (hv : 0 ≤ v) (hln : l.length ≤ 1099511627776) (hH : Has w la l) (hb : b = 0) (hv0 : ¬ v = 0) : Calls Try.prog 67 #[inV ⟨op, a, b, v, l⟩ la lc] w fun e w' => e = .returned (.bool (goodF 3 ⟨op, a, b, v, l⟩)) ∧ Below w.heap.size w w' := by
  subst hb
  have hb1 : (v == 0) = false := by simpa using hv0
  have HF := Hid.mk' (sform_c op)
  rw [hf] at HF
  clear hf
  have hlz := len0 l
  have HA := Hid.mk' (u32_c a)
  have HH := Hid.mk' (fun o => hH.keep ((Below.refl w.heap.size w).alloc (Nat.le_refl _) o))
  clear hH
  generalize ht : u32B a = ta at *
  go_enter Try.func67, Try.ntmps67
  go_wp2_with fail
  refine (HF.out _).mono ?_
  rintro e w1 ⟨rfl, rfl⟩
  go_wp2_with fail
  go_loop [6] (fun i => ∃ k : Nat, k ≤ l.length ∧ i = .int .i64 k ∧ ∀ j, j < k → u32B (l.getD j 0) = true) (fun i => l.length - (intOf i).toNat)
  case atStart => exact ⟨0, Nat.zero_le _, rfl, fun j h => by omega⟩
  case round =>
    obtain ⟨k, hk, rfl, hall⟩ := hrel
    by_cases hlt : k < l.length
    · have hki : (k : Int) < (l.length : Int) := by omega
      rcases HH.out (.cells #[.int .i64 op, .int .i64 a, .int .i64 0, .int .u64 v, .slice la l.length lc] 26) with hx | ⟨b1, o1, ea, hc⟩
      · subst hx; simp at hlt
      have d := hc k hlt
      subst ea
      have HK := Hid.mk' (u32_c (l.getD k 0))
      generalize hy : l.getD k 0 = y at *
      generalize hz : u32B y = z at *
      cases z
      · have hfin : l.all u32B = false := all_f l k hlt (by rw [hy]; exact hz)
        have HFIN := Hid.mk' hfin
        clear hfin hall hc hy hz HH
        go_wp2_with (refine (HK.out _).mono ?_; rintro e w1 ⟨rfl, rfl⟩)
        go_ret
        exact ⟨by simp [goodF, HFIN.out], (Below.refl _ _).alloc (Nat.le_refl _) _⟩
      · have HA2 : Hid (∀ j, j < k + 1 → u32B (l.getD j 0) = true) := fun j hj => by
          rcases (by omega : j < k ∨ j = k) with h | h
          · exact hall j h
          · subst h; rw [hy]; exact hz
        clear hall hc hy hz HH
        go_wp2_with (refine (HK.out _).mono ?_; rintro e w1 ⟨rfl, rfl⟩)
        go_round
        case rel => exact ⟨k + 1, by omega, by go_num, HA2.out⟩
        case measure => simp [intOf]; omega
    · have e : k = l.length := by omega
      subst e
      have HFIN := Hid.mk' (all_t l hall)
      clear hall HH
      go_wp2_with (refine (HA.out _).mono ?_; rintro e w1 ⟨rfl, rfl⟩)
      all_goals
        go_ret
        refine ⟨?_, (Below.refl _ _).alloc (Nat.le_refl _) _⟩
        simp [goodF, HFIN.out, ht]
        try simp_all
set_option maxHeartbeats 4000000 in
theorem sgood_3c (op a b v : Int) (l : List Int) (la : Option Addr) (lc : Nat) (w : World) (hf : formR (rowOf op) = 3) (hv : 0 ≤ v) (hln : l.length ≤ 1099511627776) (hH : Has w la l) (hb : b = 0) (hv0 : v = 0) : Calls Try.prog 67 #[inV ⟨op, a, b, v, l⟩ la lc] w fun e w' => e = .returned (.bool (goodF 3 ⟨op, a, b, v, l⟩)) ∧ Below w.heap.size w w' := by
  subst hb hv0
  have HF := Hid.mk' (sform_c op)
  rw [hf] at HF
  clear hf
  have hlz := len0 l
  have HA := Hid.mk' (u32_c a)
  have HH := Hid.mk' (fun o => hH.keep ((Below.refl w.heap.size w).alloc (Nat.le_refl _) o))
  clear hH
  generalize ht : u32B a = ta at *
  go_enter Try.func67, Try.ntmps67
  go_wp2_with fail
  refine (HF.out _).mono ?_
  rintro e w1 ⟨rfl, rfl⟩
  go_wp2_with fail
  go_loop [6] (fun i => ∃ k : Nat, k ≤ l.length ∧ i = .int .i64 k ∧ ∀ j, j < k → u32B (l.getD j 0) = true) (fun i => l.length - (intOf i).toNat)
  case atStart => exact ⟨0, Nat.zero_le _, rfl, fun j h => by omega⟩
  case round =>
    obtain ⟨k, hk, rfl, hall⟩ := hrel
    by_cases hlt : k < l.length
    · have hki : (k : Int) < (l.length : Int) := by omega
      rcases HH.out (.cells #[.int .i64 op, .int .i64 a, .int .i64 0, .int .u64 0, .slice la l.length lc] 26) with hx | ⟨b1, o1, ea, hc⟩
      · subst hx; simp at hlt
      have d := hc k hlt
      subst ea
      have HK := Hid.mk' (u32_c (l.getD k 0))
      generalize hy : l.getD k 0 = y at *
      generalize hz : u32B y = z at *
      cases z
      · have hfin : l.all u32B = false := all_f l k hlt (by rw [hy]; exact hz)
        have HFIN := Hid.mk' hfin
        clear hfin hall hc hy hz HH
        go_wp2_with (refine (HK.out _).mono ?_; rintro e w1 ⟨rfl, rfl⟩)
        go_ret
        exact ⟨by simp [goodF, HFIN.out], (Below.refl _ _).alloc (Nat.le_refl _) _⟩
      · have HA2 : Hid (∀ j, j < k + 1 → u32B (l.getD j 0) = true) := fun j hj => by
          rcases (by omega : j < k ∨ j = k) with h | h
          · exact hall j h
          · subst h; rw [hy]; exact hz
        clear hall hc hy hz HH
        go_wp2_with (refine (HK.out _).mono ?_; rintro e w1 ⟨rfl, rfl⟩)
        go_round
        case rel => exact ⟨k + 1, by omega, by go_num, HA2.out⟩
        case measure => simp [intOf]; omega
    · have e : k = l.length := by omega
      subst e
      have HFIN := Hid.mk' (all_t l hall)
      clear hall HH
      go_wp2_with (refine (HA.out _).mono ?_; rintro e w1 ⟨rfl, rfl⟩)
      all_goals
        go_ret
        refine ⟨?_, (Below.refl _ _).alloc (Nat.le_refl _) _⟩
        simp [goodF, HFIN.out, ht]
        try simp_all
theorem sgood_3 (x : In) (la : Option Addr) (lc : Nat) (w : World) (hf : formR (rowOf x.op) = 3) (hv : 0 ≤ x.v) (hln : x.l.length ≤ 1099511627776) (hH : Has w la x.l) : Calls Try.prog 67 #[inV x la lc] w fun e w' => e = .returned (.bool (goodF 3 x)) ∧ Below w.heap.size w w' := by
  obtain ⟨op, a, b, v, l⟩ := x
  by_cases hb : b = 0
  · by_cases h0 : v = 0
    · exact sgood_3c op a b v l la lc w hf hv hln hH hb h0
    · exact sgood_3b op a b v l la lc w hf hv hln hH hb h0
  · exact sgood_3a op a b v l la lc w hf hv hln hH hb
end Go.Proofs.Yteaegmlnacnofaa
