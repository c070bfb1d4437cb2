import Derived.Test.YtkboihakpioebaaT6
set_option linter.all false
set_option linter.unusedVariables false
namespace Go.Proofs.Ytkboihakpioebaa
open Go.RowKit
set_option maxRecDepth 100000
theorem at_getD (s : ByteArray) (k : Nat) (h : k < s.size) : s[k]'h = s.data.toList.getD k 0 := by
  have h' : k < s.data.toList.length := h
  rw [List.getD, List.getElem?_eq_getElem h', Option.getD_some]
  rfl
set_option maxHeartbeats 2000000 in
theorem st_u (p t t2 : Int) (q : Nat) (s : ByteArray) (w : World) (h1 : 167 ≤ p) (h2 : p ≤ 191) (hn : ∀ w, Calls Try.prog 11 #[.int .i64 p] w fun e w' => e = .returned (.string s) ∧ Below w.heap.size w w') (ht : tyOf s = t)
    (hq : q < s.size) (hsz : s.size ≤ 100) (hq1 : ∀ k, k < q → (s.data.toList.getD k 0).toNat ≠ 95) (hq2 : (s.data.toList.getD q 0).toNat = 95) (ht2 : tyOf (s.extract (q + 1) s.size) = t2) :
    Calls Try.prog 15 #[.int .i64 p] w fun e w' => ∃ a r, e = .returned (.agg #[a, r]) ∧ FT w' w.heap.size w'.heap.size a r ([t2] : List Int).length ([t] : List Int).length [t2] [t] ∧ Below w.heap.size w w' := by
  have f1 : ¬ p < 40 := by omega
  have f2 : ¬ p ≤ 53 := by omega
  have f3 : ¬ p < 54 := by omega
  have f4 : ¬ p ≤ 62 := by omega
  have f5 : (p == (63 : Int)) = false := by simp; omega
  have f6 : (p == (64 : Int)) = false := by simp; omega
  have f7 : ¬ p < 65 := by omega
  have f8 : ¬ p ≤ 68 := by omega
  have f9 : (p == (69 : Int)) = false := by simp; omega
  have f10 : (p == (80 : Int)) = false := by simp; omega
  have f11 : ¬ p < 70 := by omega
  have f12 : ¬ p ≤ 102 := by omega
  have f13 : ¬ p < 103 := by omega
  have f14 : ¬ p ≤ 105 := by omega
  have f15 : ¬ p < 121 := by omega
  have f16 : ¬ p ≤ 123 := by omega
  have f17 : ¬ p < 139 := by omega
  have f18 : ¬ p ≤ 145 := by omega
  have f19 : ¬ p < 153 := by omega
  have f20 : ¬ p ≤ 159 := by omega
  have f21 : ¬ p < 106 := by omega
  have f22 : ¬ p ≤ 166 := by omega
  have f23 : ¬ p < 167 := by omega
  have f24 : p ≤ 191 := by omega
  have HN := Hid.mk' hn
  have HT := Hid.mk' (typeOf_c s)
  rw [ht] at HT
  have HT2 := Hid.mk' (typeOf_c (s.extract (q + 1) s.size))
  rw [ht2] at HT2
  have H1 := Hid.mk' hq1
  have H2 := Hid.mk' hq2
  clear hn ht ht2 hq1 hq2
  go_enter Try.func15, Try.ntmps15
  go_wp2_with fail
  refine (HN.out _).mono ?_
  rintro e w1 ⟨rfl, hb⟩
  have rb := (RB.new w).keep hb
  clear hb
  go_wp2_with fail
  refine (HT.out _).mono ?_
  rintro e w1' ⟨rfl, rfl⟩
  go_wp2_with fail
  refine (HN.out _).mono ?_
  rintro e w2 ⟨rfl, hb⟩
  have rb2 := rb.keep hb
  clear hb rb
  have HB := Hid.mk' rb2
  clear rb2
  go_wp2_with fail
  go_loop [5] (fun i => ∃ k : Nat, k ≤ q ∧ i = .int .i64 k) (fun i => q - (intOf i).toNat)
  case atStart => exact ⟨0, Nat.zero_le _, rfl⟩
  case round =>
    obtain ⟨k, hk, rfl⟩ := hrel
    have hki : (k : Int) < (s.size : Int) := by omega
    have hkn : k < s.size := by omega
    by_cases hlt : k < q
    · have hc : (((s[k]'hkn).toNat : Int) != 95) = true := by
        rw [at_getD s k hkn]
        have := H1.out k hlt
        simp only [bne_iff_ne, ne_eq]
        omega
      go_wp2_with fail
      go_round
      case rel => exact ⟨k + 1, by omega, by go_num⟩
      case measure => simp [intOf]; omega
    · obtain rfl : k = q := by omega
      have hc : (((s[k]'hkn).toNat : Int) != 95) = false := by
        rw [at_getD s k hkn, H2.out]; rfl
      have hk1 : (k : Int) + 1 ≤ (s.size : Int) := by omega
      go_wp2_with fail
      refine (HT2.out _).mono ?_
      rintro e w3 ⟨rfl, rfl⟩
      go_wp2_with fail
      refine (sig_c _ _ _ _ _).mono ?_
      rintro e w4 ⟨ga, gc, rfl, hr, hb⟩
      obtain ⟨ft, rb2⟩ := HB.out.both [t2] [t] #[.int .i64 t2] rfl 1 rfl (by simp) hr hb
      clear hr hb HB
      have HF := Hid.mk' ft
      obtain ⟨r0, r1, rf0, rf1, lt, bel⟩ := rb2
      clear ft
      go_wp2
      exact bodyPost_ret (v := .agg #[.slice (some ⟨w2.heap.size, 0, none⟩) 1 1, .slice ga 1 gc]) (by simp [results, Try.results15, go_sem, r0, r1]) rfl ⟨_, _, rfl, HF.out.sets lt bel rfl⟩
end Go.Proofs.Ytkboihakpioebaa
