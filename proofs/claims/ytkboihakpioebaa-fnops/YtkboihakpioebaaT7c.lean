import Derived.Test.YtkboihakpioebaaT6
set_option linter.all false
set_option linter.unusedVariables false
namespace Go.Proofs.Ytkboihakpioebaa
open Go.RowKit
set_option maxRecDepth 100000
set_option maxHeartbeats 2000000 in
theorem st_13 (p t : Int) (s : ByteArray) (w : World) (h1 : 106 ≤ p) (h2 : p ≤ 120) (hn : ∀ w, Calls Try.prog 11 #[.int .i64 p] w fun e w' => e = .returned (.string s) ∧ Below w.heap.size w w') (ht : tyOf s = t) : Calls Try.prog 15 #[.int .i64 p] w fun e w' => ∃ a r, e = .returned (.agg #[a, r]) ∧ FT w' w.heap.size w'.heap.size a r ([t, t] : List Int).length ([t] : List Int).length [t, t] [t] ∧ Below w.heap.size w w' := by
  have f1 : ¬ p < 40 := by omega
  have f2 : ¬ p ≤ 53 := by omega
  have f3 : ¬ p < 54 := by omega
  have f4 : ¬ p ≤ 62 := by omega
  have f5 : (p == (63 : Int)) = false := by simp; omega
  have f6 : (p == (64 : Int)) = false := by simp; omega
  have f7 : ¬ p < 65 := by omega
  have f8 : ¬ p ≤ 68 := by omega
  have f9 : (p == (69 : Int)) = false := by simp; omega
  have f10 : (p == (80 : Int)) = false := by simp; omega
  have f11 : ¬ p < 70 := by omega
  have f12 : ¬ p ≤ 102 := by omega
  have f13 : ¬ p < 103 := by omega
  have f14 : ¬ p ≤ 105 := by omega
  have f15 : p < 121 := by omega
  have f16 : p ≤ 123 := by omega
  have f17 : p < 139 := by omega
  have f18 : p ≤ 145 := by omega
  have f19 : p < 153 := by omega
  have f20 : p ≤ 159 := by omega
  have f21 : ¬ p < 106 := by omega
  have f22 : p ≤ 166 := by omega
  have f23 : p < 167 := by omega
  have f24 : p ≤ 191 := by omega
  have HN := Hid.mk' hn
  have HT := Hid.mk' (typeOf_c s)
  rw [ht] at HT
  clear hn ht
  go_enter Try.func15, Try.ntmps15
  go_wp2_with fail
  refine (HN.out _).mono ?_
  rintro e w1 ⟨rfl, hb⟩
  have rb := (RB.new w).keep hb
  clear hb
  go_wp2_with fail
  refine (HT.out _).mono ?_
  rintro e w1' ⟨rfl, rfl⟩
  go_wp2_with fail
  refine (sig_c _ _ _ _ _).mono ?_
  rintro e w2 ⟨ga, gc, rfl, hr, hb⟩
  obtain ⟨ft, rb2⟩ := rb.both [t, t] [t] #[.int .i64 t, .int .i64 t] rfl 2 rfl (by simp) hr hb
  clear hr hb rb
  have HF := Hid.mk' ft
  obtain ⟨r0, r1, rf0, rf1, lt, bel⟩ := rb2
  clear ft
  go_wp2
  exact bodyPost_ret (v := .agg #[.slice (some ⟨w1.heap.size, 0, none⟩) 2 2, .slice ga 1 gc]) (by simp [results, Try.results15, go_sem, r0, r1]) rfl ⟨_, _, rfl, HF.out.sets lt bel rfl⟩
set_option maxHeartbeats 2000000 in
theorem st_14 (p t : Int) (s : ByteArray) (w : World) (h1 : 124 ≤ p) (h2 : p ≤ 138) (hn : ∀ w, Calls Try.prog 11 #[.int .i64 p] w fun e w' => e = .returned (.string s) ∧ Below w.heap.size w w') (ht : tyOf s = t) : Calls Try.prog 15 #[.int .i64 p] w fun e w' => ∃ a r, e = .returned (.agg #[a, r]) ∧ FT w' w.heap.size w'.heap.size a r ([t, t] : List Int).length ([t] : List Int).length [t, t] [t] ∧ Below w.heap.size w w' := by
  have f1 : ¬ p < 40 := by omega
  have f2 : ¬ p ≤ 53 := by omega
  have f3 : ¬ p < 54 := by omega
  have f4 : ¬ p ≤ 62 := by omega
  have f5 : (p == (63 : Int)) = false := by simp; omega
  have f6 : (p == (64 : Int)) = false := by simp; omega
  have f7 : ¬ p < 65 := by omega
  have f8 : ¬ p ≤ 68 := by omega
  have f9 : (p == (69 : Int)) = false := by simp; omega
  have f10 : (p == (80 : Int)) = false := by simp; omega
  have f11 : ¬ p < 70 := by omega
  have f12 : ¬ p ≤ 102 := by omega
  have f13 : ¬ p < 103 := by omega
  have f14 : ¬ p ≤ 105 := by omega
  have f15 : ¬ p < 121 := by omega
  have f16 : ¬ p ≤ 123 := by omega
  have f17 : p < 139 := by omega
  have f18 : p ≤ 145 := by omega
  have f19 : p < 153 := by omega
  have f20 : p ≤ 159 := by omega
  have f21 : ¬ p < 106 := by omega
  have f22 : p ≤ 166 := by omega
  have f23 : p < 167 := by omega
  have f24 : p ≤ 191 := by omega
  have HN := Hid.mk' hn
  have HT := Hid.mk' (typeOf_c s)
  rw [ht] at HT
  clear hn ht
  go_enter Try.func15, Try.ntmps15
  go_wp2_with fail
  refine (HN.out _).mono ?_
  rintro e w1 ⟨rfl, hb⟩
  have rb := (RB.new w).keep hb
  clear hb
  go_wp2_with fail
  refine (HT.out _).mono ?_
  rintro e w1' ⟨rfl, rfl⟩
  go_wp2_with fail
  refine (sig_c _ _ _ _ _).mono ?_
  rintro e w2 ⟨ga, gc, rfl, hr, hb⟩
  obtain ⟨ft, rb2⟩ := rb.both [t, t] [t] #[.int .i64 t, .int .i64 t] rfl 2 rfl (by simp) hr hb
  clear hr hb rb
  have HF := Hid.mk' ft
  obtain ⟨r0, r1, rf0, rf1, lt, bel⟩ := rb2
  clear ft
  go_wp2
  exact bodyPost_ret (v := .agg #[.slice (some ⟨w1.heap.size, 0, none⟩) 2 2, .slice ga 1 gc]) (by simp [results, Try.results15, go_sem, r0, r1]) rfl ⟨_, _, rfl, HF.out.sets lt bel rfl⟩
set_option maxHeartbeats 2000000 in
theorem st_15 (p t : Int) (s : ByteArray) (w : World) (h1 : 146 ≤ p) (h2 : p ≤ 152) (hn : ∀ w, Calls Try.prog 11 #[.int .i64 p] w fun e w' => e = .returned (.string s) ∧ Below w.heap.size w w') (ht : tyOf s = t) : Calls Try.prog 15 #[.int .i64 p] w fun e w' => ∃ a r, e = .returned (.agg #[a, r]) ∧ FT w' w.heap.size w'.heap.size a r ([t, t] : List Int).length ([t] : List Int).length [t, t] [t] ∧ Below w.heap.size w w' := by
  have f1 : ¬ p < 40 := by omega
  have f2 : ¬ p ≤ 53 := by omega
  have f3 : ¬ p < 54 := by omega
  have f4 : ¬ p ≤ 62 := by omega
  have f5 : (p == (63 : Int)) = false := by simp; omega
  have f6 : (p == (64 : Int)) = false := by simp; omega
  have f7 : ¬ p < 65 := by omega
  have f8 : ¬ p ≤ 68 := by omega
  have f9 : (p == (69 : Int)) = false := by simp; omega
  have f10 : (p == (80 : Int)) = false := by simp; omega
  have f11 : ¬ p < 70 := by omega
  have f12 : ¬ p ≤ 102 := by omega
  have f13 : ¬ p < 103 := by omega
  have f14 : ¬ p ≤ 105 := by omega
  have f15 : ¬ p < 121 := by omega
  have f16 : ¬ p ≤ 123 := by omega
  have f17 : ¬ p < 139 := by omega
  have f18 : ¬ p ≤ 145 := by omega
  have f19 : p < 153 := by omega
  have f20 : p ≤ 159 := by omega
  have f21 : ¬ p < 106 := by omega
  have f22 : p ≤ 166 := by omega
  have f23 : p < 167 := by omega
  have f24 : p ≤ 191 := by omega
  have HN := Hid.mk' hn
  have HT := Hid.mk' (typeOf_c s)
  rw [ht] at HT
  clear hn ht
  go_enter Try.func15, Try.ntmps15
  go_wp2_with fail
  refine (HN.out _).mono ?_
  rintro e w1 ⟨rfl, hb⟩
  have rb := (RB.new w).keep hb
  clear hb
  go_wp2_with fail
  refine (HT.out _).mono ?_
  rintro e w1' ⟨rfl, rfl⟩
  go_wp2_with fail
  refine (sig_c _ _ _ _ _).mono ?_
  rintro e w2 ⟨ga, gc, rfl, hr, hb⟩
  obtain ⟨ft, rb2⟩ := rb.both [t, t] [t] #[.int .i64 t, .int .i64 t] rfl 2 rfl (by simp) hr hb
  clear hr hb rb
  have HF := Hid.mk' ft
  obtain ⟨r0, r1, rf0, rf1, lt, bel⟩ := rb2
  clear ft
  go_wp2
  exact bodyPost_ret (v := .agg #[.slice (some ⟨w1.heap.size, 0, none⟩) 2 2, .slice ga 1 gc]) (by simp [results, Try.results15, go_sem, r0, r1]) rfl ⟨_, _, rfl, HF.out.sets lt bel rfl⟩
set_option maxHeartbeats 2000000 in
theorem st_16 (p t : Int) (s : ByteArray) (w : World) (h1 : 160 ≤ p) (h2 : p ≤ 166) (hn : ∀ w, Calls Try.prog 11 #[.int .i64 p] w fun e w' => e = .returned (.string s) ∧ Below w.heap.size w w') (ht : tyOf s = t) : Calls Try.prog 15 #[.int .i64 p] w fun e w' => ∃ a r, e = .returned (.agg #[a, r]) ∧ FT w' w.heap.size w'.heap.size a r ([t, t] : List Int).length ([t] : List Int).length [t, t] [t] ∧ Below w.heap.size w w' := by
  have f1 : ¬ p < 40 := by omega
  have f2 : ¬ p ≤ 53 := by omega
  have f3 : ¬ p < 54 := by omega
  have f4 : ¬ p ≤ 62 := by omega
  have f5 : (p == (63 : Int)) = false := by simp; omega
  have f6 : (p == (64 : Int)) = false := by simp; omega
  have f7 : ¬ p < 65 := by omega
  have f8 : ¬ p ≤ 68 := by omega
  have f9 : (p == (69 : Int)) = false := by simp; omega
  have f10 : (p == (80 : Int)) = false := by simp; omega
  have f11 : ¬ p < 70 := by omega
  have f12 : ¬ p ≤ 102 := by omega
  have f13 : ¬ p < 103 := by omega
  have f14 : ¬ p ≤ 105 := by omega
  have f15 : ¬ p < 121 := by omega
  have f16 : ¬ p ≤ 123 := by omega
  have f17 : ¬ p < 139 := by omega
  have f18 : ¬ p ≤ 145 := by omega
  have f19 : ¬ p < 153 := by omega
  have f20 : ¬ p ≤ 159 := by omega
  have f21 : ¬ p < 106 := by omega
  have f22 : p ≤ 166 := by omega
  have f23 : p < 167 := by omega
  have f24 : p ≤ 191 := by omega
  have HN := Hid.mk' hn
  have HT := Hid.mk' (typeOf_c s)
  rw [ht] at HT
  clear hn ht
  go_enter Try.func15, Try.ntmps15
  go_wp2_with fail
  refine (HN.out _).mono ?_
  rintro e w1 ⟨rfl, hb⟩
  have rb := (RB.new w).keep hb
  clear hb
  go_wp2_with fail
  refine (HT.out _).mono ?_
  rintro e w1' ⟨rfl, rfl⟩
  go_wp2_with fail
  refine (sig_c _ _ _ _ _).mono ?_
  rintro e w2 ⟨ga, gc, rfl, hr, hb⟩
  obtain ⟨ft, rb2⟩ := rb.both [t, t] [t] #[.int .i64 t, .int .i64 t] rfl 2 rfl (by simp) hr hb
  clear hr hb rb
  have HF := Hid.mk' ft
  obtain ⟨r0, r1, rf0, rf1, lt, bel⟩ := rb2
  clear ft
  go_wp2
  exact bodyPost_ret (v := .agg #[.slice (some ⟨w1.heap.size, 0, none⟩) 2 2, .slice ga 1 gc]) (by simp [results, Try.results15, go_sem, r0, r1]) rfl ⟨_, _, rfl, HF.out.sets lt bel rfl⟩
set_option maxHeartbeats 2000000 in
theorem st_17 (p t : Int) (s : ByteArray) (w : World) (h2 : p ≤ 39) (hn : ∀ w, Calls Try.prog 11 #[.int .i64 p] w fun e w' => e = .returned (.string s) ∧ Below w.heap.size w w') (ht : tyOf s = t) : Calls Try.prog 15 #[.int .i64 p] w fun e w' => ∃ a r, e = .returned (.agg #[a, r]) ∧ FT w' w.heap.size w'.heap.size a r ([] : List Int).length ([] : List Int).length [] [] ∧ Below w.heap.size w w' := by
  have f1 : p < 40 := by omega
  have f2 : p ≤ 53 := by omega
  have f3 : p < 54 := by omega
  have f4 : p ≤ 62 := by omega
  have f5 : (p == (63 : Int)) = false := by simp; omega
  have f6 : (p == (64 : Int)) = false := by simp; omega
  have f7 : p < 65 := by omega
  have f8 : p ≤ 68 := by omega
  have f9 : (p == (69 : Int)) = false := by simp; omega
  have f10 : (p == (80 : Int)) = false := by simp; omega
  have f11 : p < 70 := by omega
  have f12 : p ≤ 102 := by omega
  have f13 : p < 103 := by omega
  have f14 : p ≤ 105 := by omega
  have f15 : p < 121 := by omega
  have f16 : p ≤ 123 := by omega
  have f17 : p < 139 := by omega
  have f18 : p ≤ 145 := by omega
  have f19 : p < 153 := by omega
  have f20 : p ≤ 159 := by omega
  have f21 : p < 106 := by omega
  have f22 : p ≤ 166 := by omega
  have f23 : p < 167 := by omega
  have f24 : p ≤ 191 := by omega
  have HN := Hid.mk' hn
  have HT := Hid.mk' (typeOf_c s)
  rw [ht] at HT
  clear hn ht
  go_enter Try.func15, Try.ntmps15
  go_wp2_with fail
  refine (HN.out _).mono ?_
  rintro e w1 ⟨rfl, hb⟩
  have rb := (RB.new w).keep hb
  clear hb
  go_wp2_with fail
  refine (HT.out _).mono ?_
  rintro e w1' ⟨rfl, rfl⟩
  have HF := Hid.mk' rb.none
  obtain ⟨r0, r1, rf0, rf1, lt, bel⟩ := rb
  go_wp2
  exact bodyPost_ret (v := .agg #[.slice none 0 0, .slice none 0 0]) (by simp [results, Try.results15, go_sem, r0, r1]) rfl ⟨_, _, rfl, HF.out.sets lt bel rfl⟩
set_option maxHeartbeats 2000000 in
theorem st_18 (p t : Int) (s : ByteArray) (w : World) (h1 : 192 ≤ p) (hn : ∀ w, Calls Try.prog 11 #[.int .i64 p] w fun e w' => e = .returned (.string s) ∧ Below w.heap.size w w') (ht : tyOf s = t) : Calls Try.prog 15 #[.int .i64 p] w fun e w' => ∃ a r, e = .returned (.agg #[a, r]) ∧ FT w' w.heap.size w'.heap.size a r ([] : List Int).length ([] : List Int).length [] [] ∧ Below w.heap.size w w' := by
  have f1 : ¬ p < 40 := by omega
  have f2 : ¬ p ≤ 53 := by omega
  have f3 : ¬ p < 54 := by omega
  have f4 : ¬ p ≤ 62 := by omega
  have f5 : (p == (63 : Int)) = false := by simp; omega
  have f6 : (p == (64 : Int)) = false := by simp; omega
  have f7 : ¬ p < 65 := by omega
  have f8 : ¬ p ≤ 68 := by omega
  have f9 : (p == (69 : Int)) = false := by simp; omega
  have f10 : (p == (80 : Int)) = false := by simp; omega
  have f11 : ¬ p < 70 := by omega
  have f12 : ¬ p ≤ 102 := by omega
  have f13 : ¬ p < 103 := by omega
  have f14 : ¬ p ≤ 105 := by omega
  have f15 : ¬ p < 121 := by omega
  have f16 : ¬ p ≤ 123 := by omega
  have f17 : ¬ p < 139 := by omega
  have f18 : ¬ p ≤ 145 := by omega
  have f19 : ¬ p < 153 := by omega
  have f20 : ¬ p ≤ 159 := by omega
  have f21 : ¬ p < 106 := by omega
  have f22 : ¬ p ≤ 166 := by omega
  have f23 : ¬ p < 167 := by omega
  have f24 : ¬ p ≤ 191 := by omega
  have HN := Hid.mk' hn
  have HT := Hid.mk' (typeOf_c s)
  rw [ht] at HT
  clear hn ht
  go_enter Try.func15, Try.ntmps15
  go_wp2_with fail
  refine (HN.out _).mono ?_
  rintro e w1 ⟨rfl, hb⟩
  have rb := (RB.new w).keep hb
  clear hb
  go_wp2_with fail
  refine (HT.out _).mono ?_
  rintro e w1' ⟨rfl, rfl⟩
  have HF := Hid.mk' rb.none
  obtain ⟨r0, r1, rf0, rf1, lt, bel⟩ := rb
  go_wp2
  exact bodyPost_ret (v := .agg #[.slice none 0 0, .slice none 0 0]) (by simp [results, Try.results15, go_sem, r0, r1]) rfl ⟨_, _, rfl, HF.out.sets lt bel rfl⟩
end Go.Proofs.Ytkboihakpioebaa
