import Derived.Test.YtbdcgifdggpnlaaA2
import Derived.Lib.QuietBelow
set_option linter.all false
set_option linter.unusedVariables false
namespace Go.Proofs.Ytbdcgifdggpnlaa
open Go.RowKit Go.Sort
set_option maxRecDepth 100000
/-- A function's type: two slices of numbers. -/
def FV (w : World) (v : Value) (xs ys : List Int) : Prop := ∃ pa pc ra rc, v = .agg #[.slice pa xs.length pc, .slice ra ys.length rc] ∧ Has w pa xs ∧ Has w ra ys
theorem FV.keep {w w1 : World} {v : Value} {xs ys : List Int} (h : FV w v xs ys) (hb : Below w.heap.size w w1) : FV w1 v xs ys := by
  obtain ⟨pa, pc, ra, rc, e, h1, h2⟩ := h
  exact ⟨pa, pc, ra, rc, e, h1.keep hb, h2.keep hb⟩
theorem ne_at {xs ys : List Int} {k : Nat} (h : xs.getD k 0 ≠ ys.getD k 0) : xs ≠ ys := fun e => h (by rw [e])
theorem eq_all {xs ys : List Int} (hl : xs.length = ys.length) (h : ∀ j, j < xs.length → xs.getD j 0 = ys.getD j 0) : xs = ys := by
  apply List.ext_getElem hl
  intro i h1 h2
  have := h i h1
  simpa [List.getD, h1, h2] using this
set_option maxHeartbeats 1000000 in
theorem seq_c (a b : Option Addr) (ca cb : Nat) (xs ys : List Int) (w : World) (hx : xs.length ≤ 1099511627776) (hy : ys.length ≤ 1099511627776) (ha : Has w a xs) (hb : Has w b ys) :
    Calls Try.prog 23 #[.slice a xs.length ca, .slice b ys.length cb] w fun e w' => e = .returned (.bool (decide (xs = ys))) ∧ ∃ n, w' = w.drewN n := by
  by_cases hl : ys.length = xs.length
  · rw [hl]
    have H1 := Hid.mk' ha
    have H2 := Hid.mk' hb
    have HL := Hid.mk' hl
    clear ha hb hl hy
    go_enter Try.func23, Try.ntmps23
    go_wp2
    go_loopw [13] (fun i wr => ∃ k : Nat, k ≤ xs.length ∧ i = .int .i64 k ∧ (∀ j, j < k → xs.getD j 0 = ys.getD j 0) ∧ ∃ m, wr = w.drewN m) (fun i _ => xs.length - (intOf i).toNat)
    case atStart => exact ⟨0, Nat.zero_le _, rfl, fun j hj => by omega, 0, rfl⟩
    case round =>
      obtain ⟨k, hk, rfl, hall, m, rfl⟩ := hrel
      have HA := Hid.mk' hall
      clear hall
      by_cases hlt : k < xs.length
      · rcases H1.out with h | ⟨b1, o1, rfl, hc1⟩
        · subst h; simp at hlt
        rcases H2.out with h | ⟨b2, o2, rfl, hc2⟩
        · have := HL.out; rw [h] at this; simp at this; omega
        have d1 : w.cell? ⟨b1, o1 + k, none⟩ = some (.int .i64 (xs.getD k 0)) := hc1 k hlt
        have d2 : w.cell? ⟨b2, o2 + k, none⟩ = some (.int .i64 (ys.getD k 0)) := hc2 k (by rw [HL.out]; exact hlt)
        have hki : (k : Int) < (xs.length : Int) := by omega
        clear hc1 hc2
        obtain ⟨x, hx'⟩ : ∃ x, x = xs.getD k 0 := ⟨_, rfl⟩
        obtain ⟨y, hy'⟩ : ∃ y, y = ys.getD k 0 := ⟨_, rfl⟩
        rw [← hx'] at d1
        rw [← hy'] at d2
        have HX := Hid.mk' hx'
        have HY := Hid.mk' hy'
        clear hx' hy' H1 H2
        by_cases he : x = y
        · subst he
          go_wp2
          go_quiet (fail)
          go_wp2
          go_roundw
          case rel => exact ⟨k + 1, by omega, by go_num, fun j hj => by
            rcases (by omega : j < k ∨ j = k) with h | h
            · exact HA.out j h
            · subst h; rw [← HX.out, ← HY.out], _, rfl⟩
          case measure => simp [intOf]; omega
        · have f1 : (x != y) = true := by simpa using he
          have f2 : (x == y) = false := by simpa using he
          go_wp2
          go_quiet (fail)
          go_wp2
          go_ret
          exact ⟨by rw [decide_eq_false (ne_at (k := k) (by rw [← HX.out, ← HY.out]; exact he))]; rfl, m + nq, by simp [World.drewN, Nat.add_assoc]⟩
      · have e : k = xs.length := by omega
        subst e
        go_wp2
        go_ret
        exact ⟨by rw [decide_eq_true (eq_all HL.out.symm HA.out)]; rfl, m, rfl⟩
  · have f : ¬ ((xs.length : Int) = (ys.length : Int)) := by omega
    have f1 : ((xs.length : Int) != (ys.length : Int)) = true := by simpa using f
    have f2 : ((xs.length : Int) == (ys.length : Int)) = false := by simpa using f
    have HN : Hid (xs ≠ ys) := fun e => hl (by rw [e])
    clear ha hb hl f
    go_enter Try.func23, Try.ntmps23
    go_wp2
    go_ret
    exact ⟨by rw [decide_eq_false HN.out]; rfl, 0, rfl⟩
theorem zFT_c (v : Value) (xs ys : List Int) (left : Int) (w : World) (h0 : 0 ≤ left) (h1 : left ≤ 1048576) (hx : xs.length ≤ 9223372036854775807) (hy : ys.length ≤ 9223372036854775807) (hv : FV w v xs ys) :
    Calls Try.prog 9 #[v, .int .i64 left] w fun e w' => ∃ r : Int, e = .returned (.int .i64 r) ∧ Below w.heap.size w w' ∧ (r = -1 ∨ (0 ≤ r ∧ r ≤ left ∧ (xs.length : Int) ≤ left ∧ (ys.length : Int) ≤ left)) := by
  obtain ⟨pa, pc, ra, rc, rfl, k1, k2⟩ := hv
  have H1 := Hid.mk' (fun w => zI_c pa xs.length pc left w h0 h1 hx)
  have H2 := Hid.mk' (fun l w h0 h1 => zI_c ra ys.length rc l w h0 h1 hy)
  clear k1 k2
  go_enter Try.func9, Try.ntmps9
  go_wp2_with fail
  refine (H1.out _).mono ?_
  rintro e w1 ⟨r, rfl, rfl, hr⟩
  rcases hr with rfl | ⟨hr, hr0⟩
  · go_wp2
    go_ret
    exact ⟨-1, rfl, (Below.refl _ _).alloc (Nat.le_refl _) _, .inl rfl⟩
  · have f : ¬ r < 0 := by omega
    have HR := Hid.mk' hr
    clear hr
    go_wp2_with fail
    refine (H2.out r _ hr0 (by have := HR.out; omega)).mono ?_
    rintro e w1 ⟨r', rfl, rfl, hr'⟩
    rcases hr' with rfl | ⟨hr', hr0'⟩
    · go_wp2
      go_ret
      exact ⟨-1, rfl, (Below.refl _ _).alloc (Nat.le_refl _) _, .inl rfl⟩
    · have f' : ¬ r' < 0 := by omega
      have HR' := Hid.mk' hr'
      clear hr'
      go_wp2
      go_ret
      exact ⟨r', rfl, (Below.refl _ _).alloc (Nat.le_refl _) _, .inr ⟨hr0', by have := HR.out; have := HR'.out; omega, by have := HR.out; omega, by have := HR.out; have := HR'.out; omega⟩⟩
theorem eqFV_c (v v' : Value) (xs ys : List Int) (w : World) (hx : xs.length ≤ 1099511627776) (hy : ys.length ≤ 1099511627776) (h : FV w v xs ys) (h' : FV w v' xs ys) :
    Calls Try.prog 13 #[v, v'] w fun e w' => e = .returned (.bool true) ∧ Below w.heap.size w w' := by
  obtain ⟨pa, pc, ra, rc, rfl, k1, k2⟩ := h
  obtain ⟨pa', pc', ra', rc', rfl, k1', k2'⟩ := h'
  have H1 := Hid.mk' (fun o1 o2 => eq_any pa pa' pc pc' xs ((w.alloc o1).alloc o2) hx ((k1.alloc o1).alloc o2) ((k1'.alloc o1).alloc o2))
  have H2 := Hid.mk' (fun n o1 o2 => eq_any ra ra' rc rc' ys (((w.alloc o1).alloc o2).drewN n) hy ((k2.alloc o1).alloc o2) ((k2'.alloc o1).alloc o2))
  clear k1 k2 k1' k2'
  go_enter Try.func13, Try.ntmps13
  go_wp2_with fail
  refine (H1.out _ _).mono ?_
  rintro e w1 ⟨rfl, n1, rfl⟩
  go_wp2_with fail
  refine (H2.out n1 _ _).mono ?_
  rintro e w1 ⟨rfl, n2, rfl⟩
  go_wp2
  go_ret
  exact ⟨rfl, below_drewN' (((Below.refl _ _).alloc (Nat.le_refl _) _).alloc (by simp) _) _⟩
set_option maxHeartbeats 1000000 in
theorem iTE_c (v v' : Value) (xs ys xs' ys' : List Int) (w : World) (hx : xs.length ≤ 1099511627776) (hy : ys.length ≤ 1099511627776) (hx' : xs'.length ≤ 1099511627776) (hy' : ys'.length ≤ 1099511627776) (h : FV w v xs ys) (h' : FV w v' xs' ys') :
    Calls Try.prog 12 #[v, v'] w fun e w' => e = .returned (.bool (decide (xs = xs') && decide (ys = ys'))) ∧ Below w.heap.size w w' := by
  obtain ⟨pa, pc, ra, rc, rfl, k1, k2⟩ := h
  obtain ⟨pa', pc', ra', rc', rfl, k1', k2'⟩ := h'
  have H1 := Hid.mk' (fun o1 o2 => seq_c pa pa' pc pc' xs xs' ((w.alloc o1).alloc o2) hx hx' ((k1.alloc o1).alloc o2) ((k1'.alloc o1).alloc o2))
  have H2 := Hid.mk' (fun n o1 o2 => seq_c ra ra' rc rc' ys ys' (((w.alloc o1).alloc o2).drewN n) hy hy' ((k2.alloc o1).alloc o2) ((k2'.alloc o1).alloc o2))
  clear k1 k2 k1' k2'
  generalize decide (xs = xs') = q at *
  generalize decide (ys = ys') = q' at *
  cases q
  · go_enter Try.func12, Try.ntmps12
    go_wp2_with fail
    refine (H1.out _ _).mono ?_
    rintro e w1 ⟨rfl, n1, rfl⟩
    go_wp2
    go_ret
    exact ⟨rfl, below_drewN' (((Below.refl _ _).alloc (Nat.le_refl _) _).alloc (by simp) _) _⟩
  · go_enter Try.func12, Try.ntmps12
    go_wp2_with fail
    refine (H1.out _ _).mono ?_
    rintro e w1 ⟨rfl, n1, rfl⟩
    go_wp2_with fail
    refine (H2.out n1 _ _).mono ?_
    rintro e w1 ⟨rfl, n2, rfl⟩
    go_wp2
    go_ret
    exact ⟨by simp, below_drewN' (((Below.refl _ _).alloc (Nat.le_refl _) _).alloc (by simp) _) _⟩
end Go.Proofs.Ytbdcgifdggpnlaa
