import Derived.Test.YteaegmlnacnofaaK7
set_option linter.all false
set_option linter.unusedVariables false
namespace Go.Proofs.Yteaegmlnacnofaa
open Go.RowKit Go.Sort
set_option maxRecDepth 100000
set_option maxHeartbeats 1000000 in
theorem allAre_c (a : Option Addr) (c : Nat) (l : List Int) (w : World) (hn : l.length ≤ 1099511627776) (hH : Has w a l) : Calls Try.prog 85 #[.slice a l.length c, .func (.func 84) #[] #[]] w fun e w' => e = .returned (.bool (l.all u32B)) ∧ w = w' := by
  have HH := Hid.mk' hH
  clear hH
  go_enter Try.func85, Try.ntmps85
  go_wp2_with fail
  go_loop [9] (fun i => ∃ k : Nat, k ≤ l.length ∧ i = .int .i64 k ∧ ∀ j, j < k → u32B (l.getD j 0) = true) (fun i => l.length - (intOf i).toNat)
  case atStart => exact ⟨0, Nat.zero_le _, rfl, fun j h => by omega⟩
  case round =>
    obtain ⟨k, hk, rfl, hall⟩ := hrel
    by_cases hlt : k < l.length
    · have hki : (k : Int) < (l.length : Int) := by omega
      rcases HH.out with hx | ⟨b1, o1, ea, hc⟩
      · subst hx; simp at hlt
      have d := hc k hlt
      subst ea
      have HK := Hid.mk' (iu32_c (l.getD k 0))
      generalize hy : l.getD k 0 = y at *
      generalize hz : u32B y = z at *
      cases z
      · have HFIN := Hid.mk' (all_f l k hlt (by rw [hy]; exact hz))
        clear hall hc hy hz HH
        go_wp2_with (refine (HK.out _).mono ?_; rintro e w1 ⟨rfl, rfl⟩)
        go_ret
        exact ⟨by rw [HFIN.out]; rfl, rfl⟩
      · have HA2 : Hid (∀ j, j < k + 1 → u32B (l.getD j 0) = true) := fun j hj => by
          rcases (by omega : j < k ∨ j = k) with h | h
          · exact hall j h
          · subst h; rw [hy]; exact hz
        clear hall hc hy hz HH
        go_wp2_with (refine (HK.out _).mono ?_; rintro e w1 ⟨rfl, rfl⟩)
        go_round
        case rel => exact ⟨k + 1, by omega, by go_num, HA2.out⟩
        case measure => simp [intOf]; omega
    · have e : k = l.length := by omega
      subst e
      have HFIN := Hid.mk' (all_t l hall)
      clear hall HH
      go_wp2
      go_ret
      exact ⟨by rw [HFIN.out]; rfl, rfl⟩
theorem ibt_c (x : Int) (w : World) : Calls Try.prog 54 #[.int .i64 x] w fun e w' => e = .returned (.bool (decide (x = 64) || tyB x)) ∧ w = w' := by
  have H := Hid.mk' (ity_c x)
  by_cases h : x = 64
  · subst h
    go_enter Try.func54, Try.ntmps54
    go_wp2
    go_ret
    exact ⟨rfl, rfl⟩
  · have f : (x == (64 : Int)) = false := by simpa using h
    have HH := Hid.mk' h
    clear h
    go_enter Try.func54, Try.ntmps54
    go_wp2_with (refine (H.out _).mono ?_; rintro e w1 ⟨rfl, rfl⟩)
    go_ret
    exact ⟨by simp [HH.out], rfl⟩
/-- Behind the boxes and the call of OpForm: what lies in both. -/
theorem boxes {w w1 : World} {c0 c1 c2 c3 c4 : Value} (h : Below (((w.alloc (.cells #[c0, c1, c2, c3, c4] 26)).alloc (.cells #[c0, c1, c2, c3, c4] 26)).drew).heap.size (((w.alloc (.cells #[c0, c1, c2, c3, c4] 26)).alloc (.cells #[c0, c1, c2, c3, c4] 26)).drew) w1) :
    C5 w1 w.heap.size 0 c0 c1 c2 c3 c4 ∧ C5 w1 (w.heap.size + 1) 0 c0 c1 c2 c3 c4 ∧ Below w.heap.size w w1 := by
  have h' : Below ((w.alloc (.cells #[c0, c1, c2, c3, c4] 26)).alloc (.cells #[c0, c1, c2, c3, c4] 26)).heap.size ((w.alloc (.cells #[c0, c1, c2, c3, c4] 26)).alloc (.cells #[c0, c1, c2, c3, c4] 26)) w1 := ⟨h.os, h.tape, h.output, h.size, h.block⟩
  refine ⟨(C5.new.past).keep h', ?_, up2 h'⟩
  have := (C5.new (w := w.alloc (.cells #[c0, c1, c2, c3, c4] 26)) (a := c0) (b := c1) (c := c2) (d := c3) (e := c4) (t := 26)).keep h'
  simpa using this
theorem bset {w w1 : World} {o : Nat} {v : Value} (h : Below w.heap.size w w1) : Below w.heap.size w (w1.setCell ⟨w.heap.size + 1, o, none⟩ v) := h.setCell (by show w.heap.size ≤ w.heap.size + 1; omega) _
end Go.Proofs.Yteaegmlnacnofaa
