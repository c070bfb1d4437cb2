import Derived.Test.YtbdcgifdggpnlaaTE
set_option linter.all false
set_option linter.unusedVariables false
namespace Go.Proofs.Ytbdcgifdggpnlaa
open Go.RowKit Go.Sort
set_option maxRecDepth 100000
set_option maxHeartbeats 2000000 in
theorem sTE_c (v v' : Value) (xs ys xs' ys' : List Int) (w : World) (hx : xs.length ≤ 1099511627776) (hy : ys.length ≤ 1099511627776) (h : FV w v xs ys) (h' : FV w v' xs' ys') :
    Calls Try.prog 10 #[v, v'] w fun e w' => e = .returned (.bool (decide (xs = xs') && decide (ys = ys'))) ∧ Below w.heap.size w w' := by
  obtain ⟨pa, pc, ra, rc, rfl, h1, h2⟩ := h
  obtain ⟨pa', pc', ra', rc', rfl, h3, h4⟩ := h'
  obtain ⟨W, hW⟩ : ∃ W, W = (w.alloc (.cells #[.slice pa xs.length pc, .slice ra ys.length rc] 33)).alloc (.cells #[.slice pa' xs'.length pc', .slice ra' ys'.length rc'] 33) := ⟨_, rfl⟩
  have c0 : W.cell? ⟨w.heap.size, 0, none⟩ = some (.slice pa xs.length pc) := by
    rw [hW, World.cell?_alloc_past _ _ _ (by simp)]; exact cell_new rfl rfl
  have c1 : W.cell? ⟨w.heap.size, 1, none⟩ = some (.slice ra ys.length rc) := by
    rw [hW, World.cell?_alloc_past _ _ _ (by simp)]; exact cell_new rfl rfl
  have c2 : W.cell? ⟨w.heap.size + 1, 0, none⟩ = some (.slice pa' xs'.length pc') := by
    rw [hW]; exact cell_new (by simp) rfl
  have c3 : W.cell? ⟨w.heap.size + 1, 1, none⟩ = some (.slice ra' ys'.length rc') := by
    rw [hW]; exact cell_new (by simp) rfl
  have H1 := Hid.mk' ((h1.alloc (.cells #[.slice pa xs.length pc, .slice ra ys.length rc] 33)).alloc (.cells #[.slice pa' xs'.length pc', .slice ra' ys'.length rc'] 33))
  have H2 := Hid.mk' ((h2.alloc (.cells #[.slice pa xs.length pc, .slice ra ys.length rc] 33)).alloc (.cells #[.slice pa' xs'.length pc', .slice ra' ys'.length rc'] 33))
  have H3 := Hid.mk' ((h3.alloc (.cells #[.slice pa xs.length pc, .slice ra ys.length rc] 33)).alloc (.cells #[.slice pa' xs'.length pc', .slice ra' ys'.length rc'] 33))
  have H4 := Hid.mk' ((h4.alloc (.cells #[.slice pa xs.length pc, .slice ra ys.length rc] 33)).alloc (.cells #[.slice pa' xs'.length pc', .slice ra' ys'.length rc'] 33))
  rw [← hW] at H1 H2 H3 H4
  clear h1 h2 h3 h4
  have hbel : Below w.heap.size w W := by rw [hW]; exact ((Below.refl _ _).alloc (Nat.le_refl _) _).alloc (by simp) _
  have HW := Hid.mk' hW
  clear hW
  by_cases hl : xs'.length = xs.length
  · by_cases hl' : ys'.length = ys.length
    · rw [hl] at c2
      rw [hl'] at c3
      have HWe : Hid ((w.alloc (.cells #[.slice pa xs.length pc, .slice ra ys.length rc] 33)).alloc (.cells #[.slice pa' xs.length pc', .slice ra' ys.length rc'] 33) = W) := by
        have := HW.out.symm
        rw [hl, hl'] at this
        exact this
      rw [hl, hl']
      have HL := Hid.mk' hl
      have HL' := Hid.mk' hl'
      have C := Hid.mk' (And.intro c0 (And.intro c1 (And.intro c2 c3)))
      clear hl hl' c0 c1 c2 c3 HW
      go_enter Try.func10, Try.ntmps10
      go_wp2_with fail
      rw [HWe.out]
      go_loopw [5] (fun i wr => ∃ k : Nat, k ≤ xs.length ∧ i = .int .i64 k ∧ (∀ j, j < k → xs.getD j 0 = xs'.getD j 0) ∧ ∃ m, wr = W.drewN m) (fun i _ => xs.length - (intOf i).toNat)
      case atStart => exact ⟨0, Nat.zero_le _, rfl, fun j hj => by omega, 0, rfl⟩
      case round =>
        obtain ⟨k, hk, rfl, hall, m, rfl⟩ := hrel
        have HA := Hid.mk' hall
        clear hall
        obtain ⟨c0, c1, c2, c3⟩ := C.out
        by_cases hlt : k < xs.length
        · rcases H1.out with h | ⟨b1, o1, ea, hc1⟩
          · subst h; simp at hlt
          rcases H3.out with h | ⟨b2, o2, ea', hc2⟩
          · have := HL.out; rw [h] at this; simp at this; omega
          have d1 : W.cell? ⟨b1, o1 + k, none⟩ = some (.int .i64 (xs.getD k 0)) := hc1 k hlt
          have d2 : W.cell? ⟨b2, o2 + k, none⟩ = some (.int .i64 (xs'.getD k 0)) := hc2 k (by rw [HL.out]; exact hlt)
          subst ea ea'
          have hki : (k : Int) < (xs.length : Int) := by omega
          obtain ⟨x, hx'⟩ : ∃ x, x = xs.getD k 0 := ⟨_, rfl⟩
          obtain ⟨y, hy'⟩ : ∃ y, y = xs'.getD k 0 := ⟨_, rfl⟩
          rw [← hx'] at d1
          rw [← hy'] at d2
          have HX := Hid.mk' hx'
          have HY := Hid.mk' hy'
          clear hc1 hc2 H1 H2 H3 H4 C HWe c1 c3 hx' hy'
          by_cases he : x = y
          · subst he
            go_wp2
            refine wp_region_quiet_lit (by kernel_rfl) (by kernel_rfl) ?_
            (repeat (quiet_step (fail)))
            refine wpQuiet_nil ?_
            intro _ hw'
            obtain ⟨nq, hw''⟩ := hw'
            subst hw''
            go_wp2
            go_roundw
            case rel => exact ⟨k + 1, by omega, by go_num, fun j hj => by
              rcases (by omega : j < k ∨ j = k) with h | h
              · exact HA.out j h
              · subst h; rw [← HX.out, ← HY.out], m + nq, by simp [World.drewN, Nat.add_assoc]⟩
            case measure => simp [intOf]; omega
          · have f1 : (x != y) = true := by simpa using he
            have f2 : (x == y) = false := by simpa using he
            go_wp2
            refine wp_region_quiet_lit (by kernel_rfl) (by kernel_rfl) ?_
            (repeat (quiet_step (fail)))
            refine wpQuiet_nil ?_
            intro _ hw'
            obtain ⟨nq, hw''⟩ := hw'
            subst hw''
            go_wp2
            go_ret
            exact ⟨by rw [decide_eq_false (ne_at (k := k) (by rw [← HX.out, ← HY.out]; exact he))]; rfl, below_drewN' (below_drewN' hbel m) nq⟩
        · have hk2 : k = xs.length := by omega
          subst hk2
          have HE : Hid (decide (xs = xs') = true) := decide_eq_true (eq_all HL.out.symm HA.out)
          clear HA H1 H3
          go_wp2_with fail
          go_loopw [6] (fun i wr => ∃ k : Nat, k ≤ ys.length ∧ i = .int .i64 k ∧ (∀ j, j < k → ys.getD j 0 = ys'.getD j 0) ∧ ∃ m, wr = W.drewN m) (fun i _ => ys.length - (intOf i).toNat)
          case atStart => exact ⟨0, Nat.zero_le _, rfl, fun j hj => by omega, m, rfl⟩
          case round =>
            obtain ⟨k, hk, rfl, hall, m, rfl⟩ := hrel
            have HA := Hid.mk' hall
            clear hall
            by_cases hlt : k < ys.length
            · rcases H2.out with h | ⟨b1, o1, ea, hc1⟩
              · subst h; simp at hlt
              rcases H4.out with h | ⟨b2, o2, ea', hc2⟩
              · have := HL'.out; rw [h] at this; simp at this; omega
              have d1 : W.cell? ⟨b1, o1 + k, none⟩ = some (.int .i64 (ys.getD k 0)) := hc1 k hlt
              have d2 : W.cell? ⟨b2, o2 + k, none⟩ = some (.int .i64 (ys'.getD k 0)) := hc2 k (by rw [HL'.out]; exact hlt)
              subst ea ea'
              have hki : (k : Int) < (ys.length : Int) := by omega
              obtain ⟨x, hx'⟩ : ∃ x, x = ys.getD k 0 := ⟨_, rfl⟩
              obtain ⟨y, hy'⟩ : ∃ y, y = ys'.getD k 0 := ⟨_, rfl⟩
              rw [← hx'] at d1
              rw [← hy'] at d2
              have HX := Hid.mk' hx'
              have HY := Hid.mk' hy'
              clear hc1 hc2 H2 H4 C HWe c0 c2 hx' hy'
              by_cases he : x = y
              · subst he
                go_wp2
                refine wp_region_quiet_lit (by kernel_rfl) (by kernel_rfl) ?_
                (repeat (quiet_step (fail)))
                refine wpQuiet_nil ?_
                intro _ hw'
                obtain ⟨nq, hw''⟩ := hw'
                subst hw''
                go_wp2
                go_roundw
                case rel => exact ⟨k + 1, by omega, by go_num, fun j hj => by
                  rcases (by omega : j < k ∨ j = k) with h | h
                  · exact HA.out j h
                  · subst h; rw [← HX.out, ← HY.out], m + nq, by simp [World.drewN, Nat.add_assoc]⟩
                case measure => simp [intOf]; omega
              · have f1 : (x != y) = true := by simpa using he
                have f2 : (x == y) = false := by simpa using he
                go_wp2
                refine wp_region_quiet_lit (by kernel_rfl) (by kernel_rfl) ?_
                (repeat (quiet_step (fail)))
                refine wpQuiet_nil ?_
                intro _ hw'
                obtain ⟨nq, hw''⟩ := hw'
                subst hw''
                go_wp2
                go_ret
                exact ⟨by rw [HE.out, Bool.true_and, decide_eq_false (ne_at (k := k) (by rw [← HX.out, ← HY.out]; exact he))]; rfl, below_drewN' (below_drewN' hbel m) nq⟩
            · have hk2 : k = ys.length := by omega
              subst hk2
              go_wp2
              go_ret
              exact ⟨by rw [HE.out, Bool.true_and, decide_eq_true (eq_all HL'.out.symm HA.out)]; rfl, below_drewN' hbel m⟩
    · have f : ¬ ((ys.length : Int) = (ys'.length : Int)) := by omega
      have f1 : ((ys.length : Int) != (ys'.length : Int)) = true := by simpa using f
      have f2 : ((ys.length : Int) == (ys'.length : Int)) = false := by simpa using f
      have HN : Hid (ys ≠ ys') := fun e => hl' (by rw [e])
      rw [hl] at c2
      have HWe : Hid ((w.alloc (.cells #[.slice pa xs.length pc, .slice ra ys.length rc] 33)).alloc (.cells #[.slice pa' xs.length pc', .slice ra' ys'.length rc'] 33) = W) := by
        have := HW.out.symm
        rw [hl] at this
        exact this
      rw [hl]
      clear hl hl' H1 H2 H3 H4 HW f hx hy
      go_enter Try.func10, Try.ntmps10
      go_wp2
      go_ret
      exact ⟨by rw [decide_eq_false HN.out, Bool.and_false]; rfl, by rw [HWe.out]; exact hbel⟩
  · have f : ¬ ((xs.length : Int) = (xs'.length : Int)) := by omega
    have f1 : ((xs.length : Int) != (xs'.length : Int)) = true := by simpa using f
    have f2 : ((xs.length : Int) == (xs'.length : Int)) = false := by simpa using f
    have HN : Hid (xs ≠ xs') := fun e => hl (by rw [e])
    clear hl H1 H2 H3 H4 f hx hy
    go_enter Try.func10, Try.ntmps10
    go_wp2
    go_ret
    exact ⟨by rw [decide_eq_false HN.out, Bool.false_and]; rfl, by rw [← HW.out]; exact hbel⟩
end Go.Proofs.Ytbdcgifdggpnlaa
