import Derived.Test.YtkboihakpioebaaCur
set_option linter.all false
set_option linter.unusedVariables false
namespace Go.Proofs.Ytkboihakpioebaa
open Go.RowKit
theorem Has.alloc {w : World} {a : Option Addr} {xs : List Int} (h : Has w a xs) (o : Obj) : Has (w.alloc o) a xs := by
  rcases h with h | ⟨b, o', e, hc⟩
  · exact .inl h
  · exact .inr ⟨b, o', e, fun i hi => by rw [World.cell?_alloc_past _ _ _ (World.block_lt_of_cell? w _ (hc i hi))]; exact hc i hi⟩
set_option maxHeartbeats 2000000 in
theorem teq_c (B C B' C' : Nat) (p r p' r' : Value) (xs ys : List Int) (w : World) (hx : xs.length ≤ 1000) (hy : ys.length ≤ 1000) (h : FT w B C p r xs.length ys.length xs ys) (h' : FT w B' C' p' r' xs.length ys.length xs ys) :
    Calls Try.prog 26 #[.agg #[p, r], .agg #[p', r']] w fun e w' => e = .returned (.bool true) ∧ Below w.heap.size w w' := by
  obtain ⟨pa, pc, rfl, h1⟩ := own_shape h.hp
  obtain ⟨ra, rc, rfl, h2⟩ := own_shape h.hr
  obtain ⟨pa', pc', rfl, h3⟩ := own_shape h'.hp
  obtain ⟨ra', rc', rfl, h4⟩ := own_shape h'.hr
  clear h h'
  obtain ⟨W, hW⟩ : ∃ W, W = (w.alloc (.cells #[.slice pa xs.length pc, .slice ra ys.length rc] 29)).alloc (.cells #[.slice pa' xs.length pc', .slice ra' ys.length rc'] 29) := ⟨_, rfl⟩
  have c0 : ∀ m, (W.drewN m).cell? ⟨w.heap.size, 0, none⟩ = some (.slice pa xs.length pc) := fun m => by
    show W.cell? _ = _
    rw [hW, World.cell?_alloc_past _ _ _ (by simp)]; exact cell_new rfl rfl
  have c1 : ∀ m, (W.drewN m).cell? ⟨w.heap.size, 1, none⟩ = some (.slice ra ys.length rc) := fun m => by
    show W.cell? _ = _
    rw [hW, World.cell?_alloc_past _ _ _ (by simp)]; exact cell_new rfl rfl
  have c2 : ∀ m, (W.drewN m).cell? ⟨w.heap.size + 1, 0, none⟩ = some (.slice pa' xs.length pc') := fun m => by
    show W.cell? _ = _
    rw [hW]; exact cell_new (by simp) rfl
  have c3 : ∀ m, (W.drewN m).cell? ⟨w.heap.size + 1, 1, none⟩ = some (.slice ra' ys.length rc') := fun m => by
    show W.cell? _ = _
    rw [hW]; exact cell_new (by simp) rfl
  have H1 := Hid.mk' ((h1.alloc (.cells #[.slice pa xs.length pc, .slice ra ys.length rc] 29)).alloc (.cells #[.slice pa' xs.length pc', .slice ra' ys.length rc'] 29))
  have H2 := Hid.mk' ((h2.alloc (.cells #[.slice pa xs.length pc, .slice ra ys.length rc] 29)).alloc (.cells #[.slice pa' xs.length pc', .slice ra' ys.length rc'] 29))
  have H3 := Hid.mk' ((h3.alloc (.cells #[.slice pa xs.length pc, .slice ra ys.length rc] 29)).alloc (.cells #[.slice pa' xs.length pc', .slice ra' ys.length rc'] 29))
  have H4 := Hid.mk' ((h4.alloc (.cells #[.slice pa xs.length pc, .slice ra ys.length rc] 29)).alloc (.cells #[.slice pa' xs.length pc', .slice ra' ys.length rc'] 29))
  rw [← hW] at H1 H2 H3 H4
  clear h1 h2 h3 h4
  have hbel : Below w.heap.size w W := by rw [hW]; exact ((Below.refl _ _).alloc (Nat.le_refl _) _).alloc (by simp) _
  have HW := Hid.mk' hW
  have C0 := Hid.mk' c0
  have C1 := Hid.mk' c1
  have C2 := Hid.mk' c2
  have C3 := Hid.mk' c3
  clear hW c0 c1 c2 c3
  go_enter Try.func26, Try.ntmps26
  go_wp2_with fail
  rw [← HW.out]
  go_loopw [5] (fun i wr => ∃ k : Nat, k ≤ xs.length ∧ i = .int .i64 k ∧ ∃ m, wr = W.drewN m) (fun i _ => xs.length - (intOf i).toNat)
  case atStart => exact ⟨0, Nat.zero_le _, rfl, 0, rfl⟩
  case round =>
    obtain ⟨k, hk, rfl, m, rfl⟩ := hrel
    have c0 : W.cell? ⟨w.heap.size, 0, none⟩ = some (.slice pa xs.length pc) := C0.out m
    have c2 : W.cell? ⟨w.heap.size + 1, 0, none⟩ = some (.slice pa' xs.length pc') := C2.out m
    by_cases hlt : k < xs.length
    · rcases H1.out with h | ⟨b1, o1, ea, hc1⟩
      · subst h; simp at hlt
      rcases H3.out with h | ⟨b2, o2, ea', hc2⟩
      · subst h; simp at hlt
      have d1 : W.cell? ⟨b1, o1 + k, none⟩ = some (.int .i64 (xs.getD k 0)) := hc1 k hlt
      have d2 : W.cell? ⟨b2, o2 + k, none⟩ = some (.int .i64 (xs.getD k 0)) := hc2 k hlt
      subst ea ea'
      have hki : (k : Int) < (xs.length : Int) := by omega
      clear hc1 hc2 H1 H2 H3 H4 C0 C1 C2 C3 HW
      go_wp2
      refine wp_region_quiet_lit (by kernel_rfl) (by kernel_rfl) ?_
      (repeat (quiet_step (fail)))
      refine wpQuiet_nil ?_
      intro _ hw'
      obtain ⟨nq, hw''⟩ := hw'
      subst hw''
      go_wp2
      go_roundw
      case rel => exact ⟨k + 1, by omega, by go_num, _, rfl⟩
      case measure => simp [intOf]; omega
    · have hk2 : k = xs.length := by omega
      subst hk2
      go_wp2_with fail
      go_loopw [6] (fun i wr => ∃ k : Nat, k ≤ ys.length ∧ i = .int .i64 k ∧ ∃ m, wr = W.drewN m) (fun i _ => ys.length - (intOf i).toNat)
      case atStart => exact ⟨0, Nat.zero_le _, rfl, m, rfl⟩
      case round =>
        obtain ⟨k, hk, rfl, m, rfl⟩ := hrel
        have c1 : W.cell? ⟨w.heap.size, 1, none⟩ = some (.slice ra ys.length rc) := C1.out m
        have c3 : W.cell? ⟨w.heap.size + 1, 1, none⟩ = some (.slice ra' ys.length rc') := C3.out m
        by_cases hlt : k < ys.length
        · rcases H2.out with h | ⟨b1, o1, ea, hc1⟩
          · subst h; simp at hlt
          rcases H4.out with h | ⟨b2, o2, ea', hc2⟩
          · subst h; simp at hlt
          have d1 : W.cell? ⟨b1, o1 + k, none⟩ = some (.int .i64 (ys.getD k 0)) := hc1 k hlt
          have d2 : W.cell? ⟨b2, o2 + k, none⟩ = some (.int .i64 (ys.getD k 0)) := hc2 k hlt
          subst ea ea'
          have hki : (k : Int) < (ys.length : Int) := by omega
          clear hc1 hc2 H1 H2 H3 H4 C0 C1 C2 C3 HW
          go_wp2
          refine wp_region_quiet_lit (by kernel_rfl) (by kernel_rfl) ?_
          (repeat (quiet_step (fail)))
          refine wpQuiet_nil ?_
          intro _ hw'
          obtain ⟨nq, hw''⟩ := hw'
          subst hw''
          go_wp2
          go_roundw
          case rel => exact ⟨k + 1, by omega, by go_num, _, rfl⟩
          case measure => simp [intOf]; omega
        · go_wp2
          go_ret
          exact ⟨rfl, below_drewN' hbel m⟩
end Go.Proofs.Ytkboihakpioebaa
