import Derived.Test.YteaegmlnacnofaaK3
import Derived.Lib.QuietBelow
set_option linter.all false
set_option linter.unusedVariables false
namespace Go.Proofs.Yteaegmlnacnofaa
open Go.RowKit Go.Sort
theorem Cp.lst {w wr : World} {g : Nat} {xs : List In} (h : Cp w g xs.length xs.length xs wr) : Lst wr (some ⟨g, 0, none⟩) xs := by
  refine .inr ⟨g, 0, rfl, fun i hi => ?_⟩
  obtain ⟨q, c, o⟩ := h.done i hi
  obtain ⟨⟨h0, h1, h2, h3, h4⟩, _⟩ := c
  rw [Nat.zero_add]
  exact ⟨_, _, h0, h1, h2, h3, h4, own_has o⟩
set_option maxHeartbeats 1000000 in
theorem eqIn_c (x : In) (la la' : Option Addr) (lc lc' : Nat) (w : World) (hl : x.l.length ≤ 1099511627776) (h : Has w la x.l) (h' : Has w la' x.l) :
    Calls Try.prog 31 #[inV x la lc, inV x la' lc'] w fun e w' => e = .returned (.bool true) ∧ Below w.heap.size w w' := by
  have b2 : ∀ o1 o2, Below w.heap.size w ((w.alloc o1).alloc o2) := fun o1 o2 => ((Below.refl _ _).alloc (Nat.le_refl _) _).alloc (by simp) _
  have H := Hid.mk' (fun o1 o2 => eq_any la la' lc lc' x.l ((w.alloc o1).alloc o2) hl (h.keep (b2 o1 o2)) (h'.keep (b2 o1 o2)))
  have HB := Hid.mk' b2
  clear h h' b2
  go_enter Try.func31, Try.ntmps31
  go_wp2_with fail
  refine (H.out _ _).mono ?_
  rintro e w1 ⟨rfl, n1, rfl⟩
  go_wp2
  go_ret
  exact ⟨rfl, below_drewN' (HB.out _ _) n1⟩
set_option maxHeartbeats 2000000 in
theorem eqIs_c (a a' : Option Addr) (c c' : Nat) (xs : List In) (w : World) (hn : xs.length ≤ 1099511627776) (hl : ∀ i, i < xs.length → (xs.getD i I0).l.length ≤ 1099511627776) (h : Lst w a xs) (h' : Lst w a' xs) :
    Calls Try.prog 18 #[.slice a xs.length c, .slice a' xs.length c'] w fun e w' => e = .returned (.bool true) ∧ Below w.heap.size w w' := by
  have H1 := Hid.mk' h
  have H2 := Hid.mk' h'
  have H3 := Hid.mk' hl
  clear h h' hl
  go_enter Try.func18, Try.ntmps18
  go_wp2
  go_loopw [5] (fun i wr => ∃ k : Nat, k ≤ xs.length ∧ i = .int .i64 k ∧ Below w.heap.size w wr) (fun i _ => xs.length - (intOf i).toNat)
  case atStart => exact ⟨0, Nat.zero_le _, rfl, Below.refl _ _⟩
  case round =>
    obtain ⟨k, hk, rfl, hb⟩ := hrel
    by_cases hlt : k < xs.length
    · have hki : (k : Int) < (xs.length : Int) := by omega
      rcases H1.out.keep hb with hx | ⟨b, o, ea, hc⟩
      · subst hx; simp at hlt
      rcases H2.out.keep hb with hx | ⟨b', o', ea', hc'⟩
      · subst hx; simp at hlt
      obtain ⟨la, lc, c0, c1, c2, c3, c4, c5⟩ := hc k hlt
      obtain ⟨la', lc', d0, d1, d2, d3, d4, d5⟩ := hc' k hlt
      have hl := H3.out k hlt
      subst ea ea'
      generalize xs.getD k I0 = x at *
      have k0 := cell_regrown c0
      have k1 := cell_regrown c1
      have k2 := cell_regrown c2
      have k3 := cell_regrown c3
      have k4 := cell_regrown c4
      have m0 := cell_regrown d0
      have m1 := cell_regrown d1
      have m2 := cell_regrown d2
      have m3 := cell_regrown d3
      have m4 := cell_regrown d4
      have cE : ∀ d os, Calls Try.prog 31 #[inV x la lc, inV x la' lc'] (grow (redrawn wr d) os) fun e w'' => e = .returned (.bool true) ∧ ∃ p : Regrown, w'' = grow (redrawn wr p.d) p.os := fun d os => Calls.regrown_of (eqIn_c x la la' lc lc' _ hl (c5.keep (below_regrown wr d os)) (d5.keep (below_regrown wr d os)))
      have HB := Hid.mk' hb
      have HE := Hid.mk' cE
      clear hb hc hc' c5 d5 hl H1 H2 H3 cE c0 c1 c2 c3 c4 d0 d1 d2 d3 d4
      go_wp2
      refine wp_region_quiet_below (by kernel_rfl) (by kernel_rfl) ?_
      repeat (quiet_step (exact HE.out _ _))
      refine wpQuiet_nil ?_
      intro _ hw'
      obtain ⟨⟨dq, osq⟩, hw''⟩ := hw'
      subst hw''
      have hw5 := HB.out.trans ((below_regrown wr dq osq).mono HB.out.size)
      clear k0 k1 k2 k3 k4 m0 m1 m2 m3 m4
      generalize grow (redrawn wr dq) osq = w5 at *
      show Exit.then _ _ Exit.normal _ w5
      go_wp2
      go_roundw
      case rel => exact ⟨k + 1, by omega, by go_num, hw5⟩
      case measure => simp [intOf]; omega
    · go_wp2
      go_ret
      exact ⟨rfl, hb⟩
end Go.Proofs.Yteaegmlnacnofaa
