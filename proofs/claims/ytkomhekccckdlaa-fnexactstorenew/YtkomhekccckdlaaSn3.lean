import Derived.Test.YtkomhekccckdlaaSn2
set_option linter.all false
set_option linter.unusedVariables false
namespace Go.Proofs.Ytkomhekccckdlaa
open Go.RowKit Go.Sort
set_option maxRecDepth 100000
set_option maxHeartbeats 2000000 in
theorem heldFIs_c (x : F4) (b : Nat) (w : World) (Q M : Nat → Int) (hA : ∀ k, k < 4 → x.At w b k)
    (hh : ∀ k, k < 4 → x.h k = Q k ∧ Q (k + 1) = x.i k + 1 ∧ 0 ≤ Q k ∧ Q k ≤ 1000 ∧ 0 ≤ M k ∧ M k ≤ 1000 ∧ 0 ≤ x.i k ∧ x.i k ≤ 1000) (h0 : Q 0 = 1)
    (h1 : ∀ k, k < 4 → Calls Try.prog 42 #[.slice (x.pa k) (x.pn k) (x.pn k), .int .i64 (Q k + 1)] w fun e w' => e = .returned (.int .i64 (M k)) ∧ w = w')
    (h2 : ∀ k, k < 4 → Calls Try.prog 42 #[.slice (x.ra k) (x.rn k) (x.rn k), .int .i64 (M k)] w fun e w' => e = .returned (.int .i64 (x.i k)) ∧ w = w') :
    Calls Try.prog 24 #[.slice (some ⟨b, 0, none⟩) 4 4, .int .i64 1] w fun e w' => e = .returned (.int .i64 (Q 4)) ∧ w = w' := by
  have G1 := Hid.mk' hA
  have G3 := Hid.mk' hh
  have G4 := Hid.mk' h1
  have G5 := Hid.mk' h2
  have G0 := Hid.mk' h0
  clear hA hh h1 h2 h0
  go_enter Try.func24, Try.ntmps24
  go_wp2
  go_loop [1, 5] (fun q i => ∃ k : Nat, k ≤ 4 ∧ i = .int .i64 k ∧ q = .int .i64 (Q k)) (fun _ i => 4 - (intOf i).toNat)
  case atStart => exact ⟨0, Nat.zero_le _, rfl, by rw [G0.out]⟩
  case round =>
    obtain ⟨k, hk, rfl, rfl⟩ := hrel
    by_cases hlt : k < 4
    · have hki : (k : Int) < 4 := by omega
      obtain ⟨c0, c1, c2, c3, c4, c5⟩ := G1.out k hlt
      obtain ⟨e0, e1, b1, b2, b3, b4, b5, b6⟩ := G3.out k hlt
      have f1 := G4.out k hlt
      have f2 := G5.out k hlt
      rw [e0] at c0
      have E1 := Hid.mk' e1
      clear e0 e1
      generalize x.i k = xi at *
      generalize x.pa k = xpa at *
      generalize x.pn k = xpn at *
      generalize x.ra k = xra at *
      generalize x.rn k = xrn at *
      generalize Q k = q at *
      generalize M k = m at *
      have w1 : IntKind.i64.wrap (q + 1) = q + 1 := by rw [IntKind.wrap_i64]; omega
      have w2 : IntKind.i64.wrap (xi + 1) = xi + 1 := by rw [IntKind.wrap_i64]; omega
      have n1 : ¬ m < 0 := by omega
      have n2 : ¬ xi < 0 := by omega
      have n3 : ¬ xi + 1 < 0 := by omega
      have F1 := Hid.mk' f1
      have F2 := Hid.mk' f2
      have F3 := Hid.mk' (heldI_nil (xi + 1) w)
      have F4 := Hid.mk' (heldIns_nil (xi + 1) w)
      clear f1 f2 G0 G1 G3 G4 G5
      go_wp2_with fail
      refine F1.out.mono ?_
      rintro e w1 ⟨rfl, rfl⟩
      go_wp2_with fail
      refine F2.out.mono ?_
      rintro e w1 ⟨rfl, rfl⟩
      go_wp2_with fail
      refine F3.out.mono ?_
      rintro e w1 ⟨rfl, rfl⟩
      go_wp2_with fail
      refine F4.out.mono ?_
      rintro e w1 ⟨rfl, rfl⟩
      go_wp2
      go_round
      case rel => exact ⟨k + 1, by omega, by go_num, by rw [E1.out]⟩
      case measure => simp [intOf]; omega
    · have e : k = 4 := by omega
      subst e
      go_wp2
      go_ret
      exact ⟨rfl, rfl⟩
/-- One round of the marking: the worlds between, and what is read in each. -/
structure MkR (b k : Nat) (pa ra : Option Addr) (pn rn : Nat) (q m n : Int) (W W1 W2 W3 W4 : World) : Prop where
  e1 : W.setCell ⟨b, k * 6, none⟩ (.int .i64 q) = W1
  c0 : ∃ u, W.cell? ⟨b, k * 6, none⟩ = some u
  z0 : W.frozen? ⟨b, k * 6, none⟩ = false
  c1 : W1.cell? ⟨b, k * 6 + 1, none⟩ = some (.slice pa pn pn)
  m1 : Calls Try.prog 37 #[.slice pa pn pn, .int .i64 (q + 1)] W1 fun e w' => e = .returned (.int .i64 m) ∧ W2 = w'
  c2 : W2.cell? ⟨b, k * 6 + 2, none⟩ = some (.slice ra rn rn)
  m2 : Calls Try.prog 37 #[.slice ra rn rn, .int .i64 m] W2 fun e w' => e = .returned (.int .i64 n) ∧ W3 = w'
  c3 : ∃ u, W3.cell? ⟨b, k * 6 + 3, none⟩ = some u
  z3 : W3.frozen? ⟨b, k * 6 + 3, none⟩ = false
  e4 : W3.setCell ⟨b, k * 6 + 3, none⟩ (.int .i64 n) = W4
  c4 : W4.cell? ⟨b, k * 6 + 4, none⟩ = some (.slice none 0 0)
  c5 : W4.cell? ⟨b, k * 6 + 5, none⟩ = some (.slice none 0 0)
set_option maxHeartbeats 2000000 in
theorem markFIs_c (b : Nat) (w : World) (Q M N : Nat → Int) (pa ra : Nat → Option Addr) (pn rn : Nat → Nat) (R : Nat → World → Prop) (hR : R 0 w)
    (hh : ∀ k, k < 4 → Q (k + 1) = N k + 1 ∧ 0 ≤ Q k ∧ Q k ≤ 1000 ∧ 0 ≤ N k ∧ N k ≤ 1000) (h0 : Q 0 = 1)
    (hs : ∀ k, k < 4 → ∀ W, R k W → ∃ W1 W2 W3 W4, MkR b k (pa k) (ra k) (pn k) (rn k) (Q k) (M k) (N k) W W1 W2 W3 W4 ∧ R (k + 1) W4) :
    Calls Try.prog 17 #[.slice (some ⟨b, 0, none⟩) 4 4, .int .i64 1] w fun e w' => e = .returned (.int .i64 (Q 4)) ∧ R 4 w' := by
  have G1 := Hid.mk' hs
  have G3 := Hid.mk' hh
  have G0 := Hid.mk' h0
  have GR := Hid.mk' hR
  clear hs hh h0 hR
  go_enter Try.func17, Try.ntmps17
  go_wp2
  go_loopw [1, 5] (fun q i wr => ∃ k : Nat, k ≤ 4 ∧ i = .int .i64 k ∧ q = .int .i64 (Q k) ∧ R k wr) (fun _ i _ => 4 - (intOf i).toNat)
  case atStart => exact ⟨0, Nat.zero_le _, rfl, by rw [G0.out], GR.out⟩
  case round =>
    obtain ⟨k, hk, rfl, rfl, hr⟩ := hrel
    clear GR G0
    by_cases hlt : k < 4
    · have hki : (k : Int) < 4 := by omega
      obtain ⟨W1, W2, W3, W4, ⟨e1, ⟨u0, c0⟩, z0, c1, m1, c2, m2, ⟨u3, c3⟩, z3, e4, c4, c5⟩, hr4⟩ := G1.out k hlt wr hr
      obtain ⟨e0, b1, b2, b5, b6⟩ := G3.out k hlt
      have E1 := Hid.mk' e0
      have HR := Hid.mk' hr4
      clear e0 hr hr4 G1 G3
      generalize N k = xi at *
      generalize pa k = xpa at *
      generalize pn k = xpn at *
      generalize ra k = xra at *
      generalize rn k = xrn at *
      generalize Q k = q at *
      generalize M k = m at *
      have w1 : IntKind.i64.wrap (q + 1) = q + 1 := by rw [IntKind.wrap_i64]; omega
      have w2 : IntKind.i64.wrap (xi + 1) = xi + 1 := by rw [IntKind.wrap_i64]; omega
      have F1 := Hid.mk' m1
      have F2 := Hid.mk' m2
      have F3 := Hid.mk' (markI_nil (xi + 1) W4)
      have F4 := Hid.mk' (markIns_nil (xi + 1) W4)
      clear m1 m2
      go_wp2_with fail
      refine F1.out.mono ?_
      rintro e w1 ⟨rfl, rfl⟩
      go_wp2_with fail
      refine F2.out.mono ?_
      rintro e w1 ⟨rfl, rfl⟩
      go_wp2_with fail
      refine F3.out.mono ?_
      rintro e w1 ⟨rfl, rfl⟩
      go_wp2_with fail
      refine F4.out.mono ?_
      rintro e w1 ⟨rfl, rfl⟩
      go_wp2
      go_roundw
      case rel => exact ⟨k + 1, by omega, by go_num, by rw [E1.out], HR.out⟩
      case measure => simp [intOf]; omega
    · have e : k = 4 := by omega
      subst e
      go_wp2
      go_ret
      exact ⟨rfl, hr⟩
set_option maxHeartbeats 4000000 in
theorem eqSt_c (b b' : Nat) (w : World)
    (h1 : ∀ W, Below w.heap.size w W → Calls Try.prog 10 #[.slice (some ⟨b, 0, none⟩) 4 4, .slice (some ⟨b', 0, none⟩) 4 4] W fun e w' => e = .returned (.bool true) ∧ Below W.heap.size W w') :
    Calls Try.prog 6 #[.agg #[.slice (some ⟨b, 0, none⟩) 4 4, .slice none 0 0, .slice none 0 0, .slice none 0 0, .slice none 0 0, .slice none 0 0, .slice none 0 0], .agg #[.slice (some ⟨b', 0, none⟩) 4 4, .slice none 0 0, .slice none 0 0, .slice none 0 0, .slice none 0 0, .slice none 0 0, .slice none 0 0]] w fun e w' => e = .returned (.bool true) ∧ Below w.heap.size w w' := by
  have T0 : Hid (Bk ((w.alloc (.cells #[.slice (some ⟨b, 0, none⟩) 4 4, .slice none 0 0, .slice none 0 0, .slice none 0 0, .slice none 0 0, .slice none 0 0, .slice none 0 0] 30)).alloc (.cells #[.slice (some ⟨b', 0, none⟩) 4 4, .slice none 0 0, .slice none 0 0, .slice none 0 0, .slice none 0 0, .slice none 0 0, .slice none 0 0] 30)) w.heap.size [.slice (some ⟨b, 0, none⟩) 4 4, .slice none 0 0, .slice none 0 0, .slice none 0 0, .slice none 0 0, .slice none 0 0, .slice none 0 0] ∧ Bk ((w.alloc (.cells #[.slice (some ⟨b, 0, none⟩) 4 4, .slice none 0 0, .slice none 0 0, .slice none 0 0, .slice none 0 0, .slice none 0 0, .slice none 0 0] 30)).alloc (.cells #[.slice (some ⟨b', 0, none⟩) 4 4, .slice none 0 0, .slice none 0 0, .slice none 0 0, .slice none 0 0, .slice none 0 0, .slice none 0 0] 30)) (w.heap.size + 1) [.slice (some ⟨b', 0, none⟩) 4 4, .slice none 0 0, .slice none 0 0, .slice none 0 0, .slice none 0 0, .slice none 0 0, .slice none 0 0] ∧ Below w.heap.size w ((w.alloc (.cells #[.slice (some ⟨b, 0, none⟩) 4 4, .slice none 0 0, .slice none 0 0, .slice none 0 0, .slice none 0 0, .slice none 0 0, .slice none 0 0] 30)).alloc (.cells #[.slice (some ⟨b', 0, none⟩) 4 4, .slice none 0 0, .slice none 0 0, .slice none 0 0, .slice none 0 0, .slice none 0 0, .slice none 0 0] 30))) := two w [.slice (some ⟨b, 0, none⟩) 4 4, .slice none 0 0, .slice none 0 0, .slice none 0 0, .slice none 0 0, .slice none 0 0, .slice none 0 0] [.slice (some ⟨b', 0, none⟩) 4 4, .slice none 0 0, .slice none 0 0, .slice none 0 0, .slice none 0 0, .slice none 0 0, .slice none 0 0] 30 30
  have Kh1 := Hid.mk' h1
  clear h1
  go_enter Try.func6, Try.ntmps6
  go_upto_region 1 with fail
  refine wp_gen (fun W => Bk W w.heap.size [.slice (some ⟨b, 0, none⟩) 4 4, .slice none 0 0, .slice none 0 0, .slice none 0 0, .slice none 0 0, .slice none 0 0, .slice none 0 0] ∧ Bk W (w.heap.size + 1) [.slice (some ⟨b', 0, none⟩) 4 4, .slice none 0 0, .slice none 0 0, .slice none 0 0, .slice none 0 0, .slice none 0 0, .slice none 0 0] ∧ Below w.heap.size w W) T0.out ?_
  rintro W ⟨bb, bp, hb⟩
  clear T0
  have q0 : W.cell? ⟨w.heap.size, 0, none⟩ = some (.slice (some ⟨b, 0, none⟩) 4 4) := bb.2.1 0 _ rfl
  have p0 : W.cell? ⟨w.heap.size + 1, 0, none⟩ = some (.slice (some ⟨b', 0, none⟩) 4 4) := bp.2.1 0 _ rfl
  have q1 : W.cell? ⟨w.heap.size, 1, none⟩ = some (.slice none 0 0) := bb.2.1 1 _ rfl
  have p1 : W.cell? ⟨w.heap.size + 1, 1, none⟩ = some (.slice none 0 0) := bp.2.1 1 _ rfl
  have q2 : W.cell? ⟨w.heap.size, 2, none⟩ = some (.slice none 0 0) := bb.2.1 2 _ rfl
  have p2 : W.cell? ⟨w.heap.size + 1, 2, none⟩ = some (.slice none 0 0) := bp.2.1 2 _ rfl
  have q3 : W.cell? ⟨w.heap.size, 3, none⟩ = some (.slice none 0 0) := bb.2.1 3 _ rfl
  have p3 : W.cell? ⟨w.heap.size + 1, 3, none⟩ = some (.slice none 0 0) := bp.2.1 3 _ rfl
  have q4 : W.cell? ⟨w.heap.size, 4, none⟩ = some (.slice none 0 0) := bb.2.1 4 _ rfl
  have p4 : W.cell? ⟨w.heap.size + 1, 4, none⟩ = some (.slice none 0 0) := bp.2.1 4 _ rfl
  have q5 : W.cell? ⟨w.heap.size, 5, none⟩ = some (.slice none 0 0) := bb.2.1 5 _ rfl
  have p5 : W.cell? ⟨w.heap.size + 1, 5, none⟩ = some (.slice none 0 0) := bp.2.1 5 _ rfl
  have q6 : W.cell? ⟨w.heap.size, 6, none⟩ = some (.slice none 0 0) := bb.2.1 6 _ rfl
  have p6 : W.cell? ⟨w.heap.size + 1, 6, none⟩ = some (.slice none 0 0) := bp.2.1 6 _ rfl
  have HC := Hid.mk' (Kh1.out W hb)
  go_wp2_with fail
  refine HC.out.mono ?_
  rintro e W1 ⟨rfl, hb1⟩
  have bb := bb.keep hb1
  have bp := bp.keep hb1
  have hb := hb.trans (hb1.mono hb.size)
  clear HC hb1
  have q0 : W1.cell? ⟨w.heap.size, 0, none⟩ = some (.slice (some ⟨b, 0, none⟩) 4 4) := bb.2.1 0 _ rfl
  have p0 : W1.cell? ⟨w.heap.size + 1, 0, none⟩ = some (.slice (some ⟨b', 0, none⟩) 4 4) := bp.2.1 0 _ rfl
  have q1 : W1.cell? ⟨w.heap.size, 1, none⟩ = some (.slice none 0 0) := bb.2.1 1 _ rfl
  have p1 : W1.cell? ⟨w.heap.size + 1, 1, none⟩ = some (.slice none 0 0) := bp.2.1 1 _ rfl
  have q2 : W1.cell? ⟨w.heap.size, 2, none⟩ = some (.slice none 0 0) := bb.2.1 2 _ rfl
  have p2 : W1.cell? ⟨w.heap.size + 1, 2, none⟩ = some (.slice none 0 0) := bp.2.1 2 _ rfl
  have q3 : W1.cell? ⟨w.heap.size, 3, none⟩ = some (.slice none 0 0) := bb.2.1 3 _ rfl
  have p3 : W1.cell? ⟨w.heap.size + 1, 3, none⟩ = some (.slice none 0 0) := bp.2.1 3 _ rfl
  have q4 : W1.cell? ⟨w.heap.size, 4, none⟩ = some (.slice none 0 0) := bb.2.1 4 _ rfl
  have p4 : W1.cell? ⟨w.heap.size + 1, 4, none⟩ = some (.slice none 0 0) := bp.2.1 4 _ rfl
  have q5 : W1.cell? ⟨w.heap.size, 5, none⟩ = some (.slice none 0 0) := bb.2.1 5 _ rfl
  have p5 : W1.cell? ⟨w.heap.size + 1, 5, none⟩ = some (.slice none 0 0) := bp.2.1 5 _ rfl
  have q6 : W1.cell? ⟨w.heap.size, 6, none⟩ = some (.slice none 0 0) := bb.2.1 6 _ rfl
  have p6 : W1.cell? ⟨w.heap.size + 1, 6, none⟩ = some (.slice none 0 0) := bp.2.1 6 _ rfl
  have HC := Hid.mk' ((fun W (_ : Below w.heap.size w W) => eqTableInst_nil W) W1 hb)
  go_wp2_with fail
  refine HC.out.mono ?_
  rintro e W2 ⟨rfl, hb1⟩
  have bb := bb.keep hb1
  have bp := bp.keep hb1
  have hb := hb.trans (hb1.mono hb.size)
  clear HC hb1
  have q0 : W2.cell? ⟨w.heap.size, 0, none⟩ = some (.slice (some ⟨b, 0, none⟩) 4 4) := bb.2.1 0 _ rfl
  have p0 : W2.cell? ⟨w.heap.size + 1, 0, none⟩ = some (.slice (some ⟨b', 0, none⟩) 4 4) := bp.2.1 0 _ rfl
  have q1 : W2.cell? ⟨w.heap.size, 1, none⟩ = some (.slice none 0 0) := bb.2.1 1 _ rfl
  have p1 : W2.cell? ⟨w.heap.size + 1, 1, none⟩ = some (.slice none 0 0) := bp.2.1 1 _ rfl
  have q2 : W2.cell? ⟨w.heap.size, 2, none⟩ = some (.slice none 0 0) := bb.2.1 2 _ rfl
  have p2 : W2.cell? ⟨w.heap.size + 1, 2, none⟩ = some (.slice none 0 0) := bp.2.1 2 _ rfl
  have q3 : W2.cell? ⟨w.heap.size, 3, none⟩ = some (.slice none 0 0) := bb.2.1 3 _ rfl
  have p3 : W2.cell? ⟨w.heap.size + 1, 3, none⟩ = some (.slice none 0 0) := bp.2.1 3 _ rfl
  have q4 : W2.cell? ⟨w.heap.size, 4, none⟩ = some (.slice none 0 0) := bb.2.1 4 _ rfl
  have p4 : W2.cell? ⟨w.heap.size + 1, 4, none⟩ = some (.slice none 0 0) := bp.2.1 4 _ rfl
  have q5 : W2.cell? ⟨w.heap.size, 5, none⟩ = some (.slice none 0 0) := bb.2.1 5 _ rfl
  have p5 : W2.cell? ⟨w.heap.size + 1, 5, none⟩ = some (.slice none 0 0) := bp.2.1 5 _ rfl
  have q6 : W2.cell? ⟨w.heap.size, 6, none⟩ = some (.slice none 0 0) := bb.2.1 6 _ rfl
  have p6 : W2.cell? ⟨w.heap.size + 1, 6, none⟩ = some (.slice none 0 0) := bp.2.1 6 _ rfl
  have HC := Hid.mk' ((fun W (_ : Below w.heap.size w W) => eqMemInst_nil W) W2 hb)
  go_wp2_with fail
  refine HC.out.mono ?_
  rintro e W3 ⟨rfl, hb1⟩
  have bb := bb.keep hb1
  have bp := bp.keep hb1
  have hb := hb.trans (hb1.mono hb.size)
  clear HC hb1
  have q0 : W3.cell? ⟨w.heap.size, 0, none⟩ = some (.slice (some ⟨b, 0, none⟩) 4 4) := bb.2.1 0 _ rfl
  have p0 : W3.cell? ⟨w.heap.size + 1, 0, none⟩ = some (.slice (some ⟨b', 0, none⟩) 4 4) := bp.2.1 0 _ rfl
  have q1 : W3.cell? ⟨w.heap.size, 1, none⟩ = some (.slice none 0 0) := bb.2.1 1 _ rfl
  have p1 : W3.cell? ⟨w.heap.size + 1, 1, none⟩ = some (.slice none 0 0) := bp.2.1 1 _ rfl
  have q2 : W3.cell? ⟨w.heap.size, 2, none⟩ = some (.slice none 0 0) := bb.2.1 2 _ rfl
  have p2 : W3.cell? ⟨w.heap.size + 1, 2, none⟩ = some (.slice none 0 0) := bp.2.1 2 _ rfl
  have q3 : W3.cell? ⟨w.heap.size, 3, none⟩ = some (.slice none 0 0) := bb.2.1 3 _ rfl
  have p3 : W3.cell? ⟨w.heap.size + 1, 3, none⟩ = some (.slice none 0 0) := bp.2.1 3 _ rfl
  have q4 : W3.cell? ⟨w.heap.size, 4, none⟩ = some (.slice none 0 0) := bb.2.1 4 _ rfl
  have p4 : W3.cell? ⟨w.heap.size + 1, 4, none⟩ = some (.slice none 0 0) := bp.2.1 4 _ rfl
  have q5 : W3.cell? ⟨w.heap.size, 5, none⟩ = some (.slice none 0 0) := bb.2.1 5 _ rfl
  have p5 : W3.cell? ⟨w.heap.size + 1, 5, none⟩ = some (.slice none 0 0) := bp.2.1 5 _ rfl
  have q6 : W3.cell? ⟨w.heap.size, 6, none⟩ = some (.slice none 0 0) := bb.2.1 6 _ rfl
  have p6 : W3.cell? ⟨w.heap.size + 1, 6, none⟩ = some (.slice none 0 0) := bp.2.1 6 _ rfl
  have HC := Hid.mk' ((fun W (_ : Below w.heap.size w W) => eqGlobalInst_nil W) W3 hb)
  go_wp2_with fail
  refine HC.out.mono ?_
  rintro e W4 ⟨rfl, hb1⟩
  have bb := bb.keep hb1
  have bp := bp.keep hb1
  have hb := hb.trans (hb1.mono hb.size)
  clear HC hb1
  have q0 : W4.cell? ⟨w.heap.size, 0, none⟩ = some (.slice (some ⟨b, 0, none⟩) 4 4) := bb.2.1 0 _ rfl
  have p0 : W4.cell? ⟨w.heap.size + 1, 0, none⟩ = some (.slice (some ⟨b', 0, none⟩) 4 4) := bp.2.1 0 _ rfl
  have q1 : W4.cell? ⟨w.heap.size, 1, none⟩ = some (.slice none 0 0) := bb.2.1 1 _ rfl
  have p1 : W4.cell? ⟨w.heap.size + 1, 1, none⟩ = some (.slice none 0 0) := bp.2.1 1 _ rfl
  have q2 : W4.cell? ⟨w.heap.size, 2, none⟩ = some (.slice none 0 0) := bb.2.1 2 _ rfl
  have p2 : W4.cell? ⟨w.heap.size + 1, 2, none⟩ = some (.slice none 0 0) := bp.2.1 2 _ rfl
  have q3 : W4.cell? ⟨w.heap.size, 3, none⟩ = some (.slice none 0 0) := bb.2.1 3 _ rfl
  have p3 : W4.cell? ⟨w.heap.size + 1, 3, none⟩ = some (.slice none 0 0) := bp.2.1 3 _ rfl
  have q4 : W4.cell? ⟨w.heap.size, 4, none⟩ = some (.slice none 0 0) := bb.2.1 4 _ rfl
  have p4 : W4.cell? ⟨w.heap.size + 1, 4, none⟩ = some (.slice none 0 0) := bp.2.1 4 _ rfl
  have q5 : W4.cell? ⟨w.heap.size, 5, none⟩ = some (.slice none 0 0) := bb.2.1 5 _ rfl
  have p5 : W4.cell? ⟨w.heap.size + 1, 5, none⟩ = some (.slice none 0 0) := bp.2.1 5 _ rfl
  have q6 : W4.cell? ⟨w.heap.size, 6, none⟩ = some (.slice none 0 0) := bb.2.1 6 _ rfl
  have p6 : W4.cell? ⟨w.heap.size + 1, 6, none⟩ = some (.slice none 0 0) := bp.2.1 6 _ rfl
  have HC := Hid.mk' ((fun W (_ : Below w.heap.size w W) => eqInstance_nil W) W4 hb)
  go_wp2_with fail
  refine HC.out.mono ?_
  rintro e W5 ⟨rfl, hb1⟩
  have bb := bb.keep hb1
  have bp := bp.keep hb1
  have hb := hb.trans (hb1.mono hb.size)
  clear HC hb1
  have q0 : W5.cell? ⟨w.heap.size, 0, none⟩ = some (.slice (some ⟨b, 0, none⟩) 4 4) := bb.2.1 0 _ rfl
  have p0 : W5.cell? ⟨w.heap.size + 1, 0, none⟩ = some (.slice (some ⟨b', 0, none⟩) 4 4) := bp.2.1 0 _ rfl
  have q1 : W5.cell? ⟨w.heap.size, 1, none⟩ = some (.slice none 0 0) := bb.2.1 1 _ rfl
  have p1 : W5.cell? ⟨w.heap.size + 1, 1, none⟩ = some (.slice none 0 0) := bp.2.1 1 _ rfl
  have q2 : W5.cell? ⟨w.heap.size, 2, none⟩ = some (.slice none 0 0) := bb.2.1 2 _ rfl
  have p2 : W5.cell? ⟨w.heap.size + 1, 2, none⟩ = some (.slice none 0 0) := bp.2.1 2 _ rfl
  have q3 : W5.cell? ⟨w.heap.size, 3, none⟩ = some (.slice none 0 0) := bb.2.1 3 _ rfl
  have p3 : W5.cell? ⟨w.heap.size + 1, 3, none⟩ = some (.slice none 0 0) := bp.2.1 3 _ rfl
  have q4 : W5.cell? ⟨w.heap.size, 4, none⟩ = some (.slice none 0 0) := bb.2.1 4 _ rfl
  have p4 : W5.cell? ⟨w.heap.size + 1, 4, none⟩ = some (.slice none 0 0) := bp.2.1 4 _ rfl
  have q5 : W5.cell? ⟨w.heap.size, 5, none⟩ = some (.slice none 0 0) := bb.2.1 5 _ rfl
  have p5 : W5.cell? ⟨w.heap.size + 1, 5, none⟩ = some (.slice none 0 0) := bp.2.1 5 _ rfl
  have q6 : W5.cell? ⟨w.heap.size, 6, none⟩ = some (.slice none 0 0) := bb.2.1 6 _ rfl
  have p6 : W5.cell? ⟨w.heap.size + 1, 6, none⟩ = some (.slice none 0 0) := bp.2.1 6 _ rfl
  have HC := Hid.mk' ((fun W (_ : Below w.heap.size w W) => eqUint64_nil W) W5 hb)
  go_wp2_with fail
  refine HC.out.mono ?_
  rintro e W6 ⟨rfl, hb1⟩
  have bb := bb.keep hb1
  have bp := bp.keep hb1
  have hb := hb.trans (hb1.mono hb.size)
  clear HC hb1
  have q0 : W6.cell? ⟨w.heap.size, 0, none⟩ = some (.slice (some ⟨b, 0, none⟩) 4 4) := bb.2.1 0 _ rfl
  have p0 : W6.cell? ⟨w.heap.size + 1, 0, none⟩ = some (.slice (some ⟨b', 0, none⟩) 4 4) := bp.2.1 0 _ rfl
  have q1 : W6.cell? ⟨w.heap.size, 1, none⟩ = some (.slice none 0 0) := bb.2.1 1 _ rfl
  have p1 : W6.cell? ⟨w.heap.size + 1, 1, none⟩ = some (.slice none 0 0) := bp.2.1 1 _ rfl
  have q2 : W6.cell? ⟨w.heap.size, 2, none⟩ = some (.slice none 0 0) := bb.2.1 2 _ rfl
  have p2 : W6.cell? ⟨w.heap.size + 1, 2, none⟩ = some (.slice none 0 0) := bp.2.1 2 _ rfl
  have q3 : W6.cell? ⟨w.heap.size, 3, none⟩ = some (.slice none 0 0) := bb.2.1 3 _ rfl
  have p3 : W6.cell? ⟨w.heap.size + 1, 3, none⟩ = some (.slice none 0 0) := bp.2.1 3 _ rfl
  have q4 : W6.cell? ⟨w.heap.size, 4, none⟩ = some (.slice none 0 0) := bb.2.1 4 _ rfl
  have p4 : W6.cell? ⟨w.heap.size + 1, 4, none⟩ = some (.slice none 0 0) := bp.2.1 4 _ rfl
  have q5 : W6.cell? ⟨w.heap.size, 5, none⟩ = some (.slice none 0 0) := bb.2.1 5 _ rfl
  have p5 : W6.cell? ⟨w.heap.size + 1, 5, none⟩ = some (.slice none 0 0) := bp.2.1 5 _ rfl
  have q6 : W6.cell? ⟨w.heap.size, 6, none⟩ = some (.slice none 0 0) := bb.2.1 6 _ rfl
  have p6 : W6.cell? ⟨w.heap.size + 1, 6, none⟩ = some (.slice none 0 0) := bp.2.1 6 _ rfl
  have HC := Hid.mk' ((fun W (_ : Below w.heap.size w W) => eqTold_nil W) W6 hb)
  go_wp2_with fail
  refine HC.out.mono ?_
  rintro e W7 ⟨rfl, hb1⟩
  have bb := bb.keep hb1
  have bp := bp.keep hb1
  have hb := hb.trans (hb1.mono hb.size)
  clear HC hb1
  have q0 : W7.cell? ⟨w.heap.size, 0, none⟩ = some (.slice (some ⟨b, 0, none⟩) 4 4) := bb.2.1 0 _ rfl
  have p0 : W7.cell? ⟨w.heap.size + 1, 0, none⟩ = some (.slice (some ⟨b', 0, none⟩) 4 4) := bp.2.1 0 _ rfl
  have q1 : W7.cell? ⟨w.heap.size, 1, none⟩ = some (.slice none 0 0) := bb.2.1 1 _ rfl
  have p1 : W7.cell? ⟨w.heap.size + 1, 1, none⟩ = some (.slice none 0 0) := bp.2.1 1 _ rfl
  have q2 : W7.cell? ⟨w.heap.size, 2, none⟩ = some (.slice none 0 0) := bb.2.1 2 _ rfl
  have p2 : W7.cell? ⟨w.heap.size + 1, 2, none⟩ = some (.slice none 0 0) := bp.2.1 2 _ rfl
  have q3 : W7.cell? ⟨w.heap.size, 3, none⟩ = some (.slice none 0 0) := bb.2.1 3 _ rfl
  have p3 : W7.cell? ⟨w.heap.size + 1, 3, none⟩ = some (.slice none 0 0) := bp.2.1 3 _ rfl
  have q4 : W7.cell? ⟨w.heap.size, 4, none⟩ = some (.slice none 0 0) := bb.2.1 4 _ rfl
  have p4 : W7.cell? ⟨w.heap.size + 1, 4, none⟩ = some (.slice none 0 0) := bp.2.1 4 _ rfl
  have q5 : W7.cell? ⟨w.heap.size, 5, none⟩ = some (.slice none 0 0) := bb.2.1 5 _ rfl
  have p5 : W7.cell? ⟨w.heap.size + 1, 5, none⟩ = some (.slice none 0 0) := bp.2.1 5 _ rfl
  have q6 : W7.cell? ⟨w.heap.size, 6, none⟩ = some (.slice none 0 0) := bb.2.1 6 _ rfl
  have p6 : W7.cell? ⟨w.heap.size + 1, 6, none⟩ = some (.slice none 0 0) := bp.2.1 6 _ rfl
  have HB := Hid.mk' hb
  clear hb bb bp
  go_wp2
  go_ret
  exact ⟨rfl, HB.out⟩
set_option maxHeartbeats 4000000 in
theorem heldSt_c (b : Nat) (z : Int) (hz : 0 ≤ z) (w : World)
    (h1 : ∀ W, Below w.heap.size w W → Calls Try.prog 24 #[.slice (some ⟨b, 0, none⟩) 4 4, .int .i64 1] W fun e w' => e = .returned (.int .i64 z) ∧ W = w') :
    Calls Try.prog 8 #[.agg #[.slice (some ⟨b, 0, none⟩) 4 4, .slice none 0 0, .slice none 0 0, .slice none 0 0, .slice none 0 0, .slice none 0 0, .slice none 0 0], .int .i64 1] w fun e w' => e = .returned (.int .i64 z) ∧ Below w.heap.size w w' := by
  have n1 : ¬ z < 0 := by omega
  have K1 := Hid.mk' h1
  clear h1
  have T0 : Hid (Bk (w.alloc (.cells #[.slice (some ⟨b, 0, none⟩) 4 4, .slice none 0 0, .slice none 0 0, .slice none 0 0, .slice none 0 0, .slice none 0 0, .slice none 0 0] 30)) w.heap.size [.slice (some ⟨b, 0, none⟩) 4 4, .slice none 0 0, .slice none 0 0, .slice none 0 0, .slice none 0 0, .slice none 0 0, .slice none 0 0] ∧ Below w.heap.size w (w.alloc (.cells #[.slice (some ⟨b, 0, none⟩) 4 4, .slice none 0 0, .slice none 0 0, .slice none 0 0, .slice none 0 0, .slice none 0 0, .slice none 0 0] 30))) := ⟨Bk.new, (Below.refl _ _).alloc (Nat.le_refl _) _⟩
  go_enter Try.func8, Try.ntmps8
  go_upto_region 1 with fail
  refine wp_gen (fun W => Bk W w.heap.size [.slice (some ⟨b, 0, none⟩) 4 4, .slice none 0 0, .slice none 0 0, .slice none 0 0, .slice none 0 0, .slice none 0 0, .slice none 0 0] ∧ Below w.heap.size w W) T0.out ?_
  rintro W ⟨bb, hb⟩
  clear T0
  have q0 : W.cell? ⟨w.heap.size, 0, none⟩ = some (.slice (some ⟨b, 0, none⟩) 4 4) := bb.2.1 0 _ rfl
  have q1 : W.cell? ⟨w.heap.size, 1, none⟩ = some (.slice none 0 0) := bb.2.1 1 _ rfl
  have q2 : W.cell? ⟨w.heap.size, 2, none⟩ = some (.slice none 0 0) := bb.2.1 2 _ rfl
  have q3 : W.cell? ⟨w.heap.size, 3, none⟩ = some (.slice none 0 0) := bb.2.1 3 _ rfl
  have q4 : W.cell? ⟨w.heap.size, 4, none⟩ = some (.slice none 0 0) := bb.2.1 4 _ rfl
  have q5 : W.cell? ⟨w.heap.size, 5, none⟩ = some (.slice none 0 0) := bb.2.1 5 _ rfl
  have q6 : W.cell? ⟨w.heap.size, 6, none⟩ = some (.slice none 0 0) := bb.2.1 6 _ rfl
  have HC := Hid.mk' (K1.out W hb)
  have HB := Hid.mk' hb
  clear hb bb K1
  go_wp2_with fail
  refine HC.out.mono ?_
  rintro e W1 ⟨rfl, rfl⟩
  have HC := Hid.mk' (heldTableInst_nil z W)
  go_wp2_with fail
  refine HC.out.mono ?_
  rintro e W1 ⟨rfl, rfl⟩
  clear HC
  have HC := Hid.mk' (heldMemInst_nil z W)
  go_wp2_with fail
  refine HC.out.mono ?_
  rintro e W1 ⟨rfl, rfl⟩
  clear HC
  have HC := Hid.mk' (heldGlobalInst_nil z W)
  go_wp2_with fail
  refine HC.out.mono ?_
  rintro e W1 ⟨rfl, rfl⟩
  clear HC
  have HC := Hid.mk' (heldInstance_nil z W)
  go_wp2_with fail
  refine HC.out.mono ?_
  rintro e W1 ⟨rfl, rfl⟩
  clear HC
  have HC := Hid.mk' (heldUint64_nil z W)
  go_wp2_with fail
  refine HC.out.mono ?_
  rintro e W1 ⟨rfl, rfl⟩
  clear HC
  have HC := Hid.mk' (heldTold_nil z W)
  go_wp2_with fail
  refine HC.out.mono ?_
  rintro e W1 ⟨rfl, rfl⟩
  clear HC
  go_wp2
  go_ret
  exact ⟨rfl, HB.out⟩
set_option maxHeartbeats 4000000 in
theorem markSt_c (b : Nat) (z : Int) (hz : 0 ≤ z) (w : World) (Z : World → Prop) (hZ : ∀ W, Z W → Bk W w.heap.size [.slice (some ⟨b, 0, none⟩) 4 4, .slice none 0 0, .slice none 0 0, .slice none 0 0, .slice none 0 0, .slice none 0 0, .slice none 0 0])
    (h1 : Calls Try.prog 17 #[.slice (some ⟨b, 0, none⟩) 4 4, .int .i64 1] (w.alloc (.cells #[.slice (some ⟨b, 0, none⟩) 4 4, .slice none 0 0, .slice none 0 0, .slice none 0 0, .slice none 0 0, .slice none 0 0, .slice none 0 0] 30)) fun e w' => e = .returned (.int .i64 z) ∧ Z w') :
    Calls Try.prog 7 #[.agg #[.slice (some ⟨b, 0, none⟩) 4 4, .slice none 0 0, .slice none 0 0, .slice none 0 0, .slice none 0 0, .slice none 0 0, .slice none 0 0], .int .i64 1] w fun e w' => e = .returned (.int .i64 z) ∧ Z w' := by
  have n1 : ¬ z < 0 := by omega
  have K1 := Hid.mk' h1
  clear h1
  have KZ := Hid.mk' hZ
  clear hZ
  have hc : (w.alloc (.cells #[.slice (some ⟨b, 0, none⟩) 4 4, .slice none 0 0, .slice none 0 0, .slice none 0 0, .slice none 0 0, .slice none 0 0, .slice none 0 0] 30)).cell? ⟨w.heap.size, 0, none⟩ = some (.slice (some ⟨b, 0, none⟩) 4 4) := cell_new rfl rfl
  go_enter Try.func7, Try.ntmps7
  go_wp2_with fail
  refine K1.out.mono ?_
  rintro e W ⟨rfl, hz⟩
  have bb := KZ.out W hz
  have q0 : W.cell? ⟨w.heap.size, 0, none⟩ = some (.slice (some ⟨b, 0, none⟩) 4 4) := bb.2.1 0 _ rfl
  have q1 : W.cell? ⟨w.heap.size, 1, none⟩ = some (.slice none 0 0) := bb.2.1 1 _ rfl
  have q2 : W.cell? ⟨w.heap.size, 2, none⟩ = some (.slice none 0 0) := bb.2.1 2 _ rfl
  have q3 : W.cell? ⟨w.heap.size, 3, none⟩ = some (.slice none 0 0) := bb.2.1 3 _ rfl
  have q4 : W.cell? ⟨w.heap.size, 4, none⟩ = some (.slice none 0 0) := bb.2.1 4 _ rfl
  have q5 : W.cell? ⟨w.heap.size, 5, none⟩ = some (.slice none 0 0) := bb.2.1 5 _ rfl
  have q6 : W.cell? ⟨w.heap.size, 6, none⟩ = some (.slice none 0 0) := bb.2.1 6 _ rfl
  have HB := Hid.mk' hz
  clear hz bb K1 KZ hc
  have HC := Hid.mk' (markTableInst_nil z W)
  go_wp2_with fail
  refine HC.out.mono ?_
  rintro e W1 ⟨rfl, rfl⟩
  clear HC
  have HC := Hid.mk' (markMemInst_nil z W)
  go_wp2_with fail
  refine HC.out.mono ?_
  rintro e W1 ⟨rfl, rfl⟩
  clear HC
  have HC := Hid.mk' (markGlobalInst_nil z W)
  go_wp2_with fail
  refine HC.out.mono ?_
  rintro e W1 ⟨rfl, rfl⟩
  clear HC
  have HC := Hid.mk' (markInstance_nil z W)
  go_wp2_with fail
  refine HC.out.mono ?_
  rintro e W1 ⟨rfl, rfl⟩
  clear HC
  have HC := Hid.mk' (markUint64_nil z W)
  go_wp2_with fail
  refine HC.out.mono ?_
  rintro e W1 ⟨rfl, rfl⟩
  clear HC
  have HC := Hid.mk' (markTold_nil z W)
  go_wp2_with fail
  refine HC.out.mono ?_
  rintro e W1 ⟨rfl, rfl⟩
  clear HC
  go_wp2
  go_ret
  exact ⟨rfl, HB.out⟩
end Go.Proofs.Ytkomhekccckdlaa
