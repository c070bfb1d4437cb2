import Derived.Test.YtfaajmhmcdoibaaRq1
import Derived.Lib.QuietBelow
set_option linter.all false
set_option linter.unusedVariables false
namespace Go.Proofs.Ytfaajmhmcdoibaa
open Go.RowKit Go.Sort
set_option maxRecDepth 100000
/-- The cells of a block. -/
def Bk (W : World) (g : Nat) (cs : List Value) : Prop := g < W.heap.size ∧ (∀ j v, cs[j]? = some v → W.cell? ⟨g, j, none⟩ = some v) ∧ ∀ j, W.frozen? ⟨g, j, none⟩ = false
theorem Bk.keep {W W' : World} {g : Nat} {cs : List Value} (h : Bk W g cs) (hb : Below W.heap.size W W') : Bk W' g cs :=
  ⟨Nat.lt_of_lt_of_le h.1 hb.size, fun j v hj => (hb.cell (p := ⟨g, j, none⟩) h.1).trans (h.2.1 j v hj), fun j => (hb.frozen (p := ⟨g, j, none⟩) h.1).trans (h.2.2 j)⟩
theorem Bk.new {w : World} {cs : List Value} {t : TypeId} : Bk (w.alloc (.cells cs.toArray t)) w.heap.size cs :=
  ⟨by simp, fun j v hj => cell_new rfl (by simpa using hj), fun j => World.frozen?_alloc_new _ _ _ _⟩
theorem Bk.past {w : World} {g : Nat} {cs : List Value} {o : Obj} (h : Bk w g cs) : Bk (w.alloc o) g cs := h.keep ((Below.refl _ _).alloc (Nat.le_refl _) _)
theorem Bk.other {W : World} {g g' o : Nat} {v : Value} {cs : List Value} (h : Bk W g cs) (hne : g' ≠ g) : Bk (W.setCell ⟨g', o, none⟩ v) g cs :=
  ⟨by simpa using h.1, fun j u hj => by rw [World.cell?_setCell_other _ _ _ _ (fun e => hne (congrArg Addr.block e))]; exact h.2.1 j u hj, fun j => by rw [World.frozen?_setCell]; exact h.2.2 j⟩
theorem Bk.set {W : World} {g j : Nat} {v : Value} {cs : List Value} (h : Bk W g cs) : Bk (W.setCell ⟨g, j, none⟩ v) g (cs.set j v) := by
  refine ⟨by simpa using h.1, fun i u hi => ?_, fun i => by rw [World.frozen?_setCell]; exact h.2.2 i⟩
  by_cases e : j = i
  · subst e
    have hj : j < cs.length := by
      rcases Nat.lt_or_ge j cs.length with h' | h'
      · exact h'
      · rw [List.getElem?_eq_none (by simpa using h')] at hi; cases hi
    rw [List.getElem?_set_self hj] at hi
    cases hi
    exact set_same (h.2.1 j _ (List.getElem?_eq_getElem hj))
  · rw [List.getElem?_set_ne e] at hi
    exact set_off (h.2.1 i u hi) e
set_option maxHeartbeats 400000 in
theorem eqW_any (a b : Option Addr) (ca cb : Nat) (xs : List Int) (w : World) (hl : xs.length ≤ 1099511627776) (ha : HI .u64 0 w a xs) (hb : HI .u64 0 w b xs) :
    Calls Try.prog 29 #[.slice a xs.length ca, .slice b xs.length cb] w fun e w' => e = .returned (.bool true) ∧ ∃ n, w' = w.drewN n := by
  by_cases hx : xs = []
  · subst hx
    clear ha hb hl
    go_enter Try.func29, Try.ntmps29
    go_wp2
    refine wp_loop_rounds 1 ?_
    rw [rounds_succ]
    go_wp2
    go_ret
    exact ⟨rfl, 0, rfl⟩
  · have hpos : 0 < xs.length := List.length_pos_iff.2 hx
    rcases ha with h | ⟨b1, o1, rfl, _, hc1⟩
    · exact absurd h hx
    rcases hb with h | ⟨b2, o2, rfl, _, hc2⟩
    · exact absurd h hx
    have hpos' : (0 : Int) < (xs.length : Int) := by omega
    clear hx
    go_enter Try.func29, Try.ntmps29
    go_wp2
    go_loopw [5] (fun i wr => ∃ k : Nat, k ≤ xs.length ∧ i = .int .i64 k ∧ ∃ m, wr = w.drewN m) (fun i _ => xs.length - (intOf i).toNat)
    case atStart => exact ⟨0, Nat.zero_le _, rfl, 0, rfl⟩
    case round =>
      obtain ⟨k, hk, rfl, m, rfl⟩ := hrel
      by_cases hlt : k < xs.length
      · have d1 : (w.drewN m).cell? ⟨b1, o1 + k, none⟩ = some (.int .u64 (xs.getD k 0)) := hc1 k hlt
        have d2 : (w.drewN m).cell? ⟨b2, o2 + k, none⟩ = some (.int .u64 (xs.getD k 0)) := hc2 k hlt
        have hki : (k : Int) < (xs.length : Int) := by omega
        go_wp2
        go_quiet (fail)
        go_wp2
        go_roundw
        case rel => exact ⟨k + 1, by omega, by go_num, _, rfl⟩
        case measure => simp [intOf]; omega
      · go_wp2
        go_ret
        exact ⟨rfl, m, rfl⟩

theorem two (w : World) (b z : List Value) (t t' : TypeId) : Bk ((w.alloc (.cells b.toArray t)).alloc (.cells z.toArray t')) w.heap.size b ∧ Bk ((w.alloc (.cells b.toArray t)).alloc (.cells z.toArray t')) (w.heap.size + 1) z ∧ Below w.heap.size w ((w.alloc (.cells b.toArray t)).alloc (.cells z.toArray t')) := by
  refine ⟨Bk.new.past, ?_, ((Below.refl _ _).alloc (Nat.le_refl _) _).alloc (by simp) _⟩
  have := (Bk.new (w := w.alloc (.cells b.toArray t)) (cs := z) (t := t'))
  simpa using this
set_option maxHeartbeats 8000000 in
theorem reLab_c (x : Lab) (w : World) (hI : Lab.Is 0 w x) (hI' : Lab.Is 0 w x) (hl : Lab.LB 1048576 x) :
    Calls Try.prog 59 #[.agg #[.int .i64 x.pc, .int .i64 x.ar, .int .i64 x.ht, .bool x.lp], .agg #[.int .i64 x.pc, .int .i64 x.ar, .int .i64 x.ht, .bool x.lp]] w fun e w' => e = .returned (.bool true) ∧ Below w.heap.size w w' := by
  have T0 : Hid (Bk ((w.alloc (.cells #[.int .i64 x.pc, .int .i64 x.ar, .int .i64 x.ht, .bool x.lp] 56)).alloc (.cells #[.int .i64 x.pc, .int .i64 x.ar, .int .i64 x.ht, .bool x.lp] 56)) w.heap.size [.int .i64 x.pc, .int .i64 x.ar, .int .i64 x.ht, .bool x.lp] ∧ Bk ((w.alloc (.cells #[.int .i64 x.pc, .int .i64 x.ar, .int .i64 x.ht, .bool x.lp] 56)).alloc (.cells #[.int .i64 x.pc, .int .i64 x.ar, .int .i64 x.ht, .bool x.lp] 56)) (w.heap.size + 1) [.int .i64 x.pc, .int .i64 x.ar, .int .i64 x.ht, .bool x.lp] ∧ Below w.heap.size w ((w.alloc (.cells #[.int .i64 x.pc, .int .i64 x.ar, .int .i64 x.ht, .bool x.lp] 56)).alloc (.cells #[.int .i64 x.pc, .int .i64 x.ar, .int .i64 x.ht, .bool x.lp] 56))) := two w [.int .i64 x.pc, .int .i64 x.ar, .int .i64 x.ht, .bool x.lp] [.int .i64 x.pc, .int .i64 x.ar, .int .i64 x.ht, .bool x.lp] 56 56
  go_enter Try.func59, Try.ntmps59
  go_upto_region 1 with fail
  refine wp_gen (fun W => Bk W w.heap.size [.int .i64 x.pc, .int .i64 x.ar, .int .i64 x.ht, .bool x.lp] ∧ Bk W (w.heap.size + 1) [.int .i64 x.pc, .int .i64 x.ar, .int .i64 x.ht, .bool x.lp] ∧ Below w.heap.size w W) T0.out ?_
  rintro W ⟨bb, bp, hb⟩
  clear T0
  have q0 : W.cell? ⟨w.heap.size, 0, none⟩ = some (.int .i64 x.pc) := bb.2.1 0 _ rfl
  have p0 : W.cell? ⟨w.heap.size + 1, 0, none⟩ = some (.int .i64 x.pc) := bp.2.1 0 _ rfl
  have q1 : W.cell? ⟨w.heap.size, 1, none⟩ = some (.int .i64 x.ar) := bb.2.1 1 _ rfl
  have p1 : W.cell? ⟨w.heap.size + 1, 1, none⟩ = some (.int .i64 x.ar) := bp.2.1 1 _ rfl
  have q2 : W.cell? ⟨w.heap.size, 2, none⟩ = some (.int .i64 x.ht) := bb.2.1 2 _ rfl
  have p2 : W.cell? ⟨w.heap.size + 1, 2, none⟩ = some (.int .i64 x.ht) := bp.2.1 2 _ rfl
  have q3 : W.cell? ⟨w.heap.size, 3, none⟩ = some (.bool x.lp) := bb.2.1 3 _ rfl
  have p3 : W.cell? ⟨w.heap.size + 1, 3, none⟩ = some (.bool x.lp) := bp.2.1 3 _ rfl
  have HB := Hid.mk' hb
  clear hb bb bp
  go_wp2
  go_ret
  exact ⟨rfl, HB.out⟩
set_option maxHeartbeats 8000000 in
theorem reLabs_c (a a' : Option Addr) (c c' : Nat) (xs : List Lab) (w : World) (hl : xs.length ≤ 1048576 ∧ ∀ i, i < xs.length → Lab.LB 1048576 (xs.getD i Lab.z)) (h : Lab.Ls 0 w a xs) (h' : Lab.Ls 0 w a' xs) :
    Calls Try.prog 55 #[.slice a xs.length c, .slice a' xs.length c'] w fun e w' => e = .returned (.bool true) ∧ Below w.heap.size w w' := by
  obtain ⟨hn, hl⟩ := hl
  have H1 := Hid.mk' h
  have H2 := Hid.mk' h'
  have H3 := Hid.mk' hl
  clear h h' hl
  go_enter Try.func55, Try.ntmps55
  go_wp2
  go_loopw [5] (fun i wr => ∃ k : Nat, k ≤ xs.length ∧ i = .int .i64 k ∧ Below w.heap.size w wr) (fun i _ => xs.length - (intOf i).toNat)
  case atStart => exact ⟨0, Nat.zero_le _, rfl, Below.refl _ _⟩
  case round =>
    obtain ⟨k, hk, rfl, hb⟩ := hrel
    by_cases hlt : k < xs.length
    · have hki : (k : Int) < (xs.length : Int) := by omega
      rcases H1.out.up (up_below hb) with hx | ⟨b, o, ea, _, hc⟩
      · subst hx; simp at hlt
      rcases H2.out.up (up_below hb) with hx | ⟨b', o', ea', _, hc'⟩
      · subst hx; simp at hlt
      have g1 := hc k hlt
      have g2 := hc' k hlt
      have hl := H3.out k hlt
      subst ea ea'
      generalize xs.getD k Lab.z = x at g1 g2 hl
      obtain ⟨⟨q0, q1, q2, q3⟩, hi⟩ := g1
      obtain ⟨⟨p0, p1, p2, p3⟩, hi'⟩ := g2
      have kq0 := cell_regrown q0
      have kp0 := cell_regrown p0
      have kq1 := cell_regrown q1
      have kp1 := cell_regrown p1
      have kq2 := cell_regrown q2
      have kp2 := cell_regrown p2
      have kq3 := cell_regrown q3
      have kp3 := cell_regrown p3
      have cE : ∀ d os, Calls Try.prog 59 #[.agg #[.int .i64 x.pc, .int .i64 x.ar, .int .i64 x.ht, .bool x.lp], .agg #[.int .i64 x.pc, .int .i64 x.ar, .int .i64 x.ht, .bool x.lp]] (grow (redrawn wr d) os) fun e w'' => e = .returned (.bool true) ∧ ∃ p : Regrown, w'' = grow (redrawn wr p.d) p.os := fun d os => Calls.regrown_of (reLab_c x _ (hi.up (up_below (below_regrown wr d os))) (hi'.up (up_below (below_regrown wr d os))) hl)
      have HB := Hid.mk' hb
      have HE := Hid.mk' cE
      clear hb hc hc' hi hi' hl H1 H2 H3 cE q0 p0 q1 p1 q2 p2 q3 p3
      go_wp2
      refine wp_region_quiet_below (by kernel_rfl) (by kernel_rfl) ?_
      repeat (quiet_step (exact HE.out _ _))
      refine wpQuiet_nil ?_
      intro _ hw'
      obtain ⟨⟨dq, osq⟩, hw''⟩ := hw'
      subst hw''
      have hw5 := HB.out.trans ((below_regrown wr dq osq).mono HB.out.size)
      clear kq0 kp0 kq1 kp1 kq2 kp2 kq3 kp3
      generalize grow (redrawn wr dq) osq = w5 at *
      show Exit.then _ _ Exit.normal _ w5
      go_wp2
      go_roundw
      case rel => exact ⟨k + 1, by omega, by go_num, hw5⟩
      case measure => simp [intOf]; omega
    · go_wp2
      go_ret
      exact ⟨rfl, hb⟩
set_option maxHeartbeats 8000000 in
theorem reFrm_c (x : Frm) (a1 : Option Addr) (c1 : Nat) (a2 : Option Addr) (c2 : Nat) (a1' : Option Addr) (c1' : Nat) (a2' : Option Addr) (c2' : Nat) (w : World) (hI : Frm.Is 0 w x a1 a2) (hI' : Frm.Is 0 w x a1' a2') (hl : Frm.LB 1048576 x) :
    Calls Try.prog 45 #[.agg #[.int .i64 x.fn, .int .i64 x.pc, .slice a1 x.loc.length c1, .int .i64 x.ht, .slice a2 x.labs.length c2], .agg #[.int .i64 x.fn, .int .i64 x.pc, .slice a1' x.loc.length c1', .int .i64 x.ht, .slice a2' x.labs.length c2']] w fun e w' => e = .returned (.bool true) ∧ Below w.heap.size w w' := by
  obtain ⟨l2, l4⟩ := hl
  obtain ⟨r1, r2⟩ := hI
  have R1 := Hid.mk' r1
  have R2 := Hid.mk' r2
  clear r1 r2
  obtain ⟨r1', r2'⟩ := hI'
  have R1' := Hid.mk' r1'
  have R2' := Hid.mk' r2'
  clear r1' r2'
  have T0 : Hid (Bk ((w.alloc (.cells #[.int .i64 x.fn, .int .i64 x.pc, .slice a1 x.loc.length c1, .int .i64 x.ht, .slice a2 x.labs.length c2] 54)).alloc (.cells #[.int .i64 x.fn, .int .i64 x.pc, .slice a1' x.loc.length c1', .int .i64 x.ht, .slice a2' x.labs.length c2'] 54)) w.heap.size [.int .i64 x.fn, .int .i64 x.pc, .slice a1 x.loc.length c1, .int .i64 x.ht, .slice a2 x.labs.length c2] ∧ Bk ((w.alloc (.cells #[.int .i64 x.fn, .int .i64 x.pc, .slice a1 x.loc.length c1, .int .i64 x.ht, .slice a2 x.labs.length c2] 54)).alloc (.cells #[.int .i64 x.fn, .int .i64 x.pc, .slice a1' x.loc.length c1', .int .i64 x.ht, .slice a2' x.labs.length c2'] 54)) (w.heap.size + 1) [.int .i64 x.fn, .int .i64 x.pc, .slice a1' x.loc.length c1', .int .i64 x.ht, .slice a2' x.labs.length c2'] ∧ Below w.heap.size w ((w.alloc (.cells #[.int .i64 x.fn, .int .i64 x.pc, .slice a1 x.loc.length c1, .int .i64 x.ht, .slice a2 x.labs.length c2] 54)).alloc (.cells #[.int .i64 x.fn, .int .i64 x.pc, .slice a1' x.loc.length c1', .int .i64 x.ht, .slice a2' x.labs.length c2'] 54))) := two w [.int .i64 x.fn, .int .i64 x.pc, .slice a1 x.loc.length c1, .int .i64 x.ht, .slice a2 x.labs.length c2] [.int .i64 x.fn, .int .i64 x.pc, .slice a1' x.loc.length c1', .int .i64 x.ht, .slice a2' x.labs.length c2'] 54 54
  go_enter Try.func45, Try.ntmps45
  go_upto_region 1 with fail
  refine wp_gen (fun W => Bk W w.heap.size [.int .i64 x.fn, .int .i64 x.pc, .slice a1 x.loc.length c1, .int .i64 x.ht, .slice a2 x.labs.length c2] ∧ Bk W (w.heap.size + 1) [.int .i64 x.fn, .int .i64 x.pc, .slice a1' x.loc.length c1', .int .i64 x.ht, .slice a2' x.labs.length c2'] ∧ Below w.heap.size w W) T0.out ?_
  rintro W ⟨bb, bp, hb⟩
  clear T0
  have q0 : W.cell? ⟨w.heap.size, 0, none⟩ = some (.int .i64 x.fn) := bb.2.1 0 _ rfl
  have p0 : W.cell? ⟨w.heap.size + 1, 0, none⟩ = some (.int .i64 x.fn) := bp.2.1 0 _ rfl
  have q1 : W.cell? ⟨w.heap.size, 1, none⟩ = some (.int .i64 x.pc) := bb.2.1 1 _ rfl
  have p1 : W.cell? ⟨w.heap.size + 1, 1, none⟩ = some (.int .i64 x.pc) := bp.2.1 1 _ rfl
  have q2 : W.cell? ⟨w.heap.size, 2, none⟩ = some (.slice a1 x.loc.length c1) := bb.2.1 2 _ rfl
  have p2 : W.cell? ⟨w.heap.size + 1, 2, none⟩ = some (.slice a1' x.loc.length c1') := bp.2.1 2 _ rfl
  have q3 : W.cell? ⟨w.heap.size, 3, none⟩ = some (.int .i64 x.ht) := bb.2.1 3 _ rfl
  have p3 : W.cell? ⟨w.heap.size + 1, 3, none⟩ = some (.int .i64 x.ht) := bp.2.1 3 _ rfl
  have q4 : W.cell? ⟨w.heap.size, 4, none⟩ = some (.slice a2 x.labs.length c2) := bb.2.1 4 _ rfl
  have p4 : W.cell? ⟨w.heap.size + 1, 4, none⟩ = some (.slice a2' x.labs.length c2') := bp.2.1 4 _ rfl
  have HC1 := Hid.mk' (eqW_any a1 a1' c1 c1' x.loc W (by omega) (R1.out.up (up_below hb)) (R1'.out.up (up_below hb)))
  go_wp2_with fail
  refine HC1.out.mono ?_
  rintro e W1 ⟨rfl, nd1, hd1⟩
  have hb1 : Below W.heap.size W W1 := by rw [hd1]; exact below_drewN' (Below.refl _ _) _
  clear hd1
  have bb := bb.keep hb1
  have bp := bp.keep hb1
  have hb := hb.trans (hb1.mono hb.size)
  clear HC1 hb1
  have q0 : W1.cell? ⟨w.heap.size, 0, none⟩ = some (.int .i64 x.fn) := bb.2.1 0 _ rfl
  have p0 : W1.cell? ⟨w.heap.size + 1, 0, none⟩ = some (.int .i64 x.fn) := bp.2.1 0 _ rfl
  have q1 : W1.cell? ⟨w.heap.size, 1, none⟩ = some (.int .i64 x.pc) := bb.2.1 1 _ rfl
  have p1 : W1.cell? ⟨w.heap.size + 1, 1, none⟩ = some (.int .i64 x.pc) := bp.2.1 1 _ rfl
  have q2 : W1.cell? ⟨w.heap.size, 2, none⟩ = some (.slice a1 x.loc.length c1) := bb.2.1 2 _ rfl
  have p2 : W1.cell? ⟨w.heap.size + 1, 2, none⟩ = some (.slice a1' x.loc.length c1') := bp.2.1 2 _ rfl
  have q3 : W1.cell? ⟨w.heap.size, 3, none⟩ = some (.int .i64 x.ht) := bb.2.1 3 _ rfl
  have p3 : W1.cell? ⟨w.heap.size + 1, 3, none⟩ = some (.int .i64 x.ht) := bp.2.1 3 _ rfl
  have q4 : W1.cell? ⟨w.heap.size, 4, none⟩ = some (.slice a2 x.labs.length c2) := bb.2.1 4 _ rfl
  have p4 : W1.cell? ⟨w.heap.size + 1, 4, none⟩ = some (.slice a2' x.labs.length c2') := bp.2.1 4 _ rfl
  have HC2 := Hid.mk' (reLabs_c a2 a2' c2 c2' x.labs W1 l4 (R2.out.up (up_below hb)) (R2'.out.up (up_below hb)))
  go_wp2_with fail
  refine HC2.out.mono ?_
  rintro e W2 ⟨rfl, hb2⟩
  have bb := bb.keep hb2
  have bp := bp.keep hb2
  have hb := hb.trans (hb2.mono hb.size)
  clear HC2 hb2
  have q0 : W2.cell? ⟨w.heap.size, 0, none⟩ = some (.int .i64 x.fn) := bb.2.1 0 _ rfl
  have p0 : W2.cell? ⟨w.heap.size + 1, 0, none⟩ = some (.int .i64 x.fn) := bp.2.1 0 _ rfl
  have q1 : W2.cell? ⟨w.heap.size, 1, none⟩ = some (.int .i64 x.pc) := bb.2.1 1 _ rfl
  have p1 : W2.cell? ⟨w.heap.size + 1, 1, none⟩ = some (.int .i64 x.pc) := bp.2.1 1 _ rfl
  have q2 : W2.cell? ⟨w.heap.size, 2, none⟩ = some (.slice a1 x.loc.length c1) := bb.2.1 2 _ rfl
  have p2 : W2.cell? ⟨w.heap.size + 1, 2, none⟩ = some (.slice a1' x.loc.length c1') := bp.2.1 2 _ rfl
  have q3 : W2.cell? ⟨w.heap.size, 3, none⟩ = some (.int .i64 x.ht) := bb.2.1 3 _ rfl
  have p3 : W2.cell? ⟨w.heap.size + 1, 3, none⟩ = some (.int .i64 x.ht) := bp.2.1 3 _ rfl
  have q4 : W2.cell? ⟨w.heap.size, 4, none⟩ = some (.slice a2 x.labs.length c2) := bb.2.1 4 _ rfl
  have p4 : W2.cell? ⟨w.heap.size + 1, 4, none⟩ = some (.slice a2' x.labs.length c2') := bp.2.1 4 _ rfl
  have HB := Hid.mk' hb
  clear hb bb bp
  go_wp2
  go_ret
  exact ⟨rfl, HB.out⟩
set_option maxHeartbeats 8000000 in
theorem reFrms_c (a a' : Option Addr) (c c' : Nat) (xs : List Frm) (w : World) (hl : xs.length ≤ 1048576 ∧ ∀ i, i < xs.length → Frm.LB 1048576 (xs.getD i Frm.z)) (h : Frm.Ls 0 w a xs) (h' : Frm.Ls 0 w a' xs) :
    Calls Try.prog 30 #[.slice a xs.length c, .slice a' xs.length c'] w fun e w' => e = .returned (.bool true) ∧ Below w.heap.size w w' := by
  obtain ⟨hn, hl⟩ := hl
  have H1 := Hid.mk' h
  have H2 := Hid.mk' h'
  have H3 := Hid.mk' hl
  clear h h' hl
  go_enter Try.func30, Try.ntmps30
  go_wp2
  go_loopw [5] (fun i wr => ∃ k : Nat, k ≤ xs.length ∧ i = .int .i64 k ∧ Below w.heap.size w wr) (fun i _ => xs.length - (intOf i).toNat)
  case atStart => exact ⟨0, Nat.zero_le _, rfl, Below.refl _ _⟩
  case round =>
    obtain ⟨k, hk, rfl, hb⟩ := hrel
    by_cases hlt : k < xs.length
    · have hki : (k : Int) < (xs.length : Int) := by omega
      rcases H1.out.up (up_below hb) with hx | ⟨b, o, ea, _, hc⟩
      · subst hx; simp at hlt
      rcases H2.out.up (up_below hb) with hx | ⟨b', o', ea', _, hc'⟩
      · subst hx; simp at hlt
      have g1 := hc k hlt
      have g2 := hc' k hlt
      have hl := H3.out k hlt
      subst ea ea'
      generalize xs.getD k Frm.z = x at g1 g2 hl
      obtain ⟨a1, c1, a2, c2, ⟨q0, q1, q2, q3, q4⟩, hi⟩ := g1
      obtain ⟨a1', c1', a2', c2', ⟨p0, p1, p2, p3, p4⟩, hi'⟩ := g2
      have kq0 := cell_regrown q0
      have kp0 := cell_regrown p0
      have kq1 := cell_regrown q1
      have kp1 := cell_regrown p1
      have kq2 := cell_regrown q2
      have kp2 := cell_regrown p2
      have kq3 := cell_regrown q3
      have kp3 := cell_regrown p3
      have kq4 := cell_regrown q4
      have kp4 := cell_regrown p4
      have cE : ∀ d os, Calls Try.prog 45 #[.agg #[.int .i64 x.fn, .int .i64 x.pc, .slice a1 x.loc.length c1, .int .i64 x.ht, .slice a2 x.labs.length c2], .agg #[.int .i64 x.fn, .int .i64 x.pc, .slice a1' x.loc.length c1', .int .i64 x.ht, .slice a2' x.labs.length c2']] (grow (redrawn wr d) os) fun e w'' => e = .returned (.bool true) ∧ ∃ p : Regrown, w'' = grow (redrawn wr p.d) p.os := fun d os => Calls.regrown_of (reFrm_c x a1 c1 a2 c2 a1' c1' a2' c2' _ (hi.up (up_below (below_regrown wr d os))) (hi'.up (up_below (below_regrown wr d os))) hl)
      have HB := Hid.mk' hb
      have HE := Hid.mk' cE
      clear hb hc hc' hi hi' hl H1 H2 H3 cE q0 p0 q1 p1 q2 p2 q3 p3 q4 p4
      go_wp2
      refine wp_region_quiet_below (by kernel_rfl) (by kernel_rfl) ?_
      repeat (quiet_step (exact HE.out _ _))
      refine wpQuiet_nil ?_
      intro _ hw'
      obtain ⟨⟨dq, osq⟩, hw''⟩ := hw'
      subst hw''
      have hw5 := HB.out.trans ((below_regrown wr dq osq).mono HB.out.size)
      clear kq0 kp0 kq1 kp1 kq2 kp2 kq3 kp3 kq4 kp4
      generalize grow (redrawn wr dq) osq = w5 at *
      show Exit.then _ _ Exit.normal _ w5
      go_wp2
      go_roundw
      case rel => exact ⟨k + 1, by omega, by go_num, hw5⟩
      case measure => simp [intOf]; omega
    · go_wp2
      go_ret
      exact ⟨rfl, hb⟩
set_option maxHeartbeats 8000000 in
theorem reSta_c (x : Sta) (a1 : Option Addr) (c1 : Nat) (a2 : Option Addr) (c2 : Nat) (a1' : Option Addr) (c1' : Nat) (a2' : Option Addr) (c2' : Nat) (w : World) (hI : Sta.Is 0 w x a1 a2) (hI' : Sta.Is 0 w x a1' a2') (hl : Sta.LB 1048576 x) :
    Calls Try.prog 10 #[.agg #[.int .i64 x.st, .int .i64 x.tr, .slice a1 x.stk.length c1, .slice a2 x.frs.length c2], .agg #[.int .i64 x.st, .int .i64 x.tr, .slice a1' x.stk.length c1', .slice a2' x.frs.length c2']] w fun e w' => e = .returned (.bool true) ∧ Below w.heap.size w w' := by
  obtain ⟨l2, l3⟩ := hl
  obtain ⟨r1, r2⟩ := hI
  have R1 := Hid.mk' r1
  have R2 := Hid.mk' r2
  clear r1 r2
  obtain ⟨r1', r2'⟩ := hI'
  have R1' := Hid.mk' r1'
  have R2' := Hid.mk' r2'
  clear r1' r2'
  have T0 : Hid (Bk ((w.alloc (.cells #[.int .i64 x.st, .int .i64 x.tr, .slice a1 x.stk.length c1, .slice a2 x.frs.length c2] 31)).alloc (.cells #[.int .i64 x.st, .int .i64 x.tr, .slice a1' x.stk.length c1', .slice a2' x.frs.length c2'] 31)) w.heap.size [.int .i64 x.st, .int .i64 x.tr, .slice a1 x.stk.length c1, .slice a2 x.frs.length c2] ∧ Bk ((w.alloc (.cells #[.int .i64 x.st, .int .i64 x.tr, .slice a1 x.stk.length c1, .slice a2 x.frs.length c2] 31)).alloc (.cells #[.int .i64 x.st, .int .i64 x.tr, .slice a1' x.stk.length c1', .slice a2' x.frs.length c2'] 31)) (w.heap.size + 1) [.int .i64 x.st, .int .i64 x.tr, .slice a1' x.stk.length c1', .slice a2' x.frs.length c2'] ∧ Below w.heap.size w ((w.alloc (.cells #[.int .i64 x.st, .int .i64 x.tr, .slice a1 x.stk.length c1, .slice a2 x.frs.length c2] 31)).alloc (.cells #[.int .i64 x.st, .int .i64 x.tr, .slice a1' x.stk.length c1', .slice a2' x.frs.length c2'] 31))) := two w [.int .i64 x.st, .int .i64 x.tr, .slice a1 x.stk.length c1, .slice a2 x.frs.length c2] [.int .i64 x.st, .int .i64 x.tr, .slice a1' x.stk.length c1', .slice a2' x.frs.length c2'] 31 31
  go_enter Try.func10, Try.ntmps10
  go_upto_region 1 with fail
  refine wp_gen (fun W => Bk W w.heap.size [.int .i64 x.st, .int .i64 x.tr, .slice a1 x.stk.length c1, .slice a2 x.frs.length c2] ∧ Bk W (w.heap.size + 1) [.int .i64 x.st, .int .i64 x.tr, .slice a1' x.stk.length c1', .slice a2' x.frs.length c2'] ∧ Below w.heap.size w W) T0.out ?_
  rintro W ⟨bb, bp, hb⟩
  clear T0
  have q0 : W.cell? ⟨w.heap.size, 0, none⟩ = some (.int .i64 x.st) := bb.2.1 0 _ rfl
  have p0 : W.cell? ⟨w.heap.size + 1, 0, none⟩ = some (.int .i64 x.st) := bp.2.1 0 _ rfl
  have q1 : W.cell? ⟨w.heap.size, 1, none⟩ = some (.int .i64 x.tr) := bb.2.1 1 _ rfl
  have p1 : W.cell? ⟨w.heap.size + 1, 1, none⟩ = some (.int .i64 x.tr) := bp.2.1 1 _ rfl
  have q2 : W.cell? ⟨w.heap.size, 2, none⟩ = some (.slice a1 x.stk.length c1) := bb.2.1 2 _ rfl
  have p2 : W.cell? ⟨w.heap.size + 1, 2, none⟩ = some (.slice a1' x.stk.length c1') := bp.2.1 2 _ rfl
  have q3 : W.cell? ⟨w.heap.size, 3, none⟩ = some (.slice a2 x.frs.length c2) := bb.2.1 3 _ rfl
  have p3 : W.cell? ⟨w.heap.size + 1, 3, none⟩ = some (.slice a2' x.frs.length c2') := bp.2.1 3 _ rfl
  have HC1 := Hid.mk' (eqW_any a1 a1' c1 c1' x.stk W (by omega) (R1.out.up (up_below hb)) (R1'.out.up (up_below hb)))
  go_wp2_with fail
  refine HC1.out.mono ?_
  rintro e W1 ⟨rfl, nd1, hd1⟩
  have hb1 : Below W.heap.size W W1 := by rw [hd1]; exact below_drewN' (Below.refl _ _) _
  clear hd1
  have bb := bb.keep hb1
  have bp := bp.keep hb1
  have hb := hb.trans (hb1.mono hb.size)
  clear HC1 hb1
  have q0 : W1.cell? ⟨w.heap.size, 0, none⟩ = some (.int .i64 x.st) := bb.2.1 0 _ rfl
  have p0 : W1.cell? ⟨w.heap.size + 1, 0, none⟩ = some (.int .i64 x.st) := bp.2.1 0 _ rfl
  have q1 : W1.cell? ⟨w.heap.size, 1, none⟩ = some (.int .i64 x.tr) := bb.2.1 1 _ rfl
  have p1 : W1.cell? ⟨w.heap.size + 1, 1, none⟩ = some (.int .i64 x.tr) := bp.2.1 1 _ rfl
  have q2 : W1.cell? ⟨w.heap.size, 2, none⟩ = some (.slice a1 x.stk.length c1) := bb.2.1 2 _ rfl
  have p2 : W1.cell? ⟨w.heap.size + 1, 2, none⟩ = some (.slice a1' x.stk.length c1') := bp.2.1 2 _ rfl
  have q3 : W1.cell? ⟨w.heap.size, 3, none⟩ = some (.slice a2 x.frs.length c2) := bb.2.1 3 _ rfl
  have p3 : W1.cell? ⟨w.heap.size + 1, 3, none⟩ = some (.slice a2' x.frs.length c2') := bp.2.1 3 _ rfl
  have HC2 := Hid.mk' (reFrms_c a2 a2' c2 c2' x.frs W1 l3 (R2.out.up (up_below hb)) (R2'.out.up (up_below hb)))
  go_wp2_with fail
  refine HC2.out.mono ?_
  rintro e W2 ⟨rfl, hb2⟩
  have bb := bb.keep hb2
  have bp := bp.keep hb2
  have hb := hb.trans (hb2.mono hb.size)
  clear HC2 hb2
  have q0 : W2.cell? ⟨w.heap.size, 0, none⟩ = some (.int .i64 x.st) := bb.2.1 0 _ rfl
  have p0 : W2.cell? ⟨w.heap.size + 1, 0, none⟩ = some (.int .i64 x.st) := bp.2.1 0 _ rfl
  have q1 : W2.cell? ⟨w.heap.size, 1, none⟩ = some (.int .i64 x.tr) := bb.2.1 1 _ rfl
  have p1 : W2.cell? ⟨w.heap.size + 1, 1, none⟩ = some (.int .i64 x.tr) := bp.2.1 1 _ rfl
  have q2 : W2.cell? ⟨w.heap.size, 2, none⟩ = some (.slice a1 x.stk.length c1) := bb.2.1 2 _ rfl
  have p2 : W2.cell? ⟨w.heap.size + 1, 2, none⟩ = some (.slice a1' x.stk.length c1') := bp.2.1 2 _ rfl
  have q3 : W2.cell? ⟨w.heap.size, 3, none⟩ = some (.slice a2 x.frs.length c2) := bb.2.1 3 _ rfl
  have p3 : W2.cell? ⟨w.heap.size + 1, 3, none⟩ = some (.slice a2' x.frs.length c2') := bp.2.1 3 _ rfl
  have HB := Hid.mk' hb
  clear hb bb bp
  go_wp2
  go_ret
  exact ⟨rfl, HB.out⟩
end Go.Proofs.Ytfaajmhmcdoibaa
