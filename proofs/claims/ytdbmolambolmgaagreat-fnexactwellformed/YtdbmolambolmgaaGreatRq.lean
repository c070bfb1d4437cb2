import Derived.Test.YtdbmolambolmgaaGreatR3a
set_option linter.all false
set_option linter.unusedVariables false
namespace Go.Proofs.YtdbmolambolmgaaGreat
open Go.RowKit Go.Sort
set_option maxRecDepth 100000
set_option maxHeartbeats 400000 in
theorem eqB_any (a b : Option Addr) (ca cb : Nat) (xs : List Int) (w : World) (hl : xs.length ≤ 1099511627776) (ha : HI .u8 0 w a xs) (hb : HI .u8 0 w b xs) :
    Calls Tryz.prog 13 #[.slice a xs.length ca, .slice b xs.length cb] w fun e w' => e = .returned (.bool true) ∧ ∃ n, w' = w.drewN n := by
  by_cases hx : xs = []
  · subst hx
    clear ha hb hl
    go_enter Tryz.func13, Tryz.ntmps13
    go_wp2
    refine wp_loop_rounds 1 ?_
    rw [rounds_succ]
    go_wp2
    go_ret
    exact ⟨rfl, 0, rfl⟩
  · have hpos : 0 < xs.length := List.length_pos_iff.2 hx
    rcases ha with h | ⟨b1, o1, rfl, _, hc1⟩
    · exact absurd h hx
    rcases hb with h | ⟨b2, o2, rfl, _, hc2⟩
    · exact absurd h hx
    have hpos' : (0 : Int) < (xs.length : Int) := by omega
    clear hx
    go_enter Tryz.func13, Tryz.ntmps13
    go_wp2
    go_loopw [5] (fun i wr => ∃ k : Nat, k ≤ xs.length ∧ i = .int .i64 k ∧ ∃ m, wr = w.drewN m) (fun i _ => xs.length - (intOf i).toNat)
    case atStart => exact ⟨0, Nat.zero_le _, rfl, 0, rfl⟩
    case round =>
      obtain ⟨k, hk, rfl, m, rfl⟩ := hrel
      by_cases hlt : k < xs.length
      · have d1 : (w.drewN m).cell? ⟨b1, o1 + k, none⟩ = some (.int .u8 (xs.getD k 0)) := hc1 k hlt
        have d2 : (w.drewN m).cell? ⟨b2, o2 + k, none⟩ = some (.int .u8 (xs.getD k 0)) := hc2 k hlt
        have hki : (k : Int) < (xs.length : Int) := by omega
        go_wp2
        go_quiet (fail)
        go_wp2
        go_roundw
        case rel => exact ⟨k + 1, by omega, by go_num, _, rfl⟩
        case measure => simp [intOf]; omega
      · go_wp2
        go_ret
        exact ⟨rfl, m, rfl⟩

theorem two (w : World) (b z : List Value) (t t' : TypeId) : Bk ((w.alloc (.cells b.toArray t)).alloc (.cells z.toArray t')) w.heap.size b ∧ Bk ((w.alloc (.cells b.toArray t)).alloc (.cells z.toArray t')) (w.heap.size + 1) z ∧ Below w.heap.size w ((w.alloc (.cells b.toArray t)).alloc (.cells z.toArray t')) := by
  refine ⟨Bk.new.past, ?_, ((Below.refl _ _).alloc (Nat.le_refl _) _).alloc (by simp) _⟩
  have := (Bk.new (w := w.alloc (.cells b.toArray t)) (cs := z) (t := t'))
  simpa using this
set_option maxHeartbeats 8000000 in
theorem reLimits_c (x : Limits) (w : World) (hI : Limits.Is 0 w x) (hI' : Limits.Is 0 w x) (hl : Limits.LB 1048576 x) :
    Calls Tryz.prog 132 #[.agg #[.int .i64 x.min, .int .i64 x.max, .bool x.has], .agg #[.int .i64 x.min, .int .i64 x.max, .bool x.has]] w fun e w' => e = .returned (.bool true) ∧ Below w.heap.size w w' := by
  have T0 : Hid (Bk ((w.alloc (.cells #[.int .i64 x.min, .int .i64 x.max, .bool x.has] 99)).alloc (.cells #[.int .i64 x.min, .int .i64 x.max, .bool x.has] 99)) w.heap.size [.int .i64 x.min, .int .i64 x.max, .bool x.has] ∧ Bk ((w.alloc (.cells #[.int .i64 x.min, .int .i64 x.max, .bool x.has] 99)).alloc (.cells #[.int .i64 x.min, .int .i64 x.max, .bool x.has] 99)) (w.heap.size + 1) [.int .i64 x.min, .int .i64 x.max, .bool x.has] ∧ Below w.heap.size w ((w.alloc (.cells #[.int .i64 x.min, .int .i64 x.max, .bool x.has] 99)).alloc (.cells #[.int .i64 x.min, .int .i64 x.max, .bool x.has] 99))) := two w [.int .i64 x.min, .int .i64 x.max, .bool x.has] [.int .i64 x.min, .int .i64 x.max, .bool x.has] 99 99
  go_enter Tryz.func132, Tryz.ntmps132
  go_upto_region 1 with fail
  refine wp_gen (fun W => Bk W w.heap.size [.int .i64 x.min, .int .i64 x.max, .bool x.has] ∧ Bk W (w.heap.size + 1) [.int .i64 x.min, .int .i64 x.max, .bool x.has] ∧ Below w.heap.size w W) T0.out ?_
  rintro W ⟨bb, bp, hb⟩
  clear T0
  have q0 : W.cell? ⟨w.heap.size, 0, none⟩ = some (.int .i64 x.min) := bb.2.1 0 _ rfl
  have p0 : W.cell? ⟨w.heap.size + 1, 0, none⟩ = some (.int .i64 x.min) := bp.2.1 0 _ rfl
  have q1 : W.cell? ⟨w.heap.size, 1, none⟩ = some (.int .i64 x.max) := bb.2.1 1 _ rfl
  have p1 : W.cell? ⟨w.heap.size + 1, 1, none⟩ = some (.int .i64 x.max) := bp.2.1 1 _ rfl
  have q2 : W.cell? ⟨w.heap.size, 2, none⟩ = some (.bool x.has) := bb.2.1 2 _ rfl
  have p2 : W.cell? ⟨w.heap.size + 1, 2, none⟩ = some (.bool x.has) := bp.2.1 2 _ rfl
  have HB := Hid.mk' hb
  clear hb bb bp
  go_wp2
  go_ret
  exact ⟨rfl, HB.out⟩
set_option maxHeartbeats 8000000 in
theorem reGType_c (x : GType) (w : World) (hI : GType.Is 0 w x) (hI' : GType.Is 0 w x) (hl : GType.LB 1048576 x) :
    Calls Tryz.prog 181 #[.agg #[.int .i64 x.ty, .bool x.mu], .agg #[.int .i64 x.ty, .bool x.mu]] w fun e w' => e = .returned (.bool true) ∧ Below w.heap.size w w' := by
  have T0 : Hid (Bk ((w.alloc (.cells #[.int .i64 x.ty, .bool x.mu] 101)).alloc (.cells #[.int .i64 x.ty, .bool x.mu] 101)) w.heap.size [.int .i64 x.ty, .bool x.mu] ∧ Bk ((w.alloc (.cells #[.int .i64 x.ty, .bool x.mu] 101)).alloc (.cells #[.int .i64 x.ty, .bool x.mu] 101)) (w.heap.size + 1) [.int .i64 x.ty, .bool x.mu] ∧ Below w.heap.size w ((w.alloc (.cells #[.int .i64 x.ty, .bool x.mu] 101)).alloc (.cells #[.int .i64 x.ty, .bool x.mu] 101))) := two w [.int .i64 x.ty, .bool x.mu] [.int .i64 x.ty, .bool x.mu] 101 101
  go_enter Tryz.func181, Tryz.ntmps181
  go_upto_region 1 with fail
  refine wp_gen (fun W => Bk W w.heap.size [.int .i64 x.ty, .bool x.mu] ∧ Bk W (w.heap.size + 1) [.int .i64 x.ty, .bool x.mu] ∧ Below w.heap.size w W) T0.out ?_
  rintro W ⟨bb, bp, hb⟩
  clear T0
  have q0 : W.cell? ⟨w.heap.size, 0, none⟩ = some (.int .i64 x.ty) := bb.2.1 0 _ rfl
  have p0 : W.cell? ⟨w.heap.size + 1, 0, none⟩ = some (.int .i64 x.ty) := bp.2.1 0 _ rfl
  have q1 : W.cell? ⟨w.heap.size, 1, none⟩ = some (.bool x.mu) := bb.2.1 1 _ rfl
  have p1 : W.cell? ⟨w.heap.size + 1, 1, none⟩ = some (.bool x.mu) := bp.2.1 1 _ rfl
  have HB := Hid.mk' hb
  clear hb bb bp
  go_wp2
  go_ret
  exact ⟨rfl, HB.out⟩
set_option maxHeartbeats 8000000 in
theorem reGrp_c (x : Grp) (w : World) (hI : Grp.Is 0 w x) (hI' : Grp.Is 0 w x) (hl : Grp.LB 1048576 x) :
    Calls Tryz.prog 221 #[.agg #[.int .i64 x.n, .int .i64 x.ty], .agg #[.int .i64 x.n, .int .i64 x.ty]] w fun e w' => e = .returned (.bool true) ∧ Below w.heap.size w w' := by
  have T0 : Hid (Bk ((w.alloc (.cells #[.int .i64 x.n, .int .i64 x.ty] 191)).alloc (.cells #[.int .i64 x.n, .int .i64 x.ty] 191)) w.heap.size [.int .i64 x.n, .int .i64 x.ty] ∧ Bk ((w.alloc (.cells #[.int .i64 x.n, .int .i64 x.ty] 191)).alloc (.cells #[.int .i64 x.n, .int .i64 x.ty] 191)) (w.heap.size + 1) [.int .i64 x.n, .int .i64 x.ty] ∧ Below w.heap.size w ((w.alloc (.cells #[.int .i64 x.n, .int .i64 x.ty] 191)).alloc (.cells #[.int .i64 x.n, .int .i64 x.ty] 191))) := two w [.int .i64 x.n, .int .i64 x.ty] [.int .i64 x.n, .int .i64 x.ty] 191 191
  go_enter Tryz.func221, Tryz.ntmps221
  go_upto_region 1 with fail
  refine wp_gen (fun W => Bk W w.heap.size [.int .i64 x.n, .int .i64 x.ty] ∧ Bk W (w.heap.size + 1) [.int .i64 x.n, .int .i64 x.ty] ∧ Below w.heap.size w W) T0.out ?_
  rintro W ⟨bb, bp, hb⟩
  clear T0
  have q0 : W.cell? ⟨w.heap.size, 0, none⟩ = some (.int .i64 x.n) := bb.2.1 0 _ rfl
  have p0 : W.cell? ⟨w.heap.size + 1, 0, none⟩ = some (.int .i64 x.n) := bp.2.1 0 _ rfl
  have q1 : W.cell? ⟨w.heap.size, 1, none⟩ = some (.int .i64 x.ty) := bb.2.1 1 _ rfl
  have p1 : W.cell? ⟨w.heap.size + 1, 1, none⟩ = some (.int .i64 x.ty) := bp.2.1 1 _ rfl
  have HB := Hid.mk' hb
  clear hb bb bp
  go_wp2
  go_ret
  exact ⟨rfl, HB.out⟩
set_option maxHeartbeats 8000000 in
theorem reIn_c (x : In) (a1 : Option Addr) (c1 : Nat) (a1' : Option Addr) (c1' : Nat) (w : World) (hI : In.Is 0 w x a1) (hI' : In.Is 0 w x a1') (hl : In.LB 1048576 x) :
    Calls Tryz.prog 220 #[.agg #[.int .i64 x.op, .int .i64 x.a, .int .i64 x.b, .int .u64 x.v, .slice a1 x.l.length c1], .agg #[.int .i64 x.op, .int .i64 x.a, .int .i64 x.b, .int .u64 x.v, .slice a1' x.l.length c1']] w fun e w' => e = .returned (.bool true) ∧ Below w.heap.size w w' := by
  have l4 : x.l.length ≤ 1048576 := hl
  have r1 := hI
  clear hI
  have R1 := Hid.mk' r1
  clear r1
  have r1' := hI'
  clear hI'
  have R1' := Hid.mk' r1'
  clear r1'
  have T0 : Hid (Bk ((w.alloc (.cells #[.int .i64 x.op, .int .i64 x.a, .int .i64 x.b, .int .u64 x.v, .slice a1 x.l.length c1] 188)).alloc (.cells #[.int .i64 x.op, .int .i64 x.a, .int .i64 x.b, .int .u64 x.v, .slice a1' x.l.length c1'] 188)) w.heap.size [.int .i64 x.op, .int .i64 x.a, .int .i64 x.b, .int .u64 x.v, .slice a1 x.l.length c1] ∧ Bk ((w.alloc (.cells #[.int .i64 x.op, .int .i64 x.a, .int .i64 x.b, .int .u64 x.v, .slice a1 x.l.length c1] 188)).alloc (.cells #[.int .i64 x.op, .int .i64 x.a, .int .i64 x.b, .int .u64 x.v, .slice a1' x.l.length c1'] 188)) (w.heap.size + 1) [.int .i64 x.op, .int .i64 x.a, .int .i64 x.b, .int .u64 x.v, .slice a1' x.l.length c1'] ∧ Below w.heap.size w ((w.alloc (.cells #[.int .i64 x.op, .int .i64 x.a, .int .i64 x.b, .int .u64 x.v, .slice a1 x.l.length c1] 188)).alloc (.cells #[.int .i64 x.op, .int .i64 x.a, .int .i64 x.b, .int .u64 x.v, .slice a1' x.l.length c1'] 188))) := two w [.int .i64 x.op, .int .i64 x.a, .int .i64 x.b, .int .u64 x.v, .slice a1 x.l.length c1] [.int .i64 x.op, .int .i64 x.a, .int .i64 x.b, .int .u64 x.v, .slice a1' x.l.length c1'] 188 188
  go_enter Tryz.func220, Tryz.ntmps220
  go_upto_region 1 with fail
  refine wp_gen (fun W => Bk W w.heap.size [.int .i64 x.op, .int .i64 x.a, .int .i64 x.b, .int .u64 x.v, .slice a1 x.l.length c1] ∧ Bk W (w.heap.size + 1) [.int .i64 x.op, .int .i64 x.a, .int .i64 x.b, .int .u64 x.v, .slice a1' x.l.length c1'] ∧ Below w.heap.size w W) T0.out ?_
  rintro W ⟨bb, bp, hb⟩
  clear T0
  have q0 : W.cell? ⟨w.heap.size, 0, none⟩ = some (.int .i64 x.op) := bb.2.1 0 _ rfl
  have p0 : W.cell? ⟨w.heap.size + 1, 0, none⟩ = some (.int .i64 x.op) := bp.2.1 0 _ rfl
  have q1 : W.cell? ⟨w.heap.size, 1, none⟩ = some (.int .i64 x.a) := bb.2.1 1 _ rfl
  have p1 : W.cell? ⟨w.heap.size + 1, 1, none⟩ = some (.int .i64 x.a) := bp.2.1 1 _ rfl
  have q2 : W.cell? ⟨w.heap.size, 2, none⟩ = some (.int .i64 x.b) := bb.2.1 2 _ rfl
  have p2 : W.cell? ⟨w.heap.size + 1, 2, none⟩ = some (.int .i64 x.b) := bp.2.1 2 _ rfl
  have q3 : W.cell? ⟨w.heap.size, 3, none⟩ = some (.int .u64 x.v) := bb.2.1 3 _ rfl
  have p3 : W.cell? ⟨w.heap.size + 1, 3, none⟩ = some (.int .u64 x.v) := bp.2.1 3 _ rfl
  have q4 : W.cell? ⟨w.heap.size, 4, none⟩ = some (.slice a1 x.l.length c1) := bb.2.1 4 _ rfl
  have p4 : W.cell? ⟨w.heap.size + 1, 4, none⟩ = some (.slice a1' x.l.length c1') := bp.2.1 4 _ rfl
  have HC1 := Hid.mk' (eq_any a1 a1' c1 c1' x.l W (by omega) (R1.out.up (up_below hb)).has (R1'.out.up (up_below hb)).has)
  go_wp2_with fail
  refine HC1.out.mono ?_
  rintro e W1 ⟨rfl, nd1, hd1⟩
  have hb1 : Below W.heap.size W W1 := by rw [hd1]; exact below_drewN' (Below.refl _ _) _
  clear hd1
  have bb := bb.keep hb1
  have bp := bp.keep hb1
  have hb := hb.trans (hb1.mono hb.size)
  clear HC1 hb1
  have q0 : W1.cell? ⟨w.heap.size, 0, none⟩ = some (.int .i64 x.op) := bb.2.1 0 _ rfl
  have p0 : W1.cell? ⟨w.heap.size + 1, 0, none⟩ = some (.int .i64 x.op) := bp.2.1 0 _ rfl
  have q1 : W1.cell? ⟨w.heap.size, 1, none⟩ = some (.int .i64 x.a) := bb.2.1 1 _ rfl
  have p1 : W1.cell? ⟨w.heap.size + 1, 1, none⟩ = some (.int .i64 x.a) := bp.2.1 1 _ rfl
  have q2 : W1.cell? ⟨w.heap.size, 2, none⟩ = some (.int .i64 x.b) := bb.2.1 2 _ rfl
  have p2 : W1.cell? ⟨w.heap.size + 1, 2, none⟩ = some (.int .i64 x.b) := bp.2.1 2 _ rfl
  have q3 : W1.cell? ⟨w.heap.size, 3, none⟩ = some (.int .u64 x.v) := bb.2.1 3 _ rfl
  have p3 : W1.cell? ⟨w.heap.size + 1, 3, none⟩ = some (.int .u64 x.v) := bp.2.1 3 _ rfl
  have q4 : W1.cell? ⟨w.heap.size, 4, none⟩ = some (.slice a1 x.l.length c1) := bb.2.1 4 _ rfl
  have p4 : W1.cell? ⟨w.heap.size + 1, 4, none⟩ = some (.slice a1' x.l.length c1') := bp.2.1 4 _ rfl
  have HB := Hid.mk' hb
  clear hb bb bp
  go_wp2
  go_ret
  exact ⟨rfl, HB.out⟩
set_option maxHeartbeats 8000000 in
theorem reIns_c (a a' : Option Addr) (c c' : Nat) (xs : List In) (w : World) (hl : xs.length ≤ 1048576 ∧ ∀ i, i < xs.length → In.LB 1048576 (xs.getD i I0)) (h : In.Ls 0 w a xs) (h' : In.Ls 0 w a' xs) :
    Calls Tryz.prog 182 #[.slice a xs.length c, .slice a' xs.length c'] w fun e w' => e = .returned (.bool true) ∧ Below w.heap.size w w' := by
  obtain ⟨hn, hl⟩ := hl
  have H1 := Hid.mk' h
  have H2 := Hid.mk' h'
  have H3 := Hid.mk' hl
  clear h h' hl
  go_enter Tryz.func182, Tryz.ntmps182
  go_wp2
  go_loopw [5] (fun i wr => ∃ k : Nat, k ≤ xs.length ∧ i = .int .i64 k ∧ Below w.heap.size w wr) (fun i _ => xs.length - (intOf i).toNat)
  case atStart => exact ⟨0, Nat.zero_le _, rfl, Below.refl _ _⟩
  case round =>
    obtain ⟨k, hk, rfl, hb⟩ := hrel
    by_cases hlt : k < xs.length
    · have hki : (k : Int) < (xs.length : Int) := by omega
      rcases H1.out.up (up_below hb) with hx | ⟨b, o, ea, _, hc⟩
      · subst hx; simp at hlt
      rcases H2.out.up (up_below hb) with hx | ⟨b', o', ea', _, hc'⟩
      · subst hx; simp at hlt
      have g1 := hc k hlt
      have g2 := hc' k hlt
      have hl := H3.out k hlt
      subst ea ea'
      generalize xs.getD k I0 = x at g1 g2 hl
      obtain ⟨a1, c1, ⟨q0, q1, q2, q3, q4⟩, hi⟩ := g1
      obtain ⟨a1', c1', ⟨p0, p1, p2, p3, p4⟩, hi'⟩ := g2
      have kq0 := cell_regrown q0
      have kp0 := cell_regrown p0
      have kq1 := cell_regrown q1
      have kp1 := cell_regrown p1
      have kq2 := cell_regrown q2
      have kp2 := cell_regrown p2
      have kq3 := cell_regrown q3
      have kp3 := cell_regrown p3
      have kq4 := cell_regrown q4
      have kp4 := cell_regrown p4
      have cE : ∀ d os, Calls Tryz.prog 220 #[.agg #[.int .i64 x.op, .int .i64 x.a, .int .i64 x.b, .int .u64 x.v, .slice a1 x.l.length c1], .agg #[.int .i64 x.op, .int .i64 x.a, .int .i64 x.b, .int .u64 x.v, .slice a1' x.l.length c1']] (grow (redrawn wr d) os) fun e w'' => e = .returned (.bool true) ∧ ∃ p : Regrown, w'' = grow (redrawn wr p.d) p.os := fun d os => Calls.regrown_of (reIn_c x a1 c1 a1' c1' _ (hi.up (up_below (below_regrown wr d os))) (hi'.up (up_below (below_regrown wr d os))) hl)
      have HB := Hid.mk' hb
      have HE := Hid.mk' cE
      clear hb hc hc' hi hi' hl H1 H2 H3 cE q0 p0 q1 p1 q2 p2 q3 p3 q4 p4
      go_wp2
      refine wp_region_quiet_below (by kernel_rfl) (by kernel_rfl) ?_
      repeat (quiet_step (exact HE.out _ _))
      refine wpQuiet_nil ?_
      intro _ hw'
      obtain ⟨⟨dq, osq⟩, hw''⟩ := hw'
      subst hw''
      have hw5 := HB.out.trans ((below_regrown wr dq osq).mono HB.out.size)
      clear kq0 kp0 kq1 kp1 kq2 kp2 kq3 kp3 kq4 kp4
      generalize grow (redrawn wr dq) osq = w5 at *
      show Exit.then _ _ Exit.normal _ w5
      go_wp2
      go_roundw
      case rel => exact ⟨k + 1, by omega, by go_num, hw5⟩
      case measure => simp [intOf]; omega
    · go_wp2
      go_ret
      exact ⟨rfl, hb⟩
set_option maxHeartbeats 8000000 in
theorem reLimitss_c (a a' : Option Addr) (c c' : Nat) (xs : List Limits) (w : World) (hl : xs.length ≤ 1048576 ∧ ∀ i, i < xs.length → Limits.LB 1048576 (xs.getD i Limits.z)) (h : Limits.Ls 0 w a xs) (h' : Limits.Ls 0 w a' xs) :
    Calls Tryz.prog 70 #[.slice a xs.length c, .slice a' xs.length c'] w fun e w' => e = .returned (.bool true) ∧ Below w.heap.size w w' := by
  obtain ⟨hn, hl⟩ := hl
  have H1 := Hid.mk' h
  have H2 := Hid.mk' h'
  have H3 := Hid.mk' hl
  clear h h' hl
  go_enter Tryz.func70, Tryz.ntmps70
  go_wp2
  go_loopw [5] (fun i wr => ∃ k : Nat, k ≤ xs.length ∧ i = .int .i64 k ∧ Below w.heap.size w wr) (fun i _ => xs.length - (intOf i).toNat)
  case atStart => exact ⟨0, Nat.zero_le _, rfl, Below.refl _ _⟩
  case round =>
    obtain ⟨k, hk, rfl, hb⟩ := hrel
    by_cases hlt : k < xs.length
    · have hki : (k : Int) < (xs.length : Int) := by omega
      rcases H1.out.up (up_below hb) with hx | ⟨b, o, ea, _, hc⟩
      · subst hx; simp at hlt
      rcases H2.out.up (up_below hb) with hx | ⟨b', o', ea', _, hc'⟩
      · subst hx; simp at hlt
      have g1 := hc k hlt
      have g2 := hc' k hlt
      have hl := H3.out k hlt
      subst ea ea'
      generalize xs.getD k Limits.z = x at g1 g2 hl
      obtain ⟨⟨q0, q1, q2⟩, hi⟩ := g1
      obtain ⟨⟨p0, p1, p2⟩, hi'⟩ := g2
      have kq0 := cell_regrown q0
      have kp0 := cell_regrown p0
      have kq1 := cell_regrown q1
      have kp1 := cell_regrown p1
      have kq2 := cell_regrown q2
      have kp2 := cell_regrown p2
      have cE : ∀ d os, Calls Tryz.prog 132 #[.agg #[.int .i64 x.min, .int .i64 x.max, .bool x.has], .agg #[.int .i64 x.min, .int .i64 x.max, .bool x.has]] (grow (redrawn wr d) os) fun e w'' => e = .returned (.bool true) ∧ ∃ p : Regrown, w'' = grow (redrawn wr p.d) p.os := fun d os => Calls.regrown_of (reLimits_c x _ (hi.up (up_below (below_regrown wr d os))) (hi'.up (up_below (below_regrown wr d os))) hl)
      have HB := Hid.mk' hb
      have HE := Hid.mk' cE
      clear hb hc hc' hi hi' hl H1 H2 H3 cE q0 p0 q1 p1 q2 p2
      go_wp2
      refine wp_region_quiet_below (by kernel_rfl) (by kernel_rfl) ?_
      repeat (quiet_step (exact HE.out _ _))
      refine wpQuiet_nil ?_
      intro _ hw'
      obtain ⟨⟨dq, osq⟩, hw''⟩ := hw'
      subst hw''
      have hw5 := HB.out.trans ((below_regrown wr dq osq).mono HB.out.size)
      clear kq0 kp0 kq1 kp1 kq2 kp2
      generalize grow (redrawn wr dq) osq = w5 at *
      show Exit.then _ _ Exit.normal _ w5
      go_wp2
      go_roundw
      case rel => exact ⟨k + 1, by omega, by go_num, hw5⟩
      case measure => simp [intOf]; omega
    · go_wp2
      go_ret
      exact ⟨rfl, hb⟩
set_option maxHeartbeats 8000000 in
theorem reGrps_c (a a' : Option Addr) (c c' : Nat) (xs : List Grp) (w : World) (hl : xs.length ≤ 1048576 ∧ ∀ i, i < xs.length → Grp.LB 1048576 (xs.getD i Grp.z)) (h : Grp.Ls 0 w a xs) (h' : Grp.Ls 0 w a' xs) :
    Calls Tryz.prog 183 #[.slice a xs.length c, .slice a' xs.length c'] w fun e w' => e = .returned (.bool true) ∧ Below w.heap.size w w' := by
  obtain ⟨hn, hl⟩ := hl
  have H1 := Hid.mk' h
  have H2 := Hid.mk' h'
  have H3 := Hid.mk' hl
  clear h h' hl
  go_enter Tryz.func183, Tryz.ntmps183
  go_wp2
  go_loopw [5] (fun i wr => ∃ k : Nat, k ≤ xs.length ∧ i = .int .i64 k ∧ Below w.heap.size w wr) (fun i _ => xs.length - (intOf i).toNat)
  case atStart => exact ⟨0, Nat.zero_le _, rfl, Below.refl _ _⟩
  case round =>
    obtain ⟨k, hk, rfl, hb⟩ := hrel
    by_cases hlt : k < xs.length
    · have hki : (k : Int) < (xs.length : Int) := by omega
      rcases H1.out.up (up_below hb) with hx | ⟨b, o, ea, _, hc⟩
      · subst hx; simp at hlt
      rcases H2.out.up (up_below hb) with hx | ⟨b', o', ea', _, hc'⟩
      · subst hx; simp at hlt
      have g1 := hc k hlt
      have g2 := hc' k hlt
      have hl := H3.out k hlt
      subst ea ea'
      generalize xs.getD k Grp.z = x at g1 g2 hl
      obtain ⟨⟨q0, q1⟩, hi⟩ := g1
      obtain ⟨⟨p0, p1⟩, hi'⟩ := g2
      have kq0 := cell_regrown q0
      have kp0 := cell_regrown p0
      have kq1 := cell_regrown q1
      have kp1 := cell_regrown p1
      have cE : ∀ d os, Calls Tryz.prog 221 #[.agg #[.int .i64 x.n, .int .i64 x.ty], .agg #[.int .i64 x.n, .int .i64 x.ty]] (grow (redrawn wr d) os) fun e w'' => e = .returned (.bool true) ∧ ∃ p : Regrown, w'' = grow (redrawn wr p.d) p.os := fun d os => Calls.regrown_of (reGrp_c x _ (hi.up (up_below (below_regrown wr d os))) (hi'.up (up_below (below_regrown wr d os))) hl)
      have HB := Hid.mk' hb
      have HE := Hid.mk' cE
      clear hb hc hc' hi hi' hl H1 H2 H3 cE q0 p0 q1 p1
      go_wp2
      refine wp_region_quiet_below (by kernel_rfl) (by kernel_rfl) ?_
      repeat (quiet_step (exact HE.out _ _))
      refine wpQuiet_nil ?_
      intro _ hw'
      obtain ⟨⟨dq, osq⟩, hw''⟩ := hw'
      subst hw''
      have hw5 := HB.out.trans ((below_regrown wr dq osq).mono HB.out.size)
      clear kq0 kp0 kq1 kp1
      generalize grow (redrawn wr dq) osq = w5 at *
      show Exit.then _ _ Exit.normal _ w5
      go_wp2
      go_roundw
      case rel => exact ⟨k + 1, by omega, by go_num, hw5⟩
      case measure => simp [intOf]; omega
    · go_wp2
      go_ret
      exact ⟨rfl, hb⟩
end Go.Proofs.YtdbmolambolmgaaGreat

set_option linter.unusedVariables false
namespace Go.Proofs.YtdbmolambolmgaaGreat
open Go.RowKit Go.Sort
set_option maxRecDepth 100000
set_option maxHeartbeats 8000000 in
theorem reFType_c (x : FType) (a1 : Option Addr) (c1 : Nat) (a2 : Option Addr) (c2 : Nat) (a1' : Option Addr) (c1' : Nat) (a2' : Option Addr) (c2' : Nat) (w : World) (hI : FType.Is 0 w x a1 a2) (hI' : FType.Is 0 w x a1' a2') (hl : FType.LB 1048576 x) :
    Calls Tryz.prog 130 #[.agg #[.slice a1 x.ps.length c1, .slice a2 x.rs.length c2], .agg #[.slice a1' x.ps.length c1', .slice a2' x.rs.length c2']] w fun e w' => e = .returned (.bool true) ∧ Below w.heap.size w w' := by
  obtain ⟨l0, l1⟩ := hl
  obtain ⟨r1, r2⟩ := hI
  have R1 := Hid.mk' r1
  have R2 := Hid.mk' r2
  clear r1 r2
  obtain ⟨r1', r2'⟩ := hI'
  have R1' := Hid.mk' r1'
  have R2' := Hid.mk' r2'
  clear r1' r2'
  have T0 : Hid (Bk ((w.alloc (.cells #[.slice a1 x.ps.length c1, .slice a2 x.rs.length c2] 95)).alloc (.cells #[.slice a1' x.ps.length c1', .slice a2' x.rs.length c2'] 95)) w.heap.size [.slice a1 x.ps.length c1, .slice a2 x.rs.length c2] ∧ Bk ((w.alloc (.cells #[.slice a1 x.ps.length c1, .slice a2 x.rs.length c2] 95)).alloc (.cells #[.slice a1' x.ps.length c1', .slice a2' x.rs.length c2'] 95)) (w.heap.size + 1) [.slice a1' x.ps.length c1', .slice a2' x.rs.length c2'] ∧ Below w.heap.size w ((w.alloc (.cells #[.slice a1 x.ps.length c1, .slice a2 x.rs.length c2] 95)).alloc (.cells #[.slice a1' x.ps.length c1', .slice a2' x.rs.length c2'] 95))) := two w [.slice a1 x.ps.length c1, .slice a2 x.rs.length c2] [.slice a1' x.ps.length c1', .slice a2' x.rs.length c2'] 95 95
  go_enter Tryz.func130, Tryz.ntmps130
  go_upto_region 1 with fail
  refine wp_gen (fun W => Bk W w.heap.size [.slice a1 x.ps.length c1, .slice a2 x.rs.length c2] ∧ Bk W (w.heap.size + 1) [.slice a1' x.ps.length c1', .slice a2' x.rs.length c2'] ∧ Below w.heap.size w W) T0.out ?_
  rintro W ⟨bb, bp, hb⟩
  clear T0
  have q0 : W.cell? ⟨w.heap.size, 0, none⟩ = some (.slice a1 x.ps.length c1) := bb.2.1 0 _ rfl
  have p0 : W.cell? ⟨w.heap.size + 1, 0, none⟩ = some (.slice a1' x.ps.length c1') := bp.2.1 0 _ rfl
  have q1 : W.cell? ⟨w.heap.size, 1, none⟩ = some (.slice a2 x.rs.length c2) := bb.2.1 1 _ rfl
  have p1 : W.cell? ⟨w.heap.size + 1, 1, none⟩ = some (.slice a2' x.rs.length c2') := bp.2.1 1 _ rfl
  have HC1 := Hid.mk' (eq_any a1 a1' c1 c1' x.ps W (by omega) (R1.out.up (up_below hb)).has (R1'.out.up (up_below hb)).has)
  go_wp2_with fail
  refine HC1.out.mono ?_
  rintro e W1 ⟨rfl, nd1, hd1⟩
  have hb1 : Below W.heap.size W W1 := by rw [hd1]; exact below_drewN' (Below.refl _ _) _
  clear hd1
  have bb := bb.keep hb1
  have bp := bp.keep hb1
  have hb := hb.trans (hb1.mono hb.size)
  clear HC1 hb1
  have q0 : W1.cell? ⟨w.heap.size, 0, none⟩ = some (.slice a1 x.ps.length c1) := bb.2.1 0 _ rfl
  have p0 : W1.cell? ⟨w.heap.size + 1, 0, none⟩ = some (.slice a1' x.ps.length c1') := bp.2.1 0 _ rfl
  have q1 : W1.cell? ⟨w.heap.size, 1, none⟩ = some (.slice a2 x.rs.length c2) := bb.2.1 1 _ rfl
  have p1 : W1.cell? ⟨w.heap.size + 1, 1, none⟩ = some (.slice a2' x.rs.length c2') := bp.2.1 1 _ rfl
  have HC2 := Hid.mk' (eq_any a2 a2' c2 c2' x.rs W1 (by omega) (R2.out.up (up_below hb)).has (R2'.out.up (up_below hb)).has)
  go_wp2_with fail
  refine HC2.out.mono ?_
  rintro e W2 ⟨rfl, nd2, hd2⟩
  have hb2 : Below W1.heap.size W1 W2 := by rw [hd2]; exact below_drewN' (Below.refl _ _) _
  clear hd2
  have bb := bb.keep hb2
  have bp := bp.keep hb2
  have hb := hb.trans (hb2.mono hb.size)
  clear HC2 hb2
  have q0 : W2.cell? ⟨w.heap.size, 0, none⟩ = some (.slice a1 x.ps.length c1) := bb.2.1 0 _ rfl
  have p0 : W2.cell? ⟨w.heap.size + 1, 0, none⟩ = some (.slice a1' x.ps.length c1') := bp.2.1 0 _ rfl
  have q1 : W2.cell? ⟨w.heap.size, 1, none⟩ = some (.slice a2 x.rs.length c2) := bb.2.1 1 _ rfl
  have p1 : W2.cell? ⟨w.heap.size + 1, 1, none⟩ = some (.slice a2' x.rs.length c2') := bp.2.1 1 _ rfl
  have HB := Hid.mk' hb
  clear hb bb bp
  go_wp2
  go_ret
  exact ⟨rfl, HB.out⟩
set_option maxHeartbeats 8000000 in
theorem reFTypes_c (a a' : Option Addr) (c c' : Nat) (xs : List FType) (w : World) (hl : xs.length ≤ 1048576 ∧ ∀ i, i < xs.length → FType.LB 1048576 (xs.getD i FType.z)) (h : FType.Ls 0 w a xs) (h' : FType.Ls 0 w a' xs) :
    Calls Tryz.prog 67 #[.slice a xs.length c, .slice a' xs.length c'] w fun e w' => e = .returned (.bool true) ∧ Below w.heap.size w w' := by
  obtain ⟨hn, hl⟩ := hl
  have H1 := Hid.mk' h
  have H2 := Hid.mk' h'
  have H3 := Hid.mk' hl
  clear h h' hl
  go_enter Tryz.func67, Tryz.ntmps67
  go_wp2
  go_loopw [5] (fun i wr => ∃ k : Nat, k ≤ xs.length ∧ i = .int .i64 k ∧ Below w.heap.size w wr) (fun i _ => xs.length - (intOf i).toNat)
  case atStart => exact ⟨0, Nat.zero_le _, rfl, Below.refl _ _⟩
  case round =>
    obtain ⟨k, hk, rfl, hb⟩ := hrel
    by_cases hlt : k < xs.length
    · have hki : (k : Int) < (xs.length : Int) := by omega
      rcases H1.out.up (up_below hb) with hx | ⟨b, o, ea, _, hc⟩
      · subst hx; simp at hlt
      rcases H2.out.up (up_below hb) with hx | ⟨b', o', ea', _, hc'⟩
      · subst hx; simp at hlt
      have g1 := hc k hlt
      have g2 := hc' k hlt
      have hl := H3.out k hlt
      subst ea ea'
      generalize xs.getD k FType.z = x at g1 g2 hl
      obtain ⟨a1, c1, a2, c2, ⟨q0, q1⟩, hi⟩ := g1
      obtain ⟨a1', c1', a2', c2', ⟨p0, p1⟩, hi'⟩ := g2
      have kq0 := cell_regrown q0
      have kp0 := cell_regrown p0
      have kq1 := cell_regrown q1
      have kp1 := cell_regrown p1
      have cE : ∀ d os, Calls Tryz.prog 130 #[.agg #[.slice a1 x.ps.length c1, .slice a2 x.rs.length c2], .agg #[.slice a1' x.ps.length c1', .slice a2' x.rs.length c2']] (grow (redrawn wr d) os) fun e w'' => e = .returned (.bool true) ∧ ∃ p : Regrown, w'' = grow (redrawn wr p.d) p.os := fun d os => Calls.regrown_of (reFType_c x a1 c1 a2 c2 a1' c1' a2' c2' _ (hi.up (up_below (below_regrown wr d os))) (hi'.up (up_below (below_regrown wr d os))) hl)
      have HB := Hid.mk' hb
      have HE := Hid.mk' cE
      clear hb hc hc' hi hi' hl H1 H2 H3 cE q0 p0 q1 p1
      go_wp2
      refine wp_region_quiet_below (by kernel_rfl) (by kernel_rfl) ?_
      repeat (quiet_step (exact HE.out _ _))
      refine wpQuiet_nil ?_
      intro _ hw'
      obtain ⟨⟨dq, osq⟩, hw''⟩ := hw'
      subst hw''
      have hw5 := HB.out.trans ((below_regrown wr dq osq).mono HB.out.size)
      clear kq0 kp0 kq1 kp1
      generalize grow (redrawn wr dq) osq = w5 at *
      show Exit.then _ _ Exit.normal _ w5
      go_wp2
      go_roundw
      case rel => exact ⟨k + 1, by omega, by go_num, hw5⟩
      case measure => simp [intOf]; omega
    · go_wp2
      go_ret
      exact ⟨rfl, hb⟩
set_option maxHeartbeats 8000000 in
theorem reImp_c (x : Imp) (w : World) (hI : Imp.Is 0 w x) (hI' : Imp.Is 0 w x) (hl : Imp.LB 1048576 x) :
    Calls Tryz.prog 131 #[.agg #[.string x.mod, .string x.nm, .int .i64 x.kind, .int .i64 x.ty, .int .i64 x.lim.min, .int .i64 x.lim.max, .bool x.lim.has, .int .i64 x.gl.ty, .bool x.gl.mu], .agg #[.string x.mod, .string x.nm, .int .i64 x.kind, .int .i64 x.ty, .int .i64 x.lim.min, .int .i64 x.lim.max, .bool x.lim.has, .int .i64 x.gl.ty, .bool x.gl.mu]] w fun e w' => e = .returned (.bool true) ∧ Below w.heap.size w w' := by
  obtain ⟨l0, l1⟩ := hl
  have hs0 : (x.mod.toList == x.mod.toList) = true := by simp
  have hs1 : (x.nm.toList == x.nm.toList) = true := by simp
  have T0 : Hid (Bk ((w.alloc (.cells #[.string x.mod, .string x.nm, .int .i64 x.kind, .int .i64 x.ty, .int .i64 x.lim.min, .int .i64 x.lim.max, .bool x.lim.has, .int .i64 x.gl.ty, .bool x.gl.mu] 103)).alloc (.cells #[.string x.mod, .string x.nm, .int .i64 x.kind, .int .i64 x.ty, .int .i64 x.lim.min, .int .i64 x.lim.max, .bool x.lim.has, .int .i64 x.gl.ty, .bool x.gl.mu] 103)) w.heap.size [.string x.mod, .string x.nm, .int .i64 x.kind, .int .i64 x.ty, .int .i64 x.lim.min, .int .i64 x.lim.max, .bool x.lim.has, .int .i64 x.gl.ty, .bool x.gl.mu] ∧ Bk ((w.alloc (.cells #[.string x.mod, .string x.nm, .int .i64 x.kind, .int .i64 x.ty, .int .i64 x.lim.min, .int .i64 x.lim.max, .bool x.lim.has, .int .i64 x.gl.ty, .bool x.gl.mu] 103)).alloc (.cells #[.string x.mod, .string x.nm, .int .i64 x.kind, .int .i64 x.ty, .int .i64 x.lim.min, .int .i64 x.lim.max, .bool x.lim.has, .int .i64 x.gl.ty, .bool x.gl.mu] 103)) (w.heap.size + 1) [.string x.mod, .string x.nm, .int .i64 x.kind, .int .i64 x.ty, .int .i64 x.lim.min, .int .i64 x.lim.max, .bool x.lim.has, .int .i64 x.gl.ty, .bool x.gl.mu] ∧ Below w.heap.size w ((w.alloc (.cells #[.string x.mod, .string x.nm, .int .i64 x.kind, .int .i64 x.ty, .int .i64 x.lim.min, .int .i64 x.lim.max, .bool x.lim.has, .int .i64 x.gl.ty, .bool x.gl.mu] 103)).alloc (.cells #[.string x.mod, .string x.nm, .int .i64 x.kind, .int .i64 x.ty, .int .i64 x.lim.min, .int .i64 x.lim.max, .bool x.lim.has, .int .i64 x.gl.ty, .bool x.gl.mu] 103))) := two w [.string x.mod, .string x.nm, .int .i64 x.kind, .int .i64 x.ty, .int .i64 x.lim.min, .int .i64 x.lim.max, .bool x.lim.has, .int .i64 x.gl.ty, .bool x.gl.mu] [.string x.mod, .string x.nm, .int .i64 x.kind, .int .i64 x.ty, .int .i64 x.lim.min, .int .i64 x.lim.max, .bool x.lim.has, .int .i64 x.gl.ty, .bool x.gl.mu] 103 103
  go_enter Tryz.func131, Tryz.ntmps131
  go_upto_region 1 with fail
  refine wp_gen (fun W => Bk W w.heap.size [.string x.mod, .string x.nm, .int .i64 x.kind, .int .i64 x.ty, .int .i64 x.lim.min, .int .i64 x.lim.max, .bool x.lim.has, .int .i64 x.gl.ty, .bool x.gl.mu] ∧ Bk W (w.heap.size + 1) [.string x.mod, .string x.nm, .int .i64 x.kind, .int .i64 x.ty, .int .i64 x.lim.min, .int .i64 x.lim.max, .bool x.lim.has, .int .i64 x.gl.ty, .bool x.gl.mu] ∧ Below w.heap.size w W) T0.out ?_
  rintro W ⟨bb, bp, hb⟩
  clear T0
  have q0 : W.cell? ⟨w.heap.size, 0, none⟩ = some (.string x.mod) := bb.2.1 0 _ rfl
  have p0 : W.cell? ⟨w.heap.size + 1, 0, none⟩ = some (.string x.mod) := bp.2.1 0 _ rfl
  have q1 : W.cell? ⟨w.heap.size, 1, none⟩ = some (.string x.nm) := bb.2.1 1 _ rfl
  have p1 : W.cell? ⟨w.heap.size + 1, 1, none⟩ = some (.string x.nm) := bp.2.1 1 _ rfl
  have q2 : W.cell? ⟨w.heap.size, 2, none⟩ = some (.int .i64 x.kind) := bb.2.1 2 _ rfl
  have p2 : W.cell? ⟨w.heap.size + 1, 2, none⟩ = some (.int .i64 x.kind) := bp.2.1 2 _ rfl
  have q3 : W.cell? ⟨w.heap.size, 3, none⟩ = some (.int .i64 x.ty) := bb.2.1 3 _ rfl
  have p3 : W.cell? ⟨w.heap.size + 1, 3, none⟩ = some (.int .i64 x.ty) := bp.2.1 3 _ rfl
  have q4 : W.cell? ⟨w.heap.size, 4, none⟩ = some (.int .i64 x.lim.min) := bb.2.1 4 _ rfl
  have p4 : W.cell? ⟨w.heap.size + 1, 4, none⟩ = some (.int .i64 x.lim.min) := bp.2.1 4 _ rfl
  have q5 : W.cell? ⟨w.heap.size, 5, none⟩ = some (.int .i64 x.lim.max) := bb.2.1 5 _ rfl
  have p5 : W.cell? ⟨w.heap.size + 1, 5, none⟩ = some (.int .i64 x.lim.max) := bp.2.1 5 _ rfl
  have q6 : W.cell? ⟨w.heap.size, 6, none⟩ = some (.bool x.lim.has) := bb.2.1 6 _ rfl
  have p6 : W.cell? ⟨w.heap.size + 1, 6, none⟩ = some (.bool x.lim.has) := bp.2.1 6 _ rfl
  have q7 : W.cell? ⟨w.heap.size, 7, none⟩ = some (.int .i64 x.gl.ty) := bb.2.1 7 _ rfl
  have p7 : W.cell? ⟨w.heap.size + 1, 7, none⟩ = some (.int .i64 x.gl.ty) := bp.2.1 7 _ rfl
  have q8 : W.cell? ⟨w.heap.size, 8, none⟩ = some (.bool x.gl.mu) := bb.2.1 8 _ rfl
  have p8 : W.cell? ⟨w.heap.size + 1, 8, none⟩ = some (.bool x.gl.mu) := bp.2.1 8 _ rfl
  have HC1 := Hid.mk' (reLimits_c x.lim W trivial trivial trivial)
  go_wp2_with fail
  refine HC1.out.mono ?_
  rintro e W1 ⟨rfl, hb1⟩
  have bb := bb.keep hb1
  have bp := bp.keep hb1
  have hb := hb.trans (hb1.mono hb.size)
  clear HC1 hb1
  have q0 : W1.cell? ⟨w.heap.size, 0, none⟩ = some (.string x.mod) := bb.2.1 0 _ rfl
  have p0 : W1.cell? ⟨w.heap.size + 1, 0, none⟩ = some (.string x.mod) := bp.2.1 0 _ rfl
  have q1 : W1.cell? ⟨w.heap.size, 1, none⟩ = some (.string x.nm) := bb.2.1 1 _ rfl
  have p1 : W1.cell? ⟨w.heap.size + 1, 1, none⟩ = some (.string x.nm) := bp.2.1 1 _ rfl
  have q2 : W1.cell? ⟨w.heap.size, 2, none⟩ = some (.int .i64 x.kind) := bb.2.1 2 _ rfl
  have p2 : W1.cell? ⟨w.heap.size + 1, 2, none⟩ = some (.int .i64 x.kind) := bp.2.1 2 _ rfl
  have q3 : W1.cell? ⟨w.heap.size, 3, none⟩ = some (.int .i64 x.ty) := bb.2.1 3 _ rfl
  have p3 : W1.cell? ⟨w.heap.size + 1, 3, none⟩ = some (.int .i64 x.ty) := bp.2.1 3 _ rfl
  have q4 : W1.cell? ⟨w.heap.size, 4, none⟩ = some (.int .i64 x.lim.min) := bb.2.1 4 _ rfl
  have p4 : W1.cell? ⟨w.heap.size + 1, 4, none⟩ = some (.int .i64 x.lim.min) := bp.2.1 4 _ rfl
  have q5 : W1.cell? ⟨w.heap.size, 5, none⟩ = some (.int .i64 x.lim.max) := bb.2.1 5 _ rfl
  have p5 : W1.cell? ⟨w.heap.size + 1, 5, none⟩ = some (.int .i64 x.lim.max) := bp.2.1 5 _ rfl
  have q6 : W1.cell? ⟨w.heap.size, 6, none⟩ = some (.bool x.lim.has) := bb.2.1 6 _ rfl
  have p6 : W1.cell? ⟨w.heap.size + 1, 6, none⟩ = some (.bool x.lim.has) := bp.2.1 6 _ rfl
  have q7 : W1.cell? ⟨w.heap.size, 7, none⟩ = some (.int .i64 x.gl.ty) := bb.2.1 7 _ rfl
  have p7 : W1.cell? ⟨w.heap.size + 1, 7, none⟩ = some (.int .i64 x.gl.ty) := bp.2.1 7 _ rfl
  have q8 : W1.cell? ⟨w.heap.size, 8, none⟩ = some (.bool x.gl.mu) := bb.2.1 8 _ rfl
  have p8 : W1.cell? ⟨w.heap.size + 1, 8, none⟩ = some (.bool x.gl.mu) := bp.2.1 8 _ rfl
  have HC2 := Hid.mk' (reGType_c x.gl W1 trivial trivial trivial)
  go_wp2_with fail
  refine HC2.out.mono ?_
  rintro e W2 ⟨rfl, hb2⟩
  have bb := bb.keep hb2
  have bp := bp.keep hb2
  have hb := hb.trans (hb2.mono hb.size)
  clear HC2 hb2
  have q0 : W2.cell? ⟨w.heap.size, 0, none⟩ = some (.string x.mod) := bb.2.1 0 _ rfl
  have p0 : W2.cell? ⟨w.heap.size + 1, 0, none⟩ = some (.string x.mod) := bp.2.1 0 _ rfl
  have q1 : W2.cell? ⟨w.heap.size, 1, none⟩ = some (.string x.nm) := bb.2.1 1 _ rfl
  have p1 : W2.cell? ⟨w.heap.size + 1, 1, none⟩ = some (.string x.nm) := bp.2.1 1 _ rfl
  have q2 : W2.cell? ⟨w.heap.size, 2, none⟩ = some (.int .i64 x.kind) := bb.2.1 2 _ rfl
  have p2 : W2.cell? ⟨w.heap.size + 1, 2, none⟩ = some (.int .i64 x.kind) := bp.2.1 2 _ rfl
  have q3 : W2.cell? ⟨w.heap.size, 3, none⟩ = some (.int .i64 x.ty) := bb.2.1 3 _ rfl
  have p3 : W2.cell? ⟨w.heap.size + 1, 3, none⟩ = some (.int .i64 x.ty) := bp.2.1 3 _ rfl
  have q4 : W2.cell? ⟨w.heap.size, 4, none⟩ = some (.int .i64 x.lim.min) := bb.2.1 4 _ rfl
  have p4 : W2.cell? ⟨w.heap.size + 1, 4, none⟩ = some (.int .i64 x.lim.min) := bp.2.1 4 _ rfl
  have q5 : W2.cell? ⟨w.heap.size, 5, none⟩ = some (.int .i64 x.lim.max) := bb.2.1 5 _ rfl
  have p5 : W2.cell? ⟨w.heap.size + 1, 5, none⟩ = some (.int .i64 x.lim.max) := bp.2.1 5 _ rfl
  have q6 : W2.cell? ⟨w.heap.size, 6, none⟩ = some (.bool x.lim.has) := bb.2.1 6 _ rfl
  have p6 : W2.cell? ⟨w.heap.size + 1, 6, none⟩ = some (.bool x.lim.has) := bp.2.1 6 _ rfl
  have q7 : W2.cell? ⟨w.heap.size, 7, none⟩ = some (.int .i64 x.gl.ty) := bb.2.1 7 _ rfl
  have p7 : W2.cell? ⟨w.heap.size + 1, 7, none⟩ = some (.int .i64 x.gl.ty) := bp.2.1 7 _ rfl
  have q8 : W2.cell? ⟨w.heap.size, 8, none⟩ = some (.bool x.gl.mu) := bb.2.1 8 _ rfl
  have p8 : W2.cell? ⟨w.heap.size + 1, 8, none⟩ = some (.bool x.gl.mu) := bp.2.1 8 _ rfl
  have HB := Hid.mk' hb
  clear hb bb bp
  go_wp2
  go_ret
  exact ⟨rfl, HB.out⟩
set_option maxHeartbeats 8000000 in
theorem reImps_c (a a' : Option Addr) (c c' : Nat) (xs : List Imp) (w : World) (hl : xs.length ≤ 1048576 ∧ ∀ i, i < xs.length → Imp.LB 1048576 (xs.getD i Imp.z)) (h : Imp.Ls 0 w a xs) (h' : Imp.Ls 0 w a' xs) :
    Calls Tryz.prog 68 #[.slice a xs.length c, .slice a' xs.length c'] w fun e w' => e = .returned (.bool true) ∧ Below w.heap.size w w' := by
  obtain ⟨hn, hl⟩ := hl
  have H1 := Hid.mk' h
  have H2 := Hid.mk' h'
  have H3 := Hid.mk' hl
  clear h h' hl
  go_enter Tryz.func68, Tryz.ntmps68
  go_wp2
  go_loopw [5] (fun i wr => ∃ k : Nat, k ≤ xs.length ∧ i = .int .i64 k ∧ Below w.heap.size w wr) (fun i _ => xs.length - (intOf i).toNat)
  case atStart => exact ⟨0, Nat.zero_le _, rfl, Below.refl _ _⟩
  case round =>
    obtain ⟨k, hk, rfl, hb⟩ := hrel
    by_cases hlt : k < xs.length
    · have hki : (k : Int) < (xs.length : Int) := by omega
      rcases H1.out.up (up_below hb) with hx | ⟨b, o, ea, _, hc⟩
      · subst hx; simp at hlt
      rcases H2.out.up (up_below hb) with hx | ⟨b', o', ea', _, hc'⟩
      · subst hx; simp at hlt
      have g1 := hc k hlt
      have g2 := hc' k hlt
      have hl := H3.out k hlt
      subst ea ea'
      generalize xs.getD k Imp.z = x at g1 g2 hl
      obtain ⟨⟨q0, q1, q2, q3, q4, q5, q6, q7, q8⟩, hi⟩ := g1
      obtain ⟨⟨p0, p1, p2, p3, p4, p5, p6, p7, p8⟩, hi'⟩ := g2
      have kq0 := cell_regrown q0
      have kp0 := cell_regrown p0
      have kq1 := cell_regrown q1
      have kp1 := cell_regrown p1
      have kq2 := cell_regrown q2
      have kp2 := cell_regrown p2
      have kq3 := cell_regrown q3
      have kp3 := cell_regrown p3
      have kq4 := cell_regrown q4
      have kp4 := cell_regrown p4
      have kq5 := cell_regrown q5
      have kp5 := cell_regrown p5
      have kq6 := cell_regrown q6
      have kp6 := cell_regrown p6
      have kq7 := cell_regrown q7
      have kp7 := cell_regrown p7
      have kq8 := cell_regrown q8
      have kp8 := cell_regrown p8
      have cE : ∀ d os, Calls Tryz.prog 131 #[.agg #[.string x.mod, .string x.nm, .int .i64 x.kind, .int .i64 x.ty, .int .i64 x.lim.min, .int .i64 x.lim.max, .bool x.lim.has, .int .i64 x.gl.ty, .bool x.gl.mu], .agg #[.string x.mod, .string x.nm, .int .i64 x.kind, .int .i64 x.ty, .int .i64 x.lim.min, .int .i64 x.lim.max, .bool x.lim.has, .int .i64 x.gl.ty, .bool x.gl.mu]] (grow (redrawn wr d) os) fun e w'' => e = .returned (.bool true) ∧ ∃ p : Regrown, w'' = grow (redrawn wr p.d) p.os := fun d os => Calls.regrown_of (reImp_c x _ (hi.up (up_below (below_regrown wr d os))) (hi'.up (up_below (below_regrown wr d os))) hl)
      have HB := Hid.mk' hb
      have HE := Hid.mk' cE
      clear hb hc hc' hi hi' hl H1 H2 H3 cE q0 p0 q1 p1 q2 p2 q3 p3 q4 p4 q5 p5 q6 p6 q7 p7 q8 p8
      go_wp2
      refine wp_region_quiet_below (by kernel_rfl) (by kernel_rfl) ?_
      repeat (quiet_step (exact HE.out _ _))
      refine wpQuiet_nil ?_
      intro _ hw'
      obtain ⟨⟨dq, osq⟩, hw''⟩ := hw'
      subst hw''
      have hw5 := HB.out.trans ((below_regrown wr dq osq).mono HB.out.size)
      clear kq0 kp0 kq1 kp1 kq2 kp2 kq3 kp3 kq4 kp4 kq5 kp5 kq6 kp6 kq7 kp7 kq8 kp8
      generalize grow (redrawn wr dq) osq = w5 at *
      show Exit.then _ _ Exit.normal _ w5
      go_wp2
      go_roundw
      case rel => exact ⟨k + 1, by omega, by go_num, hw5⟩
      case measure => simp [intOf]; omega
    · go_wp2
      go_ret
      exact ⟨rfl, hb⟩
set_option maxHeartbeats 8000000 in
theorem reExp_c (x : Exp) (w : World) (hI : Exp.Is 0 w x) (hI' : Exp.Is 0 w x) (hl : Exp.LB 1048576 x) :
    Calls Tryz.prog 134 #[.agg #[.string x.nm, .int .i64 x.kind, .int .i64 x.ix], .agg #[.string x.nm, .int .i64 x.kind, .int .i64 x.ix]] w fun e w' => e = .returned (.bool true) ∧ Below w.heap.size w w' := by
  have l0 := hl
  have hs0 : (x.nm.toList == x.nm.toList) = true := by simp
  have T0 : Hid (Bk ((w.alloc (.cells #[.string x.nm, .int .i64 x.kind, .int .i64 x.ix] 114)).alloc (.cells #[.string x.nm, .int .i64 x.kind, .int .i64 x.ix] 114)) w.heap.size [.string x.nm, .int .i64 x.kind, .int .i64 x.ix] ∧ Bk ((w.alloc (.cells #[.string x.nm, .int .i64 x.kind, .int .i64 x.ix] 114)).alloc (.cells #[.string x.nm, .int .i64 x.kind, .int .i64 x.ix] 114)) (w.heap.size + 1) [.string x.nm, .int .i64 x.kind, .int .i64 x.ix] ∧ Below w.heap.size w ((w.alloc (.cells #[.string x.nm, .int .i64 x.kind, .int .i64 x.ix] 114)).alloc (.cells #[.string x.nm, .int .i64 x.kind, .int .i64 x.ix] 114))) := two w [.string x.nm, .int .i64 x.kind, .int .i64 x.ix] [.string x.nm, .int .i64 x.kind, .int .i64 x.ix] 114 114
  go_enter Tryz.func134, Tryz.ntmps134
  go_upto_region 1 with fail
  refine wp_gen (fun W => Bk W w.heap.size [.string x.nm, .int .i64 x.kind, .int .i64 x.ix] ∧ Bk W (w.heap.size + 1) [.string x.nm, .int .i64 x.kind, .int .i64 x.ix] ∧ Below w.heap.size w W) T0.out ?_
  rintro W ⟨bb, bp, hb⟩
  clear T0
  have q0 : W.cell? ⟨w.heap.size, 0, none⟩ = some (.string x.nm) := bb.2.1 0 _ rfl
  have p0 : W.cell? ⟨w.heap.size + 1, 0, none⟩ = some (.string x.nm) := bp.2.1 0 _ rfl
  have q1 : W.cell? ⟨w.heap.size, 1, none⟩ = some (.int .i64 x.kind) := bb.2.1 1 _ rfl
  have p1 : W.cell? ⟨w.heap.size + 1, 1, none⟩ = some (.int .i64 x.kind) := bp.2.1 1 _ rfl
  have q2 : W.cell? ⟨w.heap.size, 2, none⟩ = some (.int .i64 x.ix) := bb.2.1 2 _ rfl
  have p2 : W.cell? ⟨w.heap.size + 1, 2, none⟩ = some (.int .i64 x.ix) := bp.2.1 2 _ rfl
  have HB := Hid.mk' hb
  clear hb bb bp
  go_wp2
  go_ret
  exact ⟨rfl, HB.out⟩
set_option maxHeartbeats 8000000 in
theorem reExps_c (a a' : Option Addr) (c c' : Nat) (xs : List Exp) (w : World) (hl : xs.length ≤ 1048576 ∧ ∀ i, i < xs.length → Exp.LB 1048576 (xs.getD i Exp.z)) (h : Exp.Ls 0 w a xs) (h' : Exp.Ls 0 w a' xs) :
    Calls Tryz.prog 72 #[.slice a xs.length c, .slice a' xs.length c'] w fun e w' => e = .returned (.bool true) ∧ Below w.heap.size w w' := by
  obtain ⟨hn, hl⟩ := hl
  have H1 := Hid.mk' h
  have H2 := Hid.mk' h'
  have H3 := Hid.mk' hl
  clear h h' hl
  go_enter Tryz.func72, Tryz.ntmps72
  go_wp2
  go_loopw [5] (fun i wr => ∃ k : Nat, k ≤ xs.length ∧ i = .int .i64 k ∧ Below w.heap.size w wr) (fun i _ => xs.length - (intOf i).toNat)
  case atStart => exact ⟨0, Nat.zero_le _, rfl, Below.refl _ _⟩
  case round =>
    obtain ⟨k, hk, rfl, hb⟩ := hrel
    by_cases hlt : k < xs.length
    · have hki : (k : Int) < (xs.length : Int) := by omega
      rcases H1.out.up (up_below hb) with hx | ⟨b, o, ea, _, hc⟩
      · subst hx; simp at hlt
      rcases H2.out.up (up_below hb) with hx | ⟨b', o', ea', _, hc'⟩
      · subst hx; simp at hlt
      have g1 := hc k hlt
      have g2 := hc' k hlt
      have hl := H3.out k hlt
      subst ea ea'
      generalize xs.getD k Exp.z = x at g1 g2 hl
      obtain ⟨⟨q0, q1, q2⟩, hi⟩ := g1
      obtain ⟨⟨p0, p1, p2⟩, hi'⟩ := g2
      have kq0 := cell_regrown q0
      have kp0 := cell_regrown p0
      have kq1 := cell_regrown q1
      have kp1 := cell_regrown p1
      have kq2 := cell_regrown q2
      have kp2 := cell_regrown p2
      have cE : ∀ d os, Calls Tryz.prog 134 #[.agg #[.string x.nm, .int .i64 x.kind, .int .i64 x.ix], .agg #[.string x.nm, .int .i64 x.kind, .int .i64 x.ix]] (grow (redrawn wr d) os) fun e w'' => e = .returned (.bool true) ∧ ∃ p : Regrown, w'' = grow (redrawn wr p.d) p.os := fun d os => Calls.regrown_of (reExp_c x _ (hi.up (up_below (below_regrown wr d os))) (hi'.up (up_below (below_regrown wr d os))) hl)
      have HB := Hid.mk' hb
      have HE := Hid.mk' cE
      clear hb hc hc' hi hi' hl H1 H2 H3 cE q0 p0 q1 p1 q2 p2
      go_wp2
      refine wp_region_quiet_below (by kernel_rfl) (by kernel_rfl) ?_
      repeat (quiet_step (exact HE.out _ _))
      refine wpQuiet_nil ?_
      intro _ hw'
      obtain ⟨⟨dq, osq⟩, hw''⟩ := hw'
      subst hw''
      have hw5 := HB.out.trans ((below_regrown wr dq osq).mono HB.out.size)
      clear kq0 kp0 kq1 kp1 kq2 kp2
      generalize grow (redrawn wr dq) osq = w5 at *
      show Exit.then _ _ Exit.normal _ w5
      go_wp2
      go_roundw
      case rel => exact ⟨k + 1, by omega, by go_num, hw5⟩
      case measure => simp [intOf]; omega
    · go_wp2
      go_ret
      exact ⟨rfl, hb⟩
end Go.Proofs.YtdbmolambolmgaaGreat

set_option linter.unusedVariables false
namespace Go.Proofs.YtdbmolambolmgaaGreat
open Go.RowKit Go.Sort
set_option maxRecDepth 100000
set_option maxHeartbeats 8000000 in
theorem reGlob_c (x : Glob) (a1 : Option Addr) (c1 : Nat) (a1' : Option Addr) (c1' : Nat) (w : World) (hI : Glob.Is 0 w x a1) (hI' : Glob.Is 0 w x a1') (hl : Glob.LB 1048576 x) :
    Calls Tryz.prog 133 #[.agg #[.int .i64 x.ty.ty, .bool x.ty.mu, .slice a1 x.ini.length c1], .agg #[.int .i64 x.ty.ty, .bool x.ty.mu, .slice a1' x.ini.length c1']] w fun e w' => e = .returned (.bool true) ∧ Below w.heap.size w w' := by
  have l2 := hl
  have r1 := hI
  clear hI
  have R1 := Hid.mk' r1
  clear r1
  have r1' := hI'
  clear hI'
  have R1' := Hid.mk' r1'
  clear r1'
  have T0 : Hid (Bk ((w.alloc (.cells #[.int .i64 x.ty.ty, .bool x.ty.mu, .slice a1 x.ini.length c1] 110)).alloc (.cells #[.int .i64 x.ty.ty, .bool x.ty.mu, .slice a1' x.ini.length c1'] 110)) w.heap.size [.int .i64 x.ty.ty, .bool x.ty.mu, .slice a1 x.ini.length c1] ∧ Bk ((w.alloc (.cells #[.int .i64 x.ty.ty, .bool x.ty.mu, .slice a1 x.ini.length c1] 110)).alloc (.cells #[.int .i64 x.ty.ty, .bool x.ty.mu, .slice a1' x.ini.length c1'] 110)) (w.heap.size + 1) [.int .i64 x.ty.ty, .bool x.ty.mu, .slice a1' x.ini.length c1'] ∧ Below w.heap.size w ((w.alloc (.cells #[.int .i64 x.ty.ty, .bool x.ty.mu, .slice a1 x.ini.length c1] 110)).alloc (.cells #[.int .i64 x.ty.ty, .bool x.ty.mu, .slice a1' x.ini.length c1'] 110))) := two w [.int .i64 x.ty.ty, .bool x.ty.mu, .slice a1 x.ini.length c1] [.int .i64 x.ty.ty, .bool x.ty.mu, .slice a1' x.ini.length c1'] 110 110
  go_enter Tryz.func133, Tryz.ntmps133
  go_upto_region 1 with fail
  refine wp_gen (fun W => Bk W w.heap.size [.int .i64 x.ty.ty, .bool x.ty.mu, .slice a1 x.ini.length c1] ∧ Bk W (w.heap.size + 1) [.int .i64 x.ty.ty, .bool x.ty.mu, .slice a1' x.ini.length c1'] ∧ Below w.heap.size w W) T0.out ?_
  rintro W ⟨bb, bp, hb⟩
  clear T0
  have q0 : W.cell? ⟨w.heap.size, 0, none⟩ = some (.int .i64 x.ty.ty) := bb.2.1 0 _ rfl
  have p0 : W.cell? ⟨w.heap.size + 1, 0, none⟩ = some (.int .i64 x.ty.ty) := bp.2.1 0 _ rfl
  have q1 : W.cell? ⟨w.heap.size, 1, none⟩ = some (.bool x.ty.mu) := bb.2.1 1 _ rfl
  have p1 : W.cell? ⟨w.heap.size + 1, 1, none⟩ = some (.bool x.ty.mu) := bp.2.1 1 _ rfl
  have q2 : W.cell? ⟨w.heap.size, 2, none⟩ = some (.slice a1 x.ini.length c1) := bb.2.1 2 _ rfl
  have p2 : W.cell? ⟨w.heap.size + 1, 2, none⟩ = some (.slice a1' x.ini.length c1') := bp.2.1 2 _ rfl
  have HC1 := Hid.mk' (reGType_c x.ty W trivial trivial trivial)
  go_wp2_with fail
  refine HC1.out.mono ?_
  rintro e W1 ⟨rfl, hb1⟩
  have bb := bb.keep hb1
  have bp := bp.keep hb1
  have hb := hb.trans (hb1.mono hb.size)
  clear HC1 hb1
  have q0 : W1.cell? ⟨w.heap.size, 0, none⟩ = some (.int .i64 x.ty.ty) := bb.2.1 0 _ rfl
  have p0 : W1.cell? ⟨w.heap.size + 1, 0, none⟩ = some (.int .i64 x.ty.ty) := bp.2.1 0 _ rfl
  have q1 : W1.cell? ⟨w.heap.size, 1, none⟩ = some (.bool x.ty.mu) := bb.2.1 1 _ rfl
  have p1 : W1.cell? ⟨w.heap.size + 1, 1, none⟩ = some (.bool x.ty.mu) := bp.2.1 1 _ rfl
  have q2 : W1.cell? ⟨w.heap.size, 2, none⟩ = some (.slice a1 x.ini.length c1) := bb.2.1 2 _ rfl
  have p2 : W1.cell? ⟨w.heap.size + 1, 2, none⟩ = some (.slice a1' x.ini.length c1') := bp.2.1 2 _ rfl
  have HC2 := Hid.mk' (reIns_c a1 a1' c1 c1' x.ini W1 l2 (R1.out.up (up_below hb)) (R1'.out.up (up_below hb)))
  go_wp2_with fail
  refine HC2.out.mono ?_
  rintro e W2 ⟨rfl, hb2⟩
  have bb := bb.keep hb2
  have bp := bp.keep hb2
  have hb := hb.trans (hb2.mono hb.size)
  clear HC2 hb2
  have q0 : W2.cell? ⟨w.heap.size, 0, none⟩ = some (.int .i64 x.ty.ty) := bb.2.1 0 _ rfl
  have p0 : W2.cell? ⟨w.heap.size + 1, 0, none⟩ = some (.int .i64 x.ty.ty) := bp.2.1 0 _ rfl
  have q1 : W2.cell? ⟨w.heap.size, 1, none⟩ = some (.bool x.ty.mu) := bb.2.1 1 _ rfl
  have p1 : W2.cell? ⟨w.heap.size + 1, 1, none⟩ = some (.bool x.ty.mu) := bp.2.1 1 _ rfl
  have q2 : W2.cell? ⟨w.heap.size, 2, none⟩ = some (.slice a1 x.ini.length c1) := bb.2.1 2 _ rfl
  have p2 : W2.cell? ⟨w.heap.size + 1, 2, none⟩ = some (.slice a1' x.ini.length c1') := bp.2.1 2 _ rfl
  have HB := Hid.mk' hb
  clear hb bb bp
  go_wp2
  go_ret
  exact ⟨rfl, HB.out⟩
set_option maxHeartbeats 8000000 in
theorem reGlobs_c (a a' : Option Addr) (c c' : Nat) (xs : List Glob) (w : World) (hl : xs.length ≤ 1048576 ∧ ∀ i, i < xs.length → Glob.LB 1048576 (xs.getD i Glob.z)) (h : Glob.Ls 0 w a xs) (h' : Glob.Ls 0 w a' xs) :
    Calls Tryz.prog 71 #[.slice a xs.length c, .slice a' xs.length c'] w fun e w' => e = .returned (.bool true) ∧ Below w.heap.size w w' := by
  obtain ⟨hn, hl⟩ := hl
  have H1 := Hid.mk' h
  have H2 := Hid.mk' h'
  have H3 := Hid.mk' hl
  clear h h' hl
  go_enter Tryz.func71, Tryz.ntmps71
  go_wp2
  go_loopw [5] (fun i wr => ∃ k : Nat, k ≤ xs.length ∧ i = .int .i64 k ∧ Below w.heap.size w wr) (fun i _ => xs.length - (intOf i).toNat)
  case atStart => exact ⟨0, Nat.zero_le _, rfl, Below.refl _ _⟩
  case round =>
    obtain ⟨k, hk, rfl, hb⟩ := hrel
    by_cases hlt : k < xs.length
    · have hki : (k : Int) < (xs.length : Int) := by omega
      rcases H1.out.up (up_below hb) with hx | ⟨b, o, ea, _, hc⟩
      · subst hx; simp at hlt
      rcases H2.out.up (up_below hb) with hx | ⟨b', o', ea', _, hc'⟩
      · subst hx; simp at hlt
      have g1 := hc k hlt
      have g2 := hc' k hlt
      have hl := H3.out k hlt
      subst ea ea'
      generalize xs.getD k Glob.z = x at g1 g2 hl
      obtain ⟨a1, c1, ⟨q0, q1, q2⟩, hi⟩ := g1
      obtain ⟨a1', c1', ⟨p0, p1, p2⟩, hi'⟩ := g2
      have kq0 := cell_regrown q0
      have kp0 := cell_regrown p0
      have kq1 := cell_regrown q1
      have kp1 := cell_regrown p1
      have kq2 := cell_regrown q2
      have kp2 := cell_regrown p2
      have cE : ∀ d os, Calls Tryz.prog 133 #[.agg #[.int .i64 x.ty.ty, .bool x.ty.mu, .slice a1 x.ini.length c1], .agg #[.int .i64 x.ty.ty, .bool x.ty.mu, .slice a1' x.ini.length c1']] (grow (redrawn wr d) os) fun e w'' => e = .returned (.bool true) ∧ ∃ p : Regrown, w'' = grow (redrawn wr p.d) p.os := fun d os => Calls.regrown_of (reGlob_c x a1 c1 a1' c1' _ (hi.up (up_below (below_regrown wr d os))) (hi'.up (up_below (below_regrown wr d os))) hl)
      have HB := Hid.mk' hb
      have HE := Hid.mk' cE
      clear hb hc hc' hi hi' hl H1 H2 H3 cE q0 p0 q1 p1 q2 p2
      go_wp2
      refine wp_region_quiet_below (by kernel_rfl) (by kernel_rfl) ?_
      repeat (quiet_step (exact HE.out _ _))
      refine wpQuiet_nil ?_
      intro _ hw'
      obtain ⟨⟨dq, osq⟩, hw''⟩ := hw'
      subst hw''
      have hw5 := HB.out.trans ((below_regrown wr dq osq).mono HB.out.size)
      clear kq0 kp0 kq1 kp1 kq2 kp2
      generalize grow (redrawn wr dq) osq = w5 at *
      show Exit.then _ _ Exit.normal _ w5
      go_wp2
      go_roundw
      case rel => exact ⟨k + 1, by omega, by go_num, hw5⟩
      case measure => simp [intOf]; omega
    · go_wp2
      go_ret
      exact ⟨rfl, hb⟩
set_option maxHeartbeats 8000000 in
theorem reEle_c (x : Ele) (a1 : Option Addr) (c1 : Nat) (a2 : Option Addr) (c2 : Nat) (a1' : Option Addr) (c1' : Nat) (a2' : Option Addr) (c2' : Nat) (w : World) (hI : Ele.Is 0 w x a1 a2) (hI' : Ele.Is 0 w x a1' a2') (hl : Ele.LB 1048576 x) :
    Calls Tryz.prog 135 #[.agg #[.slice a1 x.off.length c1, .slice a2 x.fs.length c2], .agg #[.slice a1' x.off.length c1', .slice a2' x.fs.length c2']] w fun e w' => e = .returned (.bool true) ∧ Below w.heap.size w w' := by
  obtain ⟨l0, l1⟩ := hl
  obtain ⟨r1, r2⟩ := hI
  have R1 := Hid.mk' r1
  have R2 := Hid.mk' r2
  clear r1 r2
  obtain ⟨r1', r2'⟩ := hI'
  have R1' := Hid.mk' r1'
  have R2' := Hid.mk' r2'
  clear r1' r2'
  have T0 : Hid (Bk ((w.alloc (.cells #[.slice a1 x.off.length c1, .slice a2 x.fs.length c2] 70)).alloc (.cells #[.slice a1' x.off.length c1', .slice a2' x.fs.length c2'] 70)) w.heap.size [.slice a1 x.off.length c1, .slice a2 x.fs.length c2] ∧ Bk ((w.alloc (.cells #[.slice a1 x.off.length c1, .slice a2 x.fs.length c2] 70)).alloc (.cells #[.slice a1' x.off.length c1', .slice a2' x.fs.length c2'] 70)) (w.heap.size + 1) [.slice a1' x.off.length c1', .slice a2' x.fs.length c2'] ∧ Below w.heap.size w ((w.alloc (.cells #[.slice a1 x.off.length c1, .slice a2 x.fs.length c2] 70)).alloc (.cells #[.slice a1' x.off.length c1', .slice a2' x.fs.length c2'] 70))) := two w [.slice a1 x.off.length c1, .slice a2 x.fs.length c2] [.slice a1' x.off.length c1', .slice a2' x.fs.length c2'] 70 70
  go_enter Tryz.func135, Tryz.ntmps135
  go_upto_region 1 with fail
  refine wp_gen (fun W => Bk W w.heap.size [.slice a1 x.off.length c1, .slice a2 x.fs.length c2] ∧ Bk W (w.heap.size + 1) [.slice a1' x.off.length c1', .slice a2' x.fs.length c2'] ∧ Below w.heap.size w W) T0.out ?_
  rintro W ⟨bb, bp, hb⟩
  clear T0
  have q0 : W.cell? ⟨w.heap.size, 0, none⟩ = some (.slice a1 x.off.length c1) := bb.2.1 0 _ rfl
  have p0 : W.cell? ⟨w.heap.size + 1, 0, none⟩ = some (.slice a1' x.off.length c1') := bp.2.1 0 _ rfl
  have q1 : W.cell? ⟨w.heap.size, 1, none⟩ = some (.slice a2 x.fs.length c2) := bb.2.1 1 _ rfl
  have p1 : W.cell? ⟨w.heap.size + 1, 1, none⟩ = some (.slice a2' x.fs.length c2') := bp.2.1 1 _ rfl
  have HC1 := Hid.mk' (reIns_c a1 a1' c1 c1' x.off W l0 (R1.out.up (up_below hb)) (R1'.out.up (up_below hb)))
  go_wp2_with fail
  refine HC1.out.mono ?_
  rintro e W1 ⟨rfl, hb1⟩
  have bb := bb.keep hb1
  have bp := bp.keep hb1
  have hb := hb.trans (hb1.mono hb.size)
  clear HC1 hb1
  have q0 : W1.cell? ⟨w.heap.size, 0, none⟩ = some (.slice a1 x.off.length c1) := bb.2.1 0 _ rfl
  have p0 : W1.cell? ⟨w.heap.size + 1, 0, none⟩ = some (.slice a1' x.off.length c1') := bp.2.1 0 _ rfl
  have q1 : W1.cell? ⟨w.heap.size, 1, none⟩ = some (.slice a2 x.fs.length c2) := bb.2.1 1 _ rfl
  have p1 : W1.cell? ⟨w.heap.size + 1, 1, none⟩ = some (.slice a2' x.fs.length c2') := bp.2.1 1 _ rfl
  have HC2 := Hid.mk' (eq_any a2 a2' c2 c2' x.fs W1 (by omega) (R2.out.up (up_below hb)).has (R2'.out.up (up_below hb)).has)
  go_wp2_with fail
  refine HC2.out.mono ?_
  rintro e W2 ⟨rfl, nd2, hd2⟩
  have hb2 : Below W1.heap.size W1 W2 := by rw [hd2]; exact below_drewN' (Below.refl _ _) _
  clear hd2
  have bb := bb.keep hb2
  have bp := bp.keep hb2
  have hb := hb.trans (hb2.mono hb.size)
  clear HC2 hb2
  have q0 : W2.cell? ⟨w.heap.size, 0, none⟩ = some (.slice a1 x.off.length c1) := bb.2.1 0 _ rfl
  have p0 : W2.cell? ⟨w.heap.size + 1, 0, none⟩ = some (.slice a1' x.off.length c1') := bp.2.1 0 _ rfl
  have q1 : W2.cell? ⟨w.heap.size, 1, none⟩ = some (.slice a2 x.fs.length c2) := bb.2.1 1 _ rfl
  have p1 : W2.cell? ⟨w.heap.size + 1, 1, none⟩ = some (.slice a2' x.fs.length c2') := bp.2.1 1 _ rfl
  have HB := Hid.mk' hb
  clear hb bb bp
  go_wp2
  go_ret
  exact ⟨rfl, HB.out⟩
set_option maxHeartbeats 8000000 in
theorem reEles_c (a a' : Option Addr) (c c' : Nat) (xs : List Ele) (w : World) (hl : xs.length ≤ 1048576 ∧ ∀ i, i < xs.length → Ele.LB 1048576 (xs.getD i Ele.z)) (h : Ele.Ls 0 w a xs) (h' : Ele.Ls 0 w a' xs) :
    Calls Tryz.prog 73 #[.slice a xs.length c, .slice a' xs.length c'] w fun e w' => e = .returned (.bool true) ∧ Below w.heap.size w w' := by
  obtain ⟨hn, hl⟩ := hl
  have H1 := Hid.mk' h
  have H2 := Hid.mk' h'
  have H3 := Hid.mk' hl
  clear h h' hl
  go_enter Tryz.func73, Tryz.ntmps73
  go_wp2
  go_loopw [5] (fun i wr => ∃ k : Nat, k ≤ xs.length ∧ i = .int .i64 k ∧ Below w.heap.size w wr) (fun i _ => xs.length - (intOf i).toNat)
  case atStart => exact ⟨0, Nat.zero_le _, rfl, Below.refl _ _⟩
  case round =>
    obtain ⟨k, hk, rfl, hb⟩ := hrel
    by_cases hlt : k < xs.length
    · have hki : (k : Int) < (xs.length : Int) := by omega
      rcases H1.out.up (up_below hb) with hx | ⟨b, o, ea, _, hc⟩
      · subst hx; simp at hlt
      rcases H2.out.up (up_below hb) with hx | ⟨b', o', ea', _, hc'⟩
      · subst hx; simp at hlt
      have g1 := hc k hlt
      have g2 := hc' k hlt
      have hl := H3.out k hlt
      subst ea ea'
      generalize xs.getD k Ele.z = x at g1 g2 hl
      obtain ⟨a1, c1, a2, c2, ⟨q0, q1⟩, hi⟩ := g1
      obtain ⟨a1', c1', a2', c2', ⟨p0, p1⟩, hi'⟩ := g2
      have kq0 := cell_regrown q0
      have kp0 := cell_regrown p0
      have kq1 := cell_regrown q1
      have kp1 := cell_regrown p1
      have cE : ∀ d os, Calls Tryz.prog 135 #[.agg #[.slice a1 x.off.length c1, .slice a2 x.fs.length c2], .agg #[.slice a1' x.off.length c1', .slice a2' x.fs.length c2']] (grow (redrawn wr d) os) fun e w'' => e = .returned (.bool true) ∧ ∃ p : Regrown, w'' = grow (redrawn wr p.d) p.os := fun d os => Calls.regrown_of (reEle_c x a1 c1 a2 c2 a1' c1' a2' c2' _ (hi.up (up_below (below_regrown wr d os))) (hi'.up (up_below (below_regrown wr d os))) hl)
      have HB := Hid.mk' hb
      have HE := Hid.mk' cE
      clear hb hc hc' hi hi' hl H1 H2 H3 cE q0 p0 q1 p1
      go_wp2
      refine wp_region_quiet_below (by kernel_rfl) (by kernel_rfl) ?_
      repeat (quiet_step (exact HE.out _ _))
      refine wpQuiet_nil ?_
      intro _ hw'
      obtain ⟨⟨dq, osq⟩, hw''⟩ := hw'
      subst hw''
      have hw5 := HB.out.trans ((below_regrown wr dq osq).mono HB.out.size)
      clear kq0 kp0 kq1 kp1
      generalize grow (redrawn wr dq) osq = w5 at *
      show Exit.then _ _ Exit.normal _ w5
      go_wp2
      go_roundw
      case rel => exact ⟨k + 1, by omega, by go_num, hw5⟩
      case measure => simp [intOf]; omega
    · go_wp2
      go_ret
      exact ⟨rfl, hb⟩
set_option maxHeartbeats 8000000 in
theorem reCod_c (x : Cod) (a1 : Option Addr) (c1 : Nat) (a2 : Option Addr) (c2 : Nat) (a1' : Option Addr) (c1' : Nat) (a2' : Option Addr) (c2' : Nat) (w : World) (hI : Cod.Is 0 w x a1 a2) (hI' : Cod.Is 0 w x a1' a2') (hl : Cod.LB 1048576 x) :
    Calls Tryz.prog 136 #[.agg #[.slice a1 x.locs.length c1, .slice a2 x.body.length c2], .agg #[.slice a1' x.locs.length c1', .slice a2' x.body.length c2']] w fun e w' => e = .returned (.bool true) ∧ Below w.heap.size w w' := by
  obtain ⟨l0, l1⟩ := hl
  obtain ⟨r1, r2⟩ := hI
  have R1 := Hid.mk' r1
  have R2 := Hid.mk' r2
  clear r1 r2
  obtain ⟨r1', r2'⟩ := hI'
  have R1' := Hid.mk' r1'
  have R2' := Hid.mk' r2'
  clear r1' r2'
  have T0 : Hid (Bk ((w.alloc (.cells #[.slice a1 x.locs.length c1, .slice a2 x.body.length c2] 74)).alloc (.cells #[.slice a1' x.locs.length c1', .slice a2' x.body.length c2'] 74)) w.heap.size [.slice a1 x.locs.length c1, .slice a2 x.body.length c2] ∧ Bk ((w.alloc (.cells #[.slice a1 x.locs.length c1, .slice a2 x.body.length c2] 74)).alloc (.cells #[.slice a1' x.locs.length c1', .slice a2' x.body.length c2'] 74)) (w.heap.size + 1) [.slice a1' x.locs.length c1', .slice a2' x.body.length c2'] ∧ Below w.heap.size w ((w.alloc (.cells #[.slice a1 x.locs.length c1, .slice a2 x.body.length c2] 74)).alloc (.cells #[.slice a1' x.locs.length c1', .slice a2' x.body.length c2'] 74))) := two w [.slice a1 x.locs.length c1, .slice a2 x.body.length c2] [.slice a1' x.locs.length c1', .slice a2' x.body.length c2'] 74 74
  go_enter Tryz.func136, Tryz.ntmps136
  go_upto_region 1 with fail
  refine wp_gen (fun W => Bk W w.heap.size [.slice a1 x.locs.length c1, .slice a2 x.body.length c2] ∧ Bk W (w.heap.size + 1) [.slice a1' x.locs.length c1', .slice a2' x.body.length c2'] ∧ Below w.heap.size w W) T0.out ?_
  rintro W ⟨bb, bp, hb⟩
  clear T0
  have q0 : W.cell? ⟨w.heap.size, 0, none⟩ = some (.slice a1 x.locs.length c1) := bb.2.1 0 _ rfl
  have p0 : W.cell? ⟨w.heap.size + 1, 0, none⟩ = some (.slice a1' x.locs.length c1') := bp.2.1 0 _ rfl
  have q1 : W.cell? ⟨w.heap.size, 1, none⟩ = some (.slice a2 x.body.length c2) := bb.2.1 1 _ rfl
  have p1 : W.cell? ⟨w.heap.size + 1, 1, none⟩ = some (.slice a2' x.body.length c2') := bp.2.1 1 _ rfl
  have HC1 := Hid.mk' (reGrps_c a1 a1' c1 c1' x.locs W l0 (R1.out.up (up_below hb)) (R1'.out.up (up_below hb)))
  go_wp2_with fail
  refine HC1.out.mono ?_
  rintro e W1 ⟨rfl, hb1⟩
  have bb := bb.keep hb1
  have bp := bp.keep hb1
  have hb := hb.trans (hb1.mono hb.size)
  clear HC1 hb1
  have q0 : W1.cell? ⟨w.heap.size, 0, none⟩ = some (.slice a1 x.locs.length c1) := bb.2.1 0 _ rfl
  have p0 : W1.cell? ⟨w.heap.size + 1, 0, none⟩ = some (.slice a1' x.locs.length c1') := bp.2.1 0 _ rfl
  have q1 : W1.cell? ⟨w.heap.size, 1, none⟩ = some (.slice a2 x.body.length c2) := bb.2.1 1 _ rfl
  have p1 : W1.cell? ⟨w.heap.size + 1, 1, none⟩ = some (.slice a2' x.body.length c2') := bp.2.1 1 _ rfl
  have HC2 := Hid.mk' (reIns_c a2 a2' c2 c2' x.body W1 l1 (R2.out.up (up_below hb)) (R2'.out.up (up_below hb)))
  go_wp2_with fail
  refine HC2.out.mono ?_
  rintro e W2 ⟨rfl, hb2⟩
  have bb := bb.keep hb2
  have bp := bp.keep hb2
  have hb := hb.trans (hb2.mono hb.size)
  clear HC2 hb2
  have q0 : W2.cell? ⟨w.heap.size, 0, none⟩ = some (.slice a1 x.locs.length c1) := bb.2.1 0 _ rfl
  have p0 : W2.cell? ⟨w.heap.size + 1, 0, none⟩ = some (.slice a1' x.locs.length c1') := bp.2.1 0 _ rfl
  have q1 : W2.cell? ⟨w.heap.size, 1, none⟩ = some (.slice a2 x.body.length c2) := bb.2.1 1 _ rfl
  have p1 : W2.cell? ⟨w.heap.size + 1, 1, none⟩ = some (.slice a2' x.body.length c2') := bp.2.1 1 _ rfl
  have HB := Hid.mk' hb
  clear hb bb bp
  go_wp2
  go_ret
  exact ⟨rfl, HB.out⟩
set_option maxHeartbeats 8000000 in
theorem reCods_c (a a' : Option Addr) (c c' : Nat) (xs : List Cod) (w : World) (hl : xs.length ≤ 1048576 ∧ ∀ i, i < xs.length → Cod.LB 1048576 (xs.getD i Cod.z)) (h : Cod.Ls 0 w a xs) (h' : Cod.Ls 0 w a' xs) :
    Calls Tryz.prog 74 #[.slice a xs.length c, .slice a' xs.length c'] w fun e w' => e = .returned (.bool true) ∧ Below w.heap.size w w' := by
  obtain ⟨hn, hl⟩ := hl
  have H1 := Hid.mk' h
  have H2 := Hid.mk' h'
  have H3 := Hid.mk' hl
  clear h h' hl
  go_enter Tryz.func74, Tryz.ntmps74
  go_wp2
  go_loopw [5] (fun i wr => ∃ k : Nat, k ≤ xs.length ∧ i = .int .i64 k ∧ Below w.heap.size w wr) (fun i _ => xs.length - (intOf i).toNat)
  case atStart => exact ⟨0, Nat.zero_le _, rfl, Below.refl _ _⟩
  case round =>
    obtain ⟨k, hk, rfl, hb⟩ := hrel
    by_cases hlt : k < xs.length
    · have hki : (k : Int) < (xs.length : Int) := by omega
      rcases H1.out.up (up_below hb) with hx | ⟨b, o, ea, _, hc⟩
      · subst hx; simp at hlt
      rcases H2.out.up (up_below hb) with hx | ⟨b', o', ea', _, hc'⟩
      · subst hx; simp at hlt
      have g1 := hc k hlt
      have g2 := hc' k hlt
      have hl := H3.out k hlt
      subst ea ea'
      generalize xs.getD k Cod.z = x at g1 g2 hl
      obtain ⟨a1, c1, a2, c2, ⟨q0, q1⟩, hi⟩ := g1
      obtain ⟨a1', c1', a2', c2', ⟨p0, p1⟩, hi'⟩ := g2
      have kq0 := cell_regrown q0
      have kp0 := cell_regrown p0
      have kq1 := cell_regrown q1
      have kp1 := cell_regrown p1
      have cE : ∀ d os, Calls Tryz.prog 136 #[.agg #[.slice a1 x.locs.length c1, .slice a2 x.body.length c2], .agg #[.slice a1' x.locs.length c1', .slice a2' x.body.length c2']] (grow (redrawn wr d) os) fun e w'' => e = .returned (.bool true) ∧ ∃ p : Regrown, w'' = grow (redrawn wr p.d) p.os := fun d os => Calls.regrown_of (reCod_c x a1 c1 a2 c2 a1' c1' a2' c2' _ (hi.up (up_below (below_regrown wr d os))) (hi'.up (up_below (below_regrown wr d os))) hl)
      have HB := Hid.mk' hb
      have HE := Hid.mk' cE
      clear hb hc hc' hi hi' hl H1 H2 H3 cE q0 p0 q1 p1
      go_wp2
      refine wp_region_quiet_below (by kernel_rfl) (by kernel_rfl) ?_
      repeat (quiet_step (exact HE.out _ _))
      refine wpQuiet_nil ?_
      intro _ hw'
      obtain ⟨⟨dq, osq⟩, hw''⟩ := hw'
      subst hw''
      have hw5 := HB.out.trans ((below_regrown wr dq osq).mono HB.out.size)
      clear kq0 kp0 kq1 kp1
      generalize grow (redrawn wr dq) osq = w5 at *
      show Exit.then _ _ Exit.normal _ w5
      go_wp2
      go_roundw
      case rel => exact ⟨k + 1, by omega, by go_num, hw5⟩
      case measure => simp [intOf]; omega
    · go_wp2
      go_ret
      exact ⟨rfl, hb⟩
set_option maxHeartbeats 8000000 in
theorem reDat_c (x : Dat) (a1 : Option Addr) (c1 : Nat) (a2 : Option Addr) (c2 : Nat) (a1' : Option Addr) (c1' : Nat) (a2' : Option Addr) (c2' : Nat) (w : World) (hI : Dat.Is 0 w x a1 a2) (hI' : Dat.Is 0 w x a1' a2') (hl : Dat.LB 1048576 x) :
    Calls Tryz.prog 137 #[.agg #[.slice a1 x.off.length c1, .slice a2 x.bs.length c2], .agg #[.slice a1' x.off.length c1', .slice a2' x.bs.length c2']] w fun e w' => e = .returned (.bool true) ∧ Below w.heap.size w w' := by
  obtain ⟨l0, l1⟩ := hl
  obtain ⟨r1, r2⟩ := hI
  have R1 := Hid.mk' r1
  have R2 := Hid.mk' r2
  clear r1 r2
  obtain ⟨r1', r2'⟩ := hI'
  have R1' := Hid.mk' r1'
  have R2' := Hid.mk' r2'
  clear r1' r2'
  have T0 : Hid (Bk ((w.alloc (.cells #[.slice a1 x.off.length c1, .slice a2 x.bs.length c2] 76)).alloc (.cells #[.slice a1' x.off.length c1', .slice a2' x.bs.length c2'] 76)) w.heap.size [.slice a1 x.off.length c1, .slice a2 x.bs.length c2] ∧ Bk ((w.alloc (.cells #[.slice a1 x.off.length c1, .slice a2 x.bs.length c2] 76)).alloc (.cells #[.slice a1' x.off.length c1', .slice a2' x.bs.length c2'] 76)) (w.heap.size + 1) [.slice a1' x.off.length c1', .slice a2' x.bs.length c2'] ∧ Below w.heap.size w ((w.alloc (.cells #[.slice a1 x.off.length c1, .slice a2 x.bs.length c2] 76)).alloc (.cells #[.slice a1' x.off.length c1', .slice a2' x.bs.length c2'] 76))) := two w [.slice a1 x.off.length c1, .slice a2 x.bs.length c2] [.slice a1' x.off.length c1', .slice a2' x.bs.length c2'] 76 76
  go_enter Tryz.func137, Tryz.ntmps137
  go_upto_region 1 with fail
  refine wp_gen (fun W => Bk W w.heap.size [.slice a1 x.off.length c1, .slice a2 x.bs.length c2] ∧ Bk W (w.heap.size + 1) [.slice a1' x.off.length c1', .slice a2' x.bs.length c2'] ∧ Below w.heap.size w W) T0.out ?_
  rintro W ⟨bb, bp, hb⟩
  clear T0
  have q0 : W.cell? ⟨w.heap.size, 0, none⟩ = some (.slice a1 x.off.length c1) := bb.2.1 0 _ rfl
  have p0 : W.cell? ⟨w.heap.size + 1, 0, none⟩ = some (.slice a1' x.off.length c1') := bp.2.1 0 _ rfl
  have q1 : W.cell? ⟨w.heap.size, 1, none⟩ = some (.slice a2 x.bs.length c2) := bb.2.1 1 _ rfl
  have p1 : W.cell? ⟨w.heap.size + 1, 1, none⟩ = some (.slice a2' x.bs.length c2') := bp.2.1 1 _ rfl
  have HC1 := Hid.mk' (reIns_c a1 a1' c1 c1' x.off W l0 (R1.out.up (up_below hb)) (R1'.out.up (up_below hb)))
  go_wp2_with fail
  refine HC1.out.mono ?_
  rintro e W1 ⟨rfl, hb1⟩
  have bb := bb.keep hb1
  have bp := bp.keep hb1
  have hb := hb.trans (hb1.mono hb.size)
  clear HC1 hb1
  have q0 : W1.cell? ⟨w.heap.size, 0, none⟩ = some (.slice a1 x.off.length c1) := bb.2.1 0 _ rfl
  have p0 : W1.cell? ⟨w.heap.size + 1, 0, none⟩ = some (.slice a1' x.off.length c1') := bp.2.1 0 _ rfl
  have q1 : W1.cell? ⟨w.heap.size, 1, none⟩ = some (.slice a2 x.bs.length c2) := bb.2.1 1 _ rfl
  have p1 : W1.cell? ⟨w.heap.size + 1, 1, none⟩ = some (.slice a2' x.bs.length c2') := bp.2.1 1 _ rfl
  have HC2 := Hid.mk' (eqB_any a2 a2' c2 c2' x.bs W1 (by omega) (R2.out.up (up_below hb)) (R2'.out.up (up_below hb)))
  go_wp2_with fail
  refine HC2.out.mono ?_
  rintro e W2 ⟨rfl, nd2, hd2⟩
  have hb2 : Below W1.heap.size W1 W2 := by rw [hd2]; exact below_drewN' (Below.refl _ _) _
  clear hd2
  have bb := bb.keep hb2
  have bp := bp.keep hb2
  have hb := hb.trans (hb2.mono hb.size)
  clear HC2 hb2
  have q0 : W2.cell? ⟨w.heap.size, 0, none⟩ = some (.slice a1 x.off.length c1) := bb.2.1 0 _ rfl
  have p0 : W2.cell? ⟨w.heap.size + 1, 0, none⟩ = some (.slice a1' x.off.length c1') := bp.2.1 0 _ rfl
  have q1 : W2.cell? ⟨w.heap.size, 1, none⟩ = some (.slice a2 x.bs.length c2) := bb.2.1 1 _ rfl
  have p1 : W2.cell? ⟨w.heap.size + 1, 1, none⟩ = some (.slice a2' x.bs.length c2') := bp.2.1 1 _ rfl
  have HB := Hid.mk' hb
  clear hb bb bp
  go_wp2
  go_ret
  exact ⟨rfl, HB.out⟩
set_option maxHeartbeats 8000000 in
theorem reDats_c (a a' : Option Addr) (c c' : Nat) (xs : List Dat) (w : World) (hl : xs.length ≤ 1048576 ∧ ∀ i, i < xs.length → Dat.LB 1048576 (xs.getD i Dat.z)) (h : Dat.Ls 0 w a xs) (h' : Dat.Ls 0 w a' xs) :
    Calls Tryz.prog 75 #[.slice a xs.length c, .slice a' xs.length c'] w fun e w' => e = .returned (.bool true) ∧ Below w.heap.size w w' := by
  obtain ⟨hn, hl⟩ := hl
  have H1 := Hid.mk' h
  have H2 := Hid.mk' h'
  have H3 := Hid.mk' hl
  clear h h' hl
  go_enter Tryz.func75, Tryz.ntmps75
  go_wp2
  go_loopw [5] (fun i wr => ∃ k : Nat, k ≤ xs.length ∧ i = .int .i64 k ∧ Below w.heap.size w wr) (fun i _ => xs.length - (intOf i).toNat)
  case atStart => exact ⟨0, Nat.zero_le _, rfl, Below.refl _ _⟩
  case round =>
    obtain ⟨k, hk, rfl, hb⟩ := hrel
    by_cases hlt : k < xs.length
    · have hki : (k : Int) < (xs.length : Int) := by omega
      rcases H1.out.up (up_below hb) with hx | ⟨b, o, ea, _, hc⟩
      · subst hx; simp at hlt
      rcases H2.out.up (up_below hb) with hx | ⟨b', o', ea', _, hc'⟩
      · subst hx; simp at hlt
      have g1 := hc k hlt
      have g2 := hc' k hlt
      have hl := H3.out k hlt
      subst ea ea'
      generalize xs.getD k Dat.z = x at g1 g2 hl
      obtain ⟨a1, c1, a2, c2, ⟨q0, q1⟩, hi⟩ := g1
      obtain ⟨a1', c1', a2', c2', ⟨p0, p1⟩, hi'⟩ := g2
      have kq0 := cell_regrown q0
      have kp0 := cell_regrown p0
      have kq1 := cell_regrown q1
      have kp1 := cell_regrown p1
      have cE : ∀ d os, Calls Tryz.prog 137 #[.agg #[.slice a1 x.off.length c1, .slice a2 x.bs.length c2], .agg #[.slice a1' x.off.length c1', .slice a2' x.bs.length c2']] (grow (redrawn wr d) os) fun e w'' => e = .returned (.bool true) ∧ ∃ p : Regrown, w'' = grow (redrawn wr p.d) p.os := fun d os => Calls.regrown_of (reDat_c x a1 c1 a2 c2 a1' c1' a2' c2' _ (hi.up (up_below (below_regrown wr d os))) (hi'.up (up_below (below_regrown wr d os))) hl)
      have HB := Hid.mk' hb
      have HE := Hid.mk' cE
      clear hb hc hc' hi hi' hl H1 H2 H3 cE q0 p0 q1 p1
      go_wp2
      refine wp_region_quiet_below (by kernel_rfl) (by kernel_rfl) ?_
      repeat (quiet_step (exact HE.out _ _))
      refine wpQuiet_nil ?_
      intro _ hw'
      obtain ⟨⟨dq, osq⟩, hw''⟩ := hw'
      subst hw''
      have hw5 := HB.out.trans ((below_regrown wr dq osq).mono HB.out.size)
      clear kq0 kp0 kq1 kp1
      generalize grow (redrawn wr dq) osq = w5 at *
      show Exit.then _ _ Exit.normal _ w5
      go_wp2
      go_roundw
      case rel => exact ⟨k + 1, by omega, by go_num, hw5⟩
      case measure => simp [intOf]; omega
    · go_wp2
      go_ret
      exact ⟨rfl, hb⟩
set_option maxHeartbeats 8000000 in
theorem reCus_c (x : Cus) (a1 : Option Addr) (c1 : Nat) (a1' : Option Addr) (c1' : Nat) (w : World) (hI : Cus.Is 0 w x a1) (hI' : Cus.Is 0 w x a1') (hl : Cus.LB 1048576 x) :
    Calls Tryz.prog 138 #[.agg #[.int .i64 x.aft, .string x.nm, .slice a1 x.bs.length c1], .agg #[.int .i64 x.aft, .string x.nm, .slice a1' x.bs.length c1']] w fun e w' => e = .returned (.bool true) ∧ Below w.heap.size w w' := by
  obtain ⟨l1, l2⟩ := hl
  have r1 := hI
  clear hI
  have R1 := Hid.mk' r1
  clear r1
  have r1' := hI'
  clear hI'
  have R1' := Hid.mk' r1'
  clear r1'
  have hs1 : (x.nm.toList == x.nm.toList) = true := by simp
  have T0 : Hid (Bk ((w.alloc (.cells #[.int .i64 x.aft, .string x.nm, .slice a1 x.bs.length c1] 80)).alloc (.cells #[.int .i64 x.aft, .string x.nm, .slice a1' x.bs.length c1'] 80)) w.heap.size [.int .i64 x.aft, .string x.nm, .slice a1 x.bs.length c1] ∧ Bk ((w.alloc (.cells #[.int .i64 x.aft, .string x.nm, .slice a1 x.bs.length c1] 80)).alloc (.cells #[.int .i64 x.aft, .string x.nm, .slice a1' x.bs.length c1'] 80)) (w.heap.size + 1) [.int .i64 x.aft, .string x.nm, .slice a1' x.bs.length c1'] ∧ Below w.heap.size w ((w.alloc (.cells #[.int .i64 x.aft, .string x.nm, .slice a1 x.bs.length c1] 80)).alloc (.cells #[.int .i64 x.aft, .string x.nm, .slice a1' x.bs.length c1'] 80))) := two w [.int .i64 x.aft, .string x.nm, .slice a1 x.bs.length c1] [.int .i64 x.aft, .string x.nm, .slice a1' x.bs.length c1'] 80 80
  go_enter Tryz.func138, Tryz.ntmps138
  go_upto_region 1 with fail
  refine wp_gen (fun W => Bk W w.heap.size [.int .i64 x.aft, .string x.nm, .slice a1 x.bs.length c1] ∧ Bk W (w.heap.size + 1) [.int .i64 x.aft, .string x.nm, .slice a1' x.bs.length c1'] ∧ Below w.heap.size w W) T0.out ?_
  rintro W ⟨bb, bp, hb⟩
  clear T0
  have q0 : W.cell? ⟨w.heap.size, 0, none⟩ = some (.int .i64 x.aft) := bb.2.1 0 _ rfl
  have p0 : W.cell? ⟨w.heap.size + 1, 0, none⟩ = some (.int .i64 x.aft) := bp.2.1 0 _ rfl
  have q1 : W.cell? ⟨w.heap.size, 1, none⟩ = some (.string x.nm) := bb.2.1 1 _ rfl
  have p1 : W.cell? ⟨w.heap.size + 1, 1, none⟩ = some (.string x.nm) := bp.2.1 1 _ rfl
  have q2 : W.cell? ⟨w.heap.size, 2, none⟩ = some (.slice a1 x.bs.length c1) := bb.2.1 2 _ rfl
  have p2 : W.cell? ⟨w.heap.size + 1, 2, none⟩ = some (.slice a1' x.bs.length c1') := bp.2.1 2 _ rfl
  have HC1 := Hid.mk' (eqB_any a1 a1' c1 c1' x.bs W (by omega) (R1.out.up (up_below hb)) (R1'.out.up (up_below hb)))
  go_wp2_with fail
  refine HC1.out.mono ?_
  rintro e W1 ⟨rfl, nd1, hd1⟩
  have hb1 : Below W.heap.size W W1 := by rw [hd1]; exact below_drewN' (Below.refl _ _) _
  clear hd1
  have bb := bb.keep hb1
  have bp := bp.keep hb1
  have hb := hb.trans (hb1.mono hb.size)
  clear HC1 hb1
  have q0 : W1.cell? ⟨w.heap.size, 0, none⟩ = some (.int .i64 x.aft) := bb.2.1 0 _ rfl
  have p0 : W1.cell? ⟨w.heap.size + 1, 0, none⟩ = some (.int .i64 x.aft) := bp.2.1 0 _ rfl
  have q1 : W1.cell? ⟨w.heap.size, 1, none⟩ = some (.string x.nm) := bb.2.1 1 _ rfl
  have p1 : W1.cell? ⟨w.heap.size + 1, 1, none⟩ = some (.string x.nm) := bp.2.1 1 _ rfl
  have q2 : W1.cell? ⟨w.heap.size, 2, none⟩ = some (.slice a1 x.bs.length c1) := bb.2.1 2 _ rfl
  have p2 : W1.cell? ⟨w.heap.size + 1, 2, none⟩ = some (.slice a1' x.bs.length c1') := bp.2.1 2 _ rfl
  have HB := Hid.mk' hb
  clear hb bb bp
  go_wp2
  go_ret
  exact ⟨rfl, HB.out⟩
set_option maxHeartbeats 8000000 in
theorem reCuss_c (a a' : Option Addr) (c c' : Nat) (xs : List Cus) (w : World) (hl : xs.length ≤ 1048576 ∧ ∀ i, i < xs.length → Cus.LB 1048576 (xs.getD i Cus.z)) (h : Cus.Ls 0 w a xs) (h' : Cus.Ls 0 w a' xs) :
    Calls Tryz.prog 76 #[.slice a xs.length c, .slice a' xs.length c'] w fun e w' => e = .returned (.bool true) ∧ Below w.heap.size w w' := by
  obtain ⟨hn, hl⟩ := hl
  have H1 := Hid.mk' h
  have H2 := Hid.mk' h'
  have H3 := Hid.mk' hl
  clear h h' hl
  go_enter Tryz.func76, Tryz.ntmps76
  go_wp2
  go_loopw [5] (fun i wr => ∃ k : Nat, k ≤ xs.length ∧ i = .int .i64 k ∧ Below w.heap.size w wr) (fun i _ => xs.length - (intOf i).toNat)
  case atStart => exact ⟨0, Nat.zero_le _, rfl, Below.refl _ _⟩
  case round =>
    obtain ⟨k, hk, rfl, hb⟩ := hrel
    by_cases hlt : k < xs.length
    · have hki : (k : Int) < (xs.length : Int) := by omega
      rcases H1.out.up (up_below hb) with hx | ⟨b, o, ea, _, hc⟩
      · subst hx; simp at hlt
      rcases H2.out.up (up_below hb) with hx | ⟨b', o', ea', _, hc'⟩
      · subst hx; simp at hlt
      have g1 := hc k hlt
      have g2 := hc' k hlt
      have hl := H3.out k hlt
      subst ea ea'
      generalize xs.getD k Cus.z = x at g1 g2 hl
      obtain ⟨a1, c1, ⟨q0, q1, q2⟩, hi⟩ := g1
      obtain ⟨a1', c1', ⟨p0, p1, p2⟩, hi'⟩ := g2
      have kq0 := cell_regrown q0
      have kp0 := cell_regrown p0
      have kq1 := cell_regrown q1
      have kp1 := cell_regrown p1
      have kq2 := cell_regrown q2
      have kp2 := cell_regrown p2
      have cE : ∀ d os, Calls Tryz.prog 138 #[.agg #[.int .i64 x.aft, .string x.nm, .slice a1 x.bs.length c1], .agg #[.int .i64 x.aft, .string x.nm, .slice a1' x.bs.length c1']] (grow (redrawn wr d) os) fun e w'' => e = .returned (.bool true) ∧ ∃ p : Regrown, w'' = grow (redrawn wr p.d) p.os := fun d os => Calls.regrown_of (reCus_c x a1 c1 a1' c1' _ (hi.up (up_below (below_regrown wr d os))) (hi'.up (up_below (below_regrown wr d os))) hl)
      have HB := Hid.mk' hb
      have HE := Hid.mk' cE
      clear hb hc hc' hi hi' hl H1 H2 H3 cE q0 p0 q1 p1 q2 p2
      go_wp2
      refine wp_region_quiet_below (by kernel_rfl) (by kernel_rfl) ?_
      repeat (quiet_step (exact HE.out _ _))
      refine wpQuiet_nil ?_
      intro _ hw'
      obtain ⟨⟨dq, osq⟩, hw''⟩ := hw'
      subst hw''
      have hw5 := HB.out.trans ((below_regrown wr dq osq).mono HB.out.size)
      clear kq0 kp0 kq1 kp1 kq2 kp2
      generalize grow (redrawn wr dq) osq = w5 at *
      show Exit.then _ _ Exit.normal _ w5
      go_wp2
      go_roundw
      case rel => exact ⟨k + 1, by omega, by go_num, hw5⟩
      case measure => simp [intOf]; omega
    · go_wp2
      go_ret
      exact ⟨rfl, hb⟩
end Go.Proofs.YtdbmolambolmgaaGreat

set_option linter.unusedVariables false
namespace Go.Proofs.YtdbmolambolmgaaGreat
open Go.RowKit Go.Sort
set_option maxRecDepth 100000
set_option maxHeartbeats 8000000 in
theorem reMod_c (x : Mod) (a1 : Option Addr) (c1 : Nat) (a2 : Option Addr) (c2 : Nat) (a3 : Option Addr) (c3 : Nat) (a4 : Option Addr) (c4 : Nat) (a5 : Option Addr) (c5 : Nat) (a6 : Option Addr) (c6 : Nat) (a7 : Option Addr) (c7 : Nat) (a8 : Option Addr) (c8 : Nat) (a9 : Option Addr) (c9 : Nat) (a10 : Option Addr) (c10 : Nat) (a11 : Option Addr) (c11 : Nat) (a1' : Option Addr) (c1' : Nat) (a2' : Option Addr) (c2' : Nat) (a3' : Option Addr) (c3' : Nat) (a4' : Option Addr) (c4' : Nat) (a5' : Option Addr) (c5' : Nat) (a6' : Option Addr) (c6' : Nat) (a7' : Option Addr) (c7' : Nat) (a8' : Option Addr) (c8' : Nat) (a9' : Option Addr) (c9' : Nat) (a10' : Option Addr) (c10' : Nat) (a11' : Option Addr) (c11' : Nat) (w : World) (hI : Mod.Is 0 w x a1 a2 a3 a4 a5 a6 a7 a8 a9 a10 a11) (hI' : Mod.Is 0 w x a1' a2' a3' a4' a5' a6' a7' a8' a9' a10' a11') (hl : Mod.LB 1048576 x) :
    Calls Tryz.prog 10 #[.agg #[.slice a1 x.types.length c1, .slice a2 x.imps.length c2, .slice a3 x.funcs.length c3, .slice a4 x.tabs.length c4, .slice a5 x.mems.length c5, .slice a6 x.globs.length c6, .slice a7 x.exps.length c7, .bool x.hasS, .int .i64 x.start, .slice a8 x.elems.length c8, .slice a9 x.codes.length c9, .slice a10 x.datas.length c10, .slice a11 x.customs.length c11], .agg #[.slice a1' x.types.length c1', .slice a2' x.imps.length c2', .slice a3' x.funcs.length c3', .slice a4' x.tabs.length c4', .slice a5' x.mems.length c5', .slice a6' x.globs.length c6', .slice a7' x.exps.length c7', .bool x.hasS, .int .i64 x.start, .slice a8' x.elems.length c8', .slice a9' x.codes.length c9', .slice a10' x.datas.length c10', .slice a11' x.customs.length c11']] w fun e w' => e = .returned (.bool true) ∧ Below w.heap.size w w' := by
  obtain ⟨l0, l1, l2, l3, l4, l5, l6, l9, l10, l11, l12⟩ := hl
  obtain ⟨r1, r2, r3, r4, r5, r6, r7, r8, r9, r10, r11⟩ := hI
  have R1 := Hid.mk' r1
  have R2 := Hid.mk' r2
  have R3 := Hid.mk' r3
  have R4 := Hid.mk' r4
  have R5 := Hid.mk' r5
  have R6 := Hid.mk' r6
  have R7 := Hid.mk' r7
  have R8 := Hid.mk' r8
  have R9 := Hid.mk' r9
  have R10 := Hid.mk' r10
  have R11 := Hid.mk' r11
  clear r1 r2 r3 r4 r5 r6 r7 r8 r9 r10 r11
  obtain ⟨r1', r2', r3', r4', r5', r6', r7', r8', r9', r10', r11'⟩ := hI'
  have R1' := Hid.mk' r1'
  have R2' := Hid.mk' r2'
  have R3' := Hid.mk' r3'
  have R4' := Hid.mk' r4'
  have R5' := Hid.mk' r5'
  have R6' := Hid.mk' r6'
  have R7' := Hid.mk' r7'
  have R8' := Hid.mk' r8'
  have R9' := Hid.mk' r9'
  have R10' := Hid.mk' r10'
  have R11' := Hid.mk' r11'
  clear r1' r2' r3' r4' r5' r6' r7' r8' r9' r10' r11'
  have T0 : Hid (Bk ((w.alloc (.cells #[.slice a1 x.types.length c1, .slice a2 x.imps.length c2, .slice a3 x.funcs.length c3, .slice a4 x.tabs.length c4, .slice a5 x.mems.length c5, .slice a6 x.globs.length c6, .slice a7 x.exps.length c7, .bool x.hasS, .int .i64 x.start, .slice a8 x.elems.length c8, .slice a9 x.codes.length c9, .slice a10 x.datas.length c10, .slice a11 x.customs.length c11] 46)).alloc (.cells #[.slice a1' x.types.length c1', .slice a2' x.imps.length c2', .slice a3' x.funcs.length c3', .slice a4' x.tabs.length c4', .slice a5' x.mems.length c5', .slice a6' x.globs.length c6', .slice a7' x.exps.length c7', .bool x.hasS, .int .i64 x.start, .slice a8' x.elems.length c8', .slice a9' x.codes.length c9', .slice a10' x.datas.length c10', .slice a11' x.customs.length c11'] 46)) w.heap.size [.slice a1 x.types.length c1, .slice a2 x.imps.length c2, .slice a3 x.funcs.length c3, .slice a4 x.tabs.length c4, .slice a5 x.mems.length c5, .slice a6 x.globs.length c6, .slice a7 x.exps.length c7, .bool x.hasS, .int .i64 x.start, .slice a8 x.elems.length c8, .slice a9 x.codes.length c9, .slice a10 x.datas.length c10, .slice a11 x.customs.length c11] ∧ Bk ((w.alloc (.cells #[.slice a1 x.types.length c1, .slice a2 x.imps.length c2, .slice a3 x.funcs.length c3, .slice a4 x.tabs.length c4, .slice a5 x.mems.length c5, .slice a6 x.globs.length c6, .slice a7 x.exps.length c7, .bool x.hasS, .int .i64 x.start, .slice a8 x.elems.length c8, .slice a9 x.codes.length c9, .slice a10 x.datas.length c10, .slice a11 x.customs.length c11] 46)).alloc (.cells #[.slice a1' x.types.length c1', .slice a2' x.imps.length c2', .slice a3' x.funcs.length c3', .slice a4' x.tabs.length c4', .slice a5' x.mems.length c5', .slice a6' x.globs.length c6', .slice a7' x.exps.length c7', .bool x.hasS, .int .i64 x.start, .slice a8' x.elems.length c8', .slice a9' x.codes.length c9', .slice a10' x.datas.length c10', .slice a11' x.customs.length c11'] 46)) (w.heap.size + 1) [.slice a1' x.types.length c1', .slice a2' x.imps.length c2', .slice a3' x.funcs.length c3', .slice a4' x.tabs.length c4', .slice a5' x.mems.length c5', .slice a6' x.globs.length c6', .slice a7' x.exps.length c7', .bool x.hasS, .int .i64 x.start, .slice a8' x.elems.length c8', .slice a9' x.codes.length c9', .slice a10' x.datas.length c10', .slice a11' x.customs.length c11'] ∧ Below w.heap.size w ((w.alloc (.cells #[.slice a1 x.types.length c1, .slice a2 x.imps.length c2, .slice a3 x.funcs.length c3, .slice a4 x.tabs.length c4, .slice a5 x.mems.length c5, .slice a6 x.globs.length c6, .slice a7 x.exps.length c7, .bool x.hasS, .int .i64 x.start, .slice a8 x.elems.length c8, .slice a9 x.codes.length c9, .slice a10 x.datas.length c10, .slice a11 x.customs.length c11] 46)).alloc (.cells #[.slice a1' x.types.length c1', .slice a2' x.imps.length c2', .slice a3' x.funcs.length c3', .slice a4' x.tabs.length c4', .slice a5' x.mems.length c5', .slice a6' x.globs.length c6', .slice a7' x.exps.length c7', .bool x.hasS, .int .i64 x.start, .slice a8' x.elems.length c8', .slice a9' x.codes.length c9', .slice a10' x.datas.length c10', .slice a11' x.customs.length c11'] 46))) := two w [.slice a1 x.types.length c1, .slice a2 x.imps.length c2, .slice a3 x.funcs.length c3, .slice a4 x.tabs.length c4, .slice a5 x.mems.length c5, .slice a6 x.globs.length c6, .slice a7 x.exps.length c7, .bool x.hasS, .int .i64 x.start, .slice a8 x.elems.length c8, .slice a9 x.codes.length c9, .slice a10 x.datas.length c10, .slice a11 x.customs.length c11] [.slice a1' x.types.length c1', .slice a2' x.imps.length c2', .slice a3' x.funcs.length c3', .slice a4' x.tabs.length c4', .slice a5' x.mems.length c5', .slice a6' x.globs.length c6', .slice a7' x.exps.length c7', .bool x.hasS, .int .i64 x.start, .slice a8' x.elems.length c8', .slice a9' x.codes.length c9', .slice a10' x.datas.length c10', .slice a11' x.customs.length c11'] 46 46
  go_enter Tryz.func10, Tryz.ntmps10
  go_upto_region 1 with fail
  refine wp_gen (fun W => Bk W w.heap.size [.slice a1 x.types.length c1, .slice a2 x.imps.length c2, .slice a3 x.funcs.length c3, .slice a4 x.tabs.length c4, .slice a5 x.mems.length c5, .slice a6 x.globs.length c6, .slice a7 x.exps.length c7, .bool x.hasS, .int .i64 x.start, .slice a8 x.elems.length c8, .slice a9 x.codes.length c9, .slice a10 x.datas.length c10, .slice a11 x.customs.length c11] ∧ Bk W (w.heap.size + 1) [.slice a1' x.types.length c1', .slice a2' x.imps.length c2', .slice a3' x.funcs.length c3', .slice a4' x.tabs.length c4', .slice a5' x.mems.length c5', .slice a6' x.globs.length c6', .slice a7' x.exps.length c7', .bool x.hasS, .int .i64 x.start, .slice a8' x.elems.length c8', .slice a9' x.codes.length c9', .slice a10' x.datas.length c10', .slice a11' x.customs.length c11'] ∧ Below w.heap.size w W) T0.out ?_
  rintro W ⟨bb, bp, hb⟩
  clear T0
  have q0 : W.cell? ⟨w.heap.size, 0, none⟩ = some (.slice a1 x.types.length c1) := bb.2.1 0 _ rfl
  have p0 : W.cell? ⟨w.heap.size + 1, 0, none⟩ = some (.slice a1' x.types.length c1') := bp.2.1 0 _ rfl
  have q1 : W.cell? ⟨w.heap.size, 1, none⟩ = some (.slice a2 x.imps.length c2) := bb.2.1 1 _ rfl
  have p1 : W.cell? ⟨w.heap.size + 1, 1, none⟩ = some (.slice a2' x.imps.length c2') := bp.2.1 1 _ rfl
  have q2 : W.cell? ⟨w.heap.size, 2, none⟩ = some (.slice a3 x.funcs.length c3) := bb.2.1 2 _ rfl
  have p2 : W.cell? ⟨w.heap.size + 1, 2, none⟩ = some (.slice a3' x.funcs.length c3') := bp.2.1 2 _ rfl
  have q3 : W.cell? ⟨w.heap.size, 3, none⟩ = some (.slice a4 x.tabs.length c4) := bb.2.1 3 _ rfl
  have p3 : W.cell? ⟨w.heap.size + 1, 3, none⟩ = some (.slice a4' x.tabs.length c4') := bp.2.1 3 _ rfl
  have q4 : W.cell? ⟨w.heap.size, 4, none⟩ = some (.slice a5 x.mems.length c5) := bb.2.1 4 _ rfl
  have p4 : W.cell? ⟨w.heap.size + 1, 4, none⟩ = some (.slice a5' x.mems.length c5') := bp.2.1 4 _ rfl
  have q5 : W.cell? ⟨w.heap.size, 5, none⟩ = some (.slice a6 x.globs.length c6) := bb.2.1 5 _ rfl
  have p5 : W.cell? ⟨w.heap.size + 1, 5, none⟩ = some (.slice a6' x.globs.length c6') := bp.2.1 5 _ rfl
  have q6 : W.cell? ⟨w.heap.size, 6, none⟩ = some (.slice a7 x.exps.length c7) := bb.2.1 6 _ rfl
  have p6 : W.cell? ⟨w.heap.size + 1, 6, none⟩ = some (.slice a7' x.exps.length c7') := bp.2.1 6 _ rfl
  have q7 : W.cell? ⟨w.heap.size, 7, none⟩ = some (.bool x.hasS) := bb.2.1 7 _ rfl
  have p7 : W.cell? ⟨w.heap.size + 1, 7, none⟩ = some (.bool x.hasS) := bp.2.1 7 _ rfl
  have q8 : W.cell? ⟨w.heap.size, 8, none⟩ = some (.int .i64 x.start) := bb.2.1 8 _ rfl
  have p8 : W.cell? ⟨w.heap.size + 1, 8, none⟩ = some (.int .i64 x.start) := bp.2.1 8 _ rfl
  have q9 : W.cell? ⟨w.heap.size, 9, none⟩ = some (.slice a8 x.elems.length c8) := bb.2.1 9 _ rfl
  have p9 : W.cell? ⟨w.heap.size + 1, 9, none⟩ = some (.slice a8' x.elems.length c8') := bp.2.1 9 _ rfl
  have q10 : W.cell? ⟨w.heap.size, 10, none⟩ = some (.slice a9 x.codes.length c9) := bb.2.1 10 _ rfl
  have p10 : W.cell? ⟨w.heap.size + 1, 10, none⟩ = some (.slice a9' x.codes.length c9') := bp.2.1 10 _ rfl
  have q11 : W.cell? ⟨w.heap.size, 11, none⟩ = some (.slice a10 x.datas.length c10) := bb.2.1 11 _ rfl
  have p11 : W.cell? ⟨w.heap.size + 1, 11, none⟩ = some (.slice a10' x.datas.length c10') := bp.2.1 11 _ rfl
  have q12 : W.cell? ⟨w.heap.size, 12, none⟩ = some (.slice a11 x.customs.length c11) := bb.2.1 12 _ rfl
  have p12 : W.cell? ⟨w.heap.size + 1, 12, none⟩ = some (.slice a11' x.customs.length c11') := bp.2.1 12 _ rfl
  have HC1 := Hid.mk' (reFTypes_c a1 a1' c1 c1' x.types W l0 (R1.out.up (up_below hb)) (R1'.out.up (up_below hb)))
  go_wp2_with fail
  refine HC1.out.mono ?_
  rintro e W1 ⟨rfl, hb1⟩
  have bb := bb.keep hb1
  have bp := bp.keep hb1
  have hb := hb.trans (hb1.mono hb.size)
  clear HC1 hb1
  have q0 : W1.cell? ⟨w.heap.size, 0, none⟩ = some (.slice a1 x.types.length c1) := bb.2.1 0 _ rfl
  have p0 : W1.cell? ⟨w.heap.size + 1, 0, none⟩ = some (.slice a1' x.types.length c1') := bp.2.1 0 _ rfl
  have q1 : W1.cell? ⟨w.heap.size, 1, none⟩ = some (.slice a2 x.imps.length c2) := bb.2.1 1 _ rfl
  have p1 : W1.cell? ⟨w.heap.size + 1, 1, none⟩ = some (.slice a2' x.imps.length c2') := bp.2.1 1 _ rfl
  have q2 : W1.cell? ⟨w.heap.size, 2, none⟩ = some (.slice a3 x.funcs.length c3) := bb.2.1 2 _ rfl
  have p2 : W1.cell? ⟨w.heap.size + 1, 2, none⟩ = some (.slice a3' x.funcs.length c3') := bp.2.1 2 _ rfl
  have q3 : W1.cell? ⟨w.heap.size, 3, none⟩ = some (.slice a4 x.tabs.length c4) := bb.2.1 3 _ rfl
  have p3 : W1.cell? ⟨w.heap.size + 1, 3, none⟩ = some (.slice a4' x.tabs.length c4') := bp.2.1 3 _ rfl
  have q4 : W1.cell? ⟨w.heap.size, 4, none⟩ = some (.slice a5 x.mems.length c5) := bb.2.1 4 _ rfl
  have p4 : W1.cell? ⟨w.heap.size + 1, 4, none⟩ = some (.slice a5' x.mems.length c5') := bp.2.1 4 _ rfl
  have q5 : W1.cell? ⟨w.heap.size, 5, none⟩ = some (.slice a6 x.globs.length c6) := bb.2.1 5 _ rfl
  have p5 : W1.cell? ⟨w.heap.size + 1, 5, none⟩ = some (.slice a6' x.globs.length c6') := bp.2.1 5 _ rfl
  have q6 : W1.cell? ⟨w.heap.size, 6, none⟩ = some (.slice a7 x.exps.length c7) := bb.2.1 6 _ rfl
  have p6 : W1.cell? ⟨w.heap.size + 1, 6, none⟩ = some (.slice a7' x.exps.length c7') := bp.2.1 6 _ rfl
  have q7 : W1.cell? ⟨w.heap.size, 7, none⟩ = some (.bool x.hasS) := bb.2.1 7 _ rfl
  have p7 : W1.cell? ⟨w.heap.size + 1, 7, none⟩ = some (.bool x.hasS) := bp.2.1 7 _ rfl
  have q8 : W1.cell? ⟨w.heap.size, 8, none⟩ = some (.int .i64 x.start) := bb.2.1 8 _ rfl
  have p8 : W1.cell? ⟨w.heap.size + 1, 8, none⟩ = some (.int .i64 x.start) := bp.2.1 8 _ rfl
  have q9 : W1.cell? ⟨w.heap.size, 9, none⟩ = some (.slice a8 x.elems.length c8) := bb.2.1 9 _ rfl
  have p9 : W1.cell? ⟨w.heap.size + 1, 9, none⟩ = some (.slice a8' x.elems.length c8') := bp.2.1 9 _ rfl
  have q10 : W1.cell? ⟨w.heap.size, 10, none⟩ = some (.slice a9 x.codes.length c9) := bb.2.1 10 _ rfl
  have p10 : W1.cell? ⟨w.heap.size + 1, 10, none⟩ = some (.slice a9' x.codes.length c9') := bp.2.1 10 _ rfl
  have q11 : W1.cell? ⟨w.heap.size, 11, none⟩ = some (.slice a10 x.datas.length c10) := bb.2.1 11 _ rfl
  have p11 : W1.cell? ⟨w.heap.size + 1, 11, none⟩ = some (.slice a10' x.datas.length c10') := bp.2.1 11 _ rfl
  have q12 : W1.cell? ⟨w.heap.size, 12, none⟩ = some (.slice a11 x.customs.length c11) := bb.2.1 12 _ rfl
  have p12 : W1.cell? ⟨w.heap.size + 1, 12, none⟩ = some (.slice a11' x.customs.length c11') := bp.2.1 12 _ rfl
  have HC2 := Hid.mk' (reImps_c a2 a2' c2 c2' x.imps W1 l1 (R2.out.up (up_below hb)) (R2'.out.up (up_below hb)))
  go_wp2_with fail
  refine HC2.out.mono ?_
  rintro e W2 ⟨rfl, hb2⟩
  have bb := bb.keep hb2
  have bp := bp.keep hb2
  have hb := hb.trans (hb2.mono hb.size)
  clear HC2 hb2
  have q0 : W2.cell? ⟨w.heap.size, 0, none⟩ = some (.slice a1 x.types.length c1) := bb.2.1 0 _ rfl
  have p0 : W2.cell? ⟨w.heap.size + 1, 0, none⟩ = some (.slice a1' x.types.length c1') := bp.2.1 0 _ rfl
  have q1 : W2.cell? ⟨w.heap.size, 1, none⟩ = some (.slice a2 x.imps.length c2) := bb.2.1 1 _ rfl
  have p1 : W2.cell? ⟨w.heap.size + 1, 1, none⟩ = some (.slice a2' x.imps.length c2') := bp.2.1 1 _ rfl
  have q2 : W2.cell? ⟨w.heap.size, 2, none⟩ = some (.slice a3 x.funcs.length c3) := bb.2.1 2 _ rfl
  have p2 : W2.cell? ⟨w.heap.size + 1, 2, none⟩ = some (.slice a3' x.funcs.length c3') := bp.2.1 2 _ rfl
  have q3 : W2.cell? ⟨w.heap.size, 3, none⟩ = some (.slice a4 x.tabs.length c4) := bb.2.1 3 _ rfl
  have p3 : W2.cell? ⟨w.heap.size + 1, 3, none⟩ = some (.slice a4' x.tabs.length c4') := bp.2.1 3 _ rfl
  have q4 : W2.cell? ⟨w.heap.size, 4, none⟩ = some (.slice a5 x.mems.length c5) := bb.2.1 4 _ rfl
  have p4 : W2.cell? ⟨w.heap.size + 1, 4, none⟩ = some (.slice a5' x.mems.length c5') := bp.2.1 4 _ rfl
  have q5 : W2.cell? ⟨w.heap.size, 5, none⟩ = some (.slice a6 x.globs.length c6) := bb.2.1 5 _ rfl
  have p5 : W2.cell? ⟨w.heap.size + 1, 5, none⟩ = some (.slice a6' x.globs.length c6') := bp.2.1 5 _ rfl
  have q6 : W2.cell? ⟨w.heap.size, 6, none⟩ = some (.slice a7 x.exps.length c7) := bb.2.1 6 _ rfl
  have p6 : W2.cell? ⟨w.heap.size + 1, 6, none⟩ = some (.slice a7' x.exps.length c7') := bp.2.1 6 _ rfl
  have q7 : W2.cell? ⟨w.heap.size, 7, none⟩ = some (.bool x.hasS) := bb.2.1 7 _ rfl
  have p7 : W2.cell? ⟨w.heap.size + 1, 7, none⟩ = some (.bool x.hasS) := bp.2.1 7 _ rfl
  have q8 : W2.cell? ⟨w.heap.size, 8, none⟩ = some (.int .i64 x.start) := bb.2.1 8 _ rfl
  have p8 : W2.cell? ⟨w.heap.size + 1, 8, none⟩ = some (.int .i64 x.start) := bp.2.1 8 _ rfl
  have q9 : W2.cell? ⟨w.heap.size, 9, none⟩ = some (.slice a8 x.elems.length c8) := bb.2.1 9 _ rfl
  have p9 : W2.cell? ⟨w.heap.size + 1, 9, none⟩ = some (.slice a8' x.elems.length c8') := bp.2.1 9 _ rfl
  have q10 : W2.cell? ⟨w.heap.size, 10, none⟩ = some (.slice a9 x.codes.length c9) := bb.2.1 10 _ rfl
  have p10 : W2.cell? ⟨w.heap.size + 1, 10, none⟩ = some (.slice a9' x.codes.length c9') := bp.2.1 10 _ rfl
  have q11 : W2.cell? ⟨w.heap.size, 11, none⟩ = some (.slice a10 x.datas.length c10) := bb.2.1 11 _ rfl
  have p11 : W2.cell? ⟨w.heap.size + 1, 11, none⟩ = some (.slice a10' x.datas.length c10') := bp.2.1 11 _ rfl
  have q12 : W2.cell? ⟨w.heap.size, 12, none⟩ = some (.slice a11 x.customs.length c11) := bb.2.1 12 _ rfl
  have p12 : W2.cell? ⟨w.heap.size + 1, 12, none⟩ = some (.slice a11' x.customs.length c11') := bp.2.1 12 _ rfl
  have HC3 := Hid.mk' (eq_any a3 a3' c3 c3' x.funcs W2 (by omega) (R3.out.up (up_below hb)).has (R3'.out.up (up_below hb)).has)
  go_wp2_with fail
  refine HC3.out.mono ?_
  rintro e W3 ⟨rfl, nd3, hd3⟩
  have hb3 : Below W2.heap.size W2 W3 := by rw [hd3]; exact below_drewN' (Below.refl _ _) _
  clear hd3
  have bb := bb.keep hb3
  have bp := bp.keep hb3
  have hb := hb.trans (hb3.mono hb.size)
  clear HC3 hb3
  have q0 : W3.cell? ⟨w.heap.size, 0, none⟩ = some (.slice a1 x.types.length c1) := bb.2.1 0 _ rfl
  have p0 : W3.cell? ⟨w.heap.size + 1, 0, none⟩ = some (.slice a1' x.types.length c1') := bp.2.1 0 _ rfl
  have q1 : W3.cell? ⟨w.heap.size, 1, none⟩ = some (.slice a2 x.imps.length c2) := bb.2.1 1 _ rfl
  have p1 : W3.cell? ⟨w.heap.size + 1, 1, none⟩ = some (.slice a2' x.imps.length c2') := bp.2.1 1 _ rfl
  have q2 : W3.cell? ⟨w.heap.size, 2, none⟩ = some (.slice a3 x.funcs.length c3) := bb.2.1 2 _ rfl
  have p2 : W3.cell? ⟨w.heap.size + 1, 2, none⟩ = some (.slice a3' x.funcs.length c3') := bp.2.1 2 _ rfl
  have q3 : W3.cell? ⟨w.heap.size, 3, none⟩ = some (.slice a4 x.tabs.length c4) := bb.2.1 3 _ rfl
  have p3 : W3.cell? ⟨w.heap.size + 1, 3, none⟩ = some (.slice a4' x.tabs.length c4') := bp.2.1 3 _ rfl
  have q4 : W3.cell? ⟨w.heap.size, 4, none⟩ = some (.slice a5 x.mems.length c5) := bb.2.1 4 _ rfl
  have p4 : W3.cell? ⟨w.heap.size + 1, 4, none⟩ = some (.slice a5' x.mems.length c5') := bp.2.1 4 _ rfl
  have q5 : W3.cell? ⟨w.heap.size, 5, none⟩ = some (.slice a6 x.globs.length c6) := bb.2.1 5 _ rfl
  have p5 : W3.cell? ⟨w.heap.size + 1, 5, none⟩ = some (.slice a6' x.globs.length c6') := bp.2.1 5 _ rfl
  have q6 : W3.cell? ⟨w.heap.size, 6, none⟩ = some (.slice a7 x.exps.length c7) := bb.2.1 6 _ rfl
  have p6 : W3.cell? ⟨w.heap.size + 1, 6, none⟩ = some (.slice a7' x.exps.length c7') := bp.2.1 6 _ rfl
  have q7 : W3.cell? ⟨w.heap.size, 7, none⟩ = some (.bool x.hasS) := bb.2.1 7 _ rfl
  have p7 : W3.cell? ⟨w.heap.size + 1, 7, none⟩ = some (.bool x.hasS) := bp.2.1 7 _ rfl
  have q8 : W3.cell? ⟨w.heap.size, 8, none⟩ = some (.int .i64 x.start) := bb.2.1 8 _ rfl
  have p8 : W3.cell? ⟨w.heap.size + 1, 8, none⟩ = some (.int .i64 x.start) := bp.2.1 8 _ rfl
  have q9 : W3.cell? ⟨w.heap.size, 9, none⟩ = some (.slice a8 x.elems.length c8) := bb.2.1 9 _ rfl
  have p9 : W3.cell? ⟨w.heap.size + 1, 9, none⟩ = some (.slice a8' x.elems.length c8') := bp.2.1 9 _ rfl
  have q10 : W3.cell? ⟨w.heap.size, 10, none⟩ = some (.slice a9 x.codes.length c9) := bb.2.1 10 _ rfl
  have p10 : W3.cell? ⟨w.heap.size + 1, 10, none⟩ = some (.slice a9' x.codes.length c9') := bp.2.1 10 _ rfl
  have q11 : W3.cell? ⟨w.heap.size, 11, none⟩ = some (.slice a10 x.datas.length c10) := bb.2.1 11 _ rfl
  have p11 : W3.cell? ⟨w.heap.size + 1, 11, none⟩ = some (.slice a10' x.datas.length c10') := bp.2.1 11 _ rfl
  have q12 : W3.cell? ⟨w.heap.size, 12, none⟩ = some (.slice a11 x.customs.length c11) := bb.2.1 12 _ rfl
  have p12 : W3.cell? ⟨w.heap.size + 1, 12, none⟩ = some (.slice a11' x.customs.length c11') := bp.2.1 12 _ rfl
  have HC4 := Hid.mk' (reLimitss_c a4 a4' c4 c4' x.tabs W3 l3 (R4.out.up (up_below hb)) (R4'.out.up (up_below hb)))
  go_wp2_with fail
  refine HC4.out.mono ?_
  rintro e W4 ⟨rfl, hb4⟩
  have bb := bb.keep hb4
  have bp := bp.keep hb4
  have hb := hb.trans (hb4.mono hb.size)
  clear HC4 hb4
  have q0 : W4.cell? ⟨w.heap.size, 0, none⟩ = some (.slice a1 x.types.length c1) := bb.2.1 0 _ rfl
  have p0 : W4.cell? ⟨w.heap.size + 1, 0, none⟩ = some (.slice a1' x.types.length c1') := bp.2.1 0 _ rfl
  have q1 : W4.cell? ⟨w.heap.size, 1, none⟩ = some (.slice a2 x.imps.length c2) := bb.2.1 1 _ rfl
  have p1 : W4.cell? ⟨w.heap.size + 1, 1, none⟩ = some (.slice a2' x.imps.length c2') := bp.2.1 1 _ rfl
  have q2 : W4.cell? ⟨w.heap.size, 2, none⟩ = some (.slice a3 x.funcs.length c3) := bb.2.1 2 _ rfl
  have p2 : W4.cell? ⟨w.heap.size + 1, 2, none⟩ = some (.slice a3' x.funcs.length c3') := bp.2.1 2 _ rfl
  have q3 : W4.cell? ⟨w.heap.size, 3, none⟩ = some (.slice a4 x.tabs.length c4) := bb.2.1 3 _ rfl
  have p3 : W4.cell? ⟨w.heap.size + 1, 3, none⟩ = some (.slice a4' x.tabs.length c4') := bp.2.1 3 _ rfl
  have q4 : W4.cell? ⟨w.heap.size, 4, none⟩ = some (.slice a5 x.mems.length c5) := bb.2.1 4 _ rfl
  have p4 : W4.cell? ⟨w.heap.size + 1, 4, none⟩ = some (.slice a5' x.mems.length c5') := bp.2.1 4 _ rfl
  have q5 : W4.cell? ⟨w.heap.size, 5, none⟩ = some (.slice a6 x.globs.length c6) := bb.2.1 5 _ rfl
  have p5 : W4.cell? ⟨w.heap.size + 1, 5, none⟩ = some (.slice a6' x.globs.length c6') := bp.2.1 5 _ rfl
  have q6 : W4.cell? ⟨w.heap.size, 6, none⟩ = some (.slice a7 x.exps.length c7) := bb.2.1 6 _ rfl
  have p6 : W4.cell? ⟨w.heap.size + 1, 6, none⟩ = some (.slice a7' x.exps.length c7') := bp.2.1 6 _ rfl
  have q7 : W4.cell? ⟨w.heap.size, 7, none⟩ = some (.bool x.hasS) := bb.2.1 7 _ rfl
  have p7 : W4.cell? ⟨w.heap.size + 1, 7, none⟩ = some (.bool x.hasS) := bp.2.1 7 _ rfl
  have q8 : W4.cell? ⟨w.heap.size, 8, none⟩ = some (.int .i64 x.start) := bb.2.1 8 _ rfl
  have p8 : W4.cell? ⟨w.heap.size + 1, 8, none⟩ = some (.int .i64 x.start) := bp.2.1 8 _ rfl
  have q9 : W4.cell? ⟨w.heap.size, 9, none⟩ = some (.slice a8 x.elems.length c8) := bb.2.1 9 _ rfl
  have p9 : W4.cell? ⟨w.heap.size + 1, 9, none⟩ = some (.slice a8' x.elems.length c8') := bp.2.1 9 _ rfl
  have q10 : W4.cell? ⟨w.heap.size, 10, none⟩ = some (.slice a9 x.codes.length c9) := bb.2.1 10 _ rfl
  have p10 : W4.cell? ⟨w.heap.size + 1, 10, none⟩ = some (.slice a9' x.codes.length c9') := bp.2.1 10 _ rfl
  have q11 : W4.cell? ⟨w.heap.size, 11, none⟩ = some (.slice a10 x.datas.length c10) := bb.2.1 11 _ rfl
  have p11 : W4.cell? ⟨w.heap.size + 1, 11, none⟩ = some (.slice a10' x.datas.length c10') := bp.2.1 11 _ rfl
  have q12 : W4.cell? ⟨w.heap.size, 12, none⟩ = some (.slice a11 x.customs.length c11) := bb.2.1 12 _ rfl
  have p12 : W4.cell? ⟨w.heap.size + 1, 12, none⟩ = some (.slice a11' x.customs.length c11') := bp.2.1 12 _ rfl
  have HC5 := Hid.mk' (reLimitss_c a5 a5' c5 c5' x.mems W4 l4 (R5.out.up (up_below hb)) (R5'.out.up (up_below hb)))
  go_wp2_with fail
  refine HC5.out.mono ?_
  rintro e W5 ⟨rfl, hb5⟩
  have bb := bb.keep hb5
  have bp := bp.keep hb5
  have hb := hb.trans (hb5.mono hb.size)
  clear HC5 hb5
  have q0 : W5.cell? ⟨w.heap.size, 0, none⟩ = some (.slice a1 x.types.length c1) := bb.2.1 0 _ rfl
  have p0 : W5.cell? ⟨w.heap.size + 1, 0, none⟩ = some (.slice a1' x.types.length c1') := bp.2.1 0 _ rfl
  have q1 : W5.cell? ⟨w.heap.size, 1, none⟩ = some (.slice a2 x.imps.length c2) := bb.2.1 1 _ rfl
  have p1 : W5.cell? ⟨w.heap.size + 1, 1, none⟩ = some (.slice a2' x.imps.length c2') := bp.2.1 1 _ rfl
  have q2 : W5.cell? ⟨w.heap.size, 2, none⟩ = some (.slice a3 x.funcs.length c3) := bb.2.1 2 _ rfl
  have p2 : W5.cell? ⟨w.heap.size + 1, 2, none⟩ = some (.slice a3' x.funcs.length c3') := bp.2.1 2 _ rfl
  have q3 : W5.cell? ⟨w.heap.size, 3, none⟩ = some (.slice a4 x.tabs.length c4) := bb.2.1 3 _ rfl
  have p3 : W5.cell? ⟨w.heap.size + 1, 3, none⟩ = some (.slice a4' x.tabs.length c4') := bp.2.1 3 _ rfl
  have q4 : W5.cell? ⟨w.heap.size, 4, none⟩ = some (.slice a5 x.mems.length c5) := bb.2.1 4 _ rfl
  have p4 : W5.cell? ⟨w.heap.size + 1, 4, none⟩ = some (.slice a5' x.mems.length c5') := bp.2.1 4 _ rfl
  have q5 : W5.cell? ⟨w.heap.size, 5, none⟩ = some (.slice a6 x.globs.length c6) := bb.2.1 5 _ rfl
  have p5 : W5.cell? ⟨w.heap.size + 1, 5, none⟩ = some (.slice a6' x.globs.length c6') := bp.2.1 5 _ rfl
  have q6 : W5.cell? ⟨w.heap.size, 6, none⟩ = some (.slice a7 x.exps.length c7) := bb.2.1 6 _ rfl
  have p6 : W5.cell? ⟨w.heap.size + 1, 6, none⟩ = some (.slice a7' x.exps.length c7') := bp.2.1 6 _ rfl
  have q7 : W5.cell? ⟨w.heap.size, 7, none⟩ = some (.bool x.hasS) := bb.2.1 7 _ rfl
  have p7 : W5.cell? ⟨w.heap.size + 1, 7, none⟩ = some (.bool x.hasS) := bp.2.1 7 _ rfl
  have q8 : W5.cell? ⟨w.heap.size, 8, none⟩ = some (.int .i64 x.start) := bb.2.1 8 _ rfl
  have p8 : W5.cell? ⟨w.heap.size + 1, 8, none⟩ = some (.int .i64 x.start) := bp.2.1 8 _ rfl
  have q9 : W5.cell? ⟨w.heap.size, 9, none⟩ = some (.slice a8 x.elems.length c8) := bb.2.1 9 _ rfl
  have p9 : W5.cell? ⟨w.heap.size + 1, 9, none⟩ = some (.slice a8' x.elems.length c8') := bp.2.1 9 _ rfl
  have q10 : W5.cell? ⟨w.heap.size, 10, none⟩ = some (.slice a9 x.codes.length c9) := bb.2.1 10 _ rfl
  have p10 : W5.cell? ⟨w.heap.size + 1, 10, none⟩ = some (.slice a9' x.codes.length c9') := bp.2.1 10 _ rfl
  have q11 : W5.cell? ⟨w.heap.size, 11, none⟩ = some (.slice a10 x.datas.length c10) := bb.2.1 11 _ rfl
  have p11 : W5.cell? ⟨w.heap.size + 1, 11, none⟩ = some (.slice a10' x.datas.length c10') := bp.2.1 11 _ rfl
  have q12 : W5.cell? ⟨w.heap.size, 12, none⟩ = some (.slice a11 x.customs.length c11) := bb.2.1 12 _ rfl
  have p12 : W5.cell? ⟨w.heap.size + 1, 12, none⟩ = some (.slice a11' x.customs.length c11') := bp.2.1 12 _ rfl
  have HC6 := Hid.mk' (reGlobs_c a6 a6' c6 c6' x.globs W5 l5 (R6.out.up (up_below hb)) (R6'.out.up (up_below hb)))
  go_wp2_with fail
  refine HC6.out.mono ?_
  rintro e W6 ⟨rfl, hb6⟩
  have bb := bb.keep hb6
  have bp := bp.keep hb6
  have hb := hb.trans (hb6.mono hb.size)
  clear HC6 hb6
  have q0 : W6.cell? ⟨w.heap.size, 0, none⟩ = some (.slice a1 x.types.length c1) := bb.2.1 0 _ rfl
  have p0 : W6.cell? ⟨w.heap.size + 1, 0, none⟩ = some (.slice a1' x.types.length c1') := bp.2.1 0 _ rfl
  have q1 : W6.cell? ⟨w.heap.size, 1, none⟩ = some (.slice a2 x.imps.length c2) := bb.2.1 1 _ rfl
  have p1 : W6.cell? ⟨w.heap.size + 1, 1, none⟩ = some (.slice a2' x.imps.length c2') := bp.2.1 1 _ rfl
  have q2 : W6.cell? ⟨w.heap.size, 2, none⟩ = some (.slice a3 x.funcs.length c3) := bb.2.1 2 _ rfl
  have p2 : W6.cell? ⟨w.heap.size + 1, 2, none⟩ = some (.slice a3' x.funcs.length c3') := bp.2.1 2 _ rfl
  have q3 : W6.cell? ⟨w.heap.size, 3, none⟩ = some (.slice a4 x.tabs.length c4) := bb.2.1 3 _ rfl
  have p3 : W6.cell? ⟨w.heap.size + 1, 3, none⟩ = some (.slice a4' x.tabs.length c4') := bp.2.1 3 _ rfl
  have q4 : W6.cell? ⟨w.heap.size, 4, none⟩ = some (.slice a5 x.mems.length c5) := bb.2.1 4 _ rfl
  have p4 : W6.cell? ⟨w.heap.size + 1, 4, none⟩ = some (.slice a5' x.mems.length c5') := bp.2.1 4 _ rfl
  have q5 : W6.cell? ⟨w.heap.size, 5, none⟩ = some (.slice a6 x.globs.length c6) := bb.2.1 5 _ rfl
  have p5 : W6.cell? ⟨w.heap.size + 1, 5, none⟩ = some (.slice a6' x.globs.length c6') := bp.2.1 5 _ rfl
  have q6 : W6.cell? ⟨w.heap.size, 6, none⟩ = some (.slice a7 x.exps.length c7) := bb.2.1 6 _ rfl
  have p6 : W6.cell? ⟨w.heap.size + 1, 6, none⟩ = some (.slice a7' x.exps.length c7') := bp.2.1 6 _ rfl
  have q7 : W6.cell? ⟨w.heap.size, 7, none⟩ = some (.bool x.hasS) := bb.2.1 7 _ rfl
  have p7 : W6.cell? ⟨w.heap.size + 1, 7, none⟩ = some (.bool x.hasS) := bp.2.1 7 _ rfl
  have q8 : W6.cell? ⟨w.heap.size, 8, none⟩ = some (.int .i64 x.start) := bb.2.1 8 _ rfl
  have p8 : W6.cell? ⟨w.heap.size + 1, 8, none⟩ = some (.int .i64 x.start) := bp.2.1 8 _ rfl
  have q9 : W6.cell? ⟨w.heap.size, 9, none⟩ = some (.slice a8 x.elems.length c8) := bb.2.1 9 _ rfl
  have p9 : W6.cell? ⟨w.heap.size + 1, 9, none⟩ = some (.slice a8' x.elems.length c8') := bp.2.1 9 _ rfl
  have q10 : W6.cell? ⟨w.heap.size, 10, none⟩ = some (.slice a9 x.codes.length c9) := bb.2.1 10 _ rfl
  have p10 : W6.cell? ⟨w.heap.size + 1, 10, none⟩ = some (.slice a9' x.codes.length c9') := bp.2.1 10 _ rfl
  have q11 : W6.cell? ⟨w.heap.size, 11, none⟩ = some (.slice a10 x.datas.length c10) := bb.2.1 11 _ rfl
  have p11 : W6.cell? ⟨w.heap.size + 1, 11, none⟩ = some (.slice a10' x.datas.length c10') := bp.2.1 11 _ rfl
  have q12 : W6.cell? ⟨w.heap.size, 12, none⟩ = some (.slice a11 x.customs.length c11) := bb.2.1 12 _ rfl
  have p12 : W6.cell? ⟨w.heap.size + 1, 12, none⟩ = some (.slice a11' x.customs.length c11') := bp.2.1 12 _ rfl
  have HC7 := Hid.mk' (reExps_c a7 a7' c7 c7' x.exps W6 l6 (R7.out.up (up_below hb)) (R7'.out.up (up_below hb)))
  go_wp2_with fail
  refine HC7.out.mono ?_
  rintro e W7 ⟨rfl, hb7⟩
  have bb := bb.keep hb7
  have bp := bp.keep hb7
  have hb := hb.trans (hb7.mono hb.size)
  clear HC7 hb7
  have q0 : W7.cell? ⟨w.heap.size, 0, none⟩ = some (.slice a1 x.types.length c1) := bb.2.1 0 _ rfl
  have p0 : W7.cell? ⟨w.heap.size + 1, 0, none⟩ = some (.slice a1' x.types.length c1') := bp.2.1 0 _ rfl
  have q1 : W7.cell? ⟨w.heap.size, 1, none⟩ = some (.slice a2 x.imps.length c2) := bb.2.1 1 _ rfl
  have p1 : W7.cell? ⟨w.heap.size + 1, 1, none⟩ = some (.slice a2' x.imps.length c2') := bp.2.1 1 _ rfl
  have q2 : W7.cell? ⟨w.heap.size, 2, none⟩ = some (.slice a3 x.funcs.length c3) := bb.2.1 2 _ rfl
  have p2 : W7.cell? ⟨w.heap.size + 1, 2, none⟩ = some (.slice a3' x.funcs.length c3') := bp.2.1 2 _ rfl
  have q3 : W7.cell? ⟨w.heap.size, 3, none⟩ = some (.slice a4 x.tabs.length c4) := bb.2.1 3 _ rfl
  have p3 : W7.cell? ⟨w.heap.size + 1, 3, none⟩ = some (.slice a4' x.tabs.length c4') := bp.2.1 3 _ rfl
  have q4 : W7.cell? ⟨w.heap.size, 4, none⟩ = some (.slice a5 x.mems.length c5) := bb.2.1 4 _ rfl
  have p4 : W7.cell? ⟨w.heap.size + 1, 4, none⟩ = some (.slice a5' x.mems.length c5') := bp.2.1 4 _ rfl
  have q5 : W7.cell? ⟨w.heap.size, 5, none⟩ = some (.slice a6 x.globs.length c6) := bb.2.1 5 _ rfl
  have p5 : W7.cell? ⟨w.heap.size + 1, 5, none⟩ = some (.slice a6' x.globs.length c6') := bp.2.1 5 _ rfl
  have q6 : W7.cell? ⟨w.heap.size, 6, none⟩ = some (.slice a7 x.exps.length c7) := bb.2.1 6 _ rfl
  have p6 : W7.cell? ⟨w.heap.size + 1, 6, none⟩ = some (.slice a7' x.exps.length c7') := bp.2.1 6 _ rfl
  have q7 : W7.cell? ⟨w.heap.size, 7, none⟩ = some (.bool x.hasS) := bb.2.1 7 _ rfl
  have p7 : W7.cell? ⟨w.heap.size + 1, 7, none⟩ = some (.bool x.hasS) := bp.2.1 7 _ rfl
  have q8 : W7.cell? ⟨w.heap.size, 8, none⟩ = some (.int .i64 x.start) := bb.2.1 8 _ rfl
  have p8 : W7.cell? ⟨w.heap.size + 1, 8, none⟩ = some (.int .i64 x.start) := bp.2.1 8 _ rfl
  have q9 : W7.cell? ⟨w.heap.size, 9, none⟩ = some (.slice a8 x.elems.length c8) := bb.2.1 9 _ rfl
  have p9 : W7.cell? ⟨w.heap.size + 1, 9, none⟩ = some (.slice a8' x.elems.length c8') := bp.2.1 9 _ rfl
  have q10 : W7.cell? ⟨w.heap.size, 10, none⟩ = some (.slice a9 x.codes.length c9) := bb.2.1 10 _ rfl
  have p10 : W7.cell? ⟨w.heap.size + 1, 10, none⟩ = some (.slice a9' x.codes.length c9') := bp.2.1 10 _ rfl
  have q11 : W7.cell? ⟨w.heap.size, 11, none⟩ = some (.slice a10 x.datas.length c10) := bb.2.1 11 _ rfl
  have p11 : W7.cell? ⟨w.heap.size + 1, 11, none⟩ = some (.slice a10' x.datas.length c10') := bp.2.1 11 _ rfl
  have q12 : W7.cell? ⟨w.heap.size, 12, none⟩ = some (.slice a11 x.customs.length c11) := bb.2.1 12 _ rfl
  have p12 : W7.cell? ⟨w.heap.size + 1, 12, none⟩ = some (.slice a11' x.customs.length c11') := bp.2.1 12 _ rfl
  have HC8 := Hid.mk' (reEles_c a8 a8' c8 c8' x.elems W7 l9 (R8.out.up (up_below hb)) (R8'.out.up (up_below hb)))
  go_wp2_with fail
  refine HC8.out.mono ?_
  rintro e W8 ⟨rfl, hb8⟩
  have bb := bb.keep hb8
  have bp := bp.keep hb8
  have hb := hb.trans (hb8.mono hb.size)
  clear HC8 hb8
  have q0 : W8.cell? ⟨w.heap.size, 0, none⟩ = some (.slice a1 x.types.length c1) := bb.2.1 0 _ rfl
  have p0 : W8.cell? ⟨w.heap.size + 1, 0, none⟩ = some (.slice a1' x.types.length c1') := bp.2.1 0 _ rfl
  have q1 : W8.cell? ⟨w.heap.size, 1, none⟩ = some (.slice a2 x.imps.length c2) := bb.2.1 1 _ rfl
  have p1 : W8.cell? ⟨w.heap.size + 1, 1, none⟩ = some (.slice a2' x.imps.length c2') := bp.2.1 1 _ rfl
  have q2 : W8.cell? ⟨w.heap.size, 2, none⟩ = some (.slice a3 x.funcs.length c3) := bb.2.1 2 _ rfl
  have p2 : W8.cell? ⟨w.heap.size + 1, 2, none⟩ = some (.slice a3' x.funcs.length c3') := bp.2.1 2 _ rfl
  have q3 : W8.cell? ⟨w.heap.size, 3, none⟩ = some (.slice a4 x.tabs.length c4) := bb.2.1 3 _ rfl
  have p3 : W8.cell? ⟨w.heap.size + 1, 3, none⟩ = some (.slice a4' x.tabs.length c4') := bp.2.1 3 _ rfl
  have q4 : W8.cell? ⟨w.heap.size, 4, none⟩ = some (.slice a5 x.mems.length c5) := bb.2.1 4 _ rfl
  have p4 : W8.cell? ⟨w.heap.size + 1, 4, none⟩ = some (.slice a5' x.mems.length c5') := bp.2.1 4 _ rfl
  have q5 : W8.cell? ⟨w.heap.size, 5, none⟩ = some (.slice a6 x.globs.length c6) := bb.2.1 5 _ rfl
  have p5 : W8.cell? ⟨w.heap.size + 1, 5, none⟩ = some (.slice a6' x.globs.length c6') := bp.2.1 5 _ rfl
  have q6 : W8.cell? ⟨w.heap.size, 6, none⟩ = some (.slice a7 x.exps.length c7) := bb.2.1 6 _ rfl
  have p6 : W8.cell? ⟨w.heap.size + 1, 6, none⟩ = some (.slice a7' x.exps.length c7') := bp.2.1 6 _ rfl
  have q7 : W8.cell? ⟨w.heap.size, 7, none⟩ = some (.bool x.hasS) := bb.2.1 7 _ rfl
  have p7 : W8.cell? ⟨w.heap.size + 1, 7, none⟩ = some (.bool x.hasS) := bp.2.1 7 _ rfl
  have q8 : W8.cell? ⟨w.heap.size, 8, none⟩ = some (.int .i64 x.start) := bb.2.1 8 _ rfl
  have p8 : W8.cell? ⟨w.heap.size + 1, 8, none⟩ = some (.int .i64 x.start) := bp.2.1 8 _ rfl
  have q9 : W8.cell? ⟨w.heap.size, 9, none⟩ = some (.slice a8 x.elems.length c8) := bb.2.1 9 _ rfl
  have p9 : W8.cell? ⟨w.heap.size + 1, 9, none⟩ = some (.slice a8' x.elems.length c8') := bp.2.1 9 _ rfl
  have q10 : W8.cell? ⟨w.heap.size, 10, none⟩ = some (.slice a9 x.codes.length c9) := bb.2.1 10 _ rfl
  have p10 : W8.cell? ⟨w.heap.size + 1, 10, none⟩ = some (.slice a9' x.codes.length c9') := bp.2.1 10 _ rfl
  have q11 : W8.cell? ⟨w.heap.size, 11, none⟩ = some (.slice a10 x.datas.length c10) := bb.2.1 11 _ rfl
  have p11 : W8.cell? ⟨w.heap.size + 1, 11, none⟩ = some (.slice a10' x.datas.length c10') := bp.2.1 11 _ rfl
  have q12 : W8.cell? ⟨w.heap.size, 12, none⟩ = some (.slice a11 x.customs.length c11) := bb.2.1 12 _ rfl
  have p12 : W8.cell? ⟨w.heap.size + 1, 12, none⟩ = some (.slice a11' x.customs.length c11') := bp.2.1 12 _ rfl
  have HC9 := Hid.mk' (reCods_c a9 a9' c9 c9' x.codes W8 l10 (R9.out.up (up_below hb)) (R9'.out.up (up_below hb)))
  go_wp2_with fail
  refine HC9.out.mono ?_
  rintro e W9 ⟨rfl, hb9⟩
  have bb := bb.keep hb9
  have bp := bp.keep hb9
  have hb := hb.trans (hb9.mono hb.size)
  clear HC9 hb9
  have q0 : W9.cell? ⟨w.heap.size, 0, none⟩ = some (.slice a1 x.types.length c1) := bb.2.1 0 _ rfl
  have p0 : W9.cell? ⟨w.heap.size + 1, 0, none⟩ = some (.slice a1' x.types.length c1') := bp.2.1 0 _ rfl
  have q1 : W9.cell? ⟨w.heap.size, 1, none⟩ = some (.slice a2 x.imps.length c2) := bb.2.1 1 _ rfl
  have p1 : W9.cell? ⟨w.heap.size + 1, 1, none⟩ = some (.slice a2' x.imps.length c2') := bp.2.1 1 _ rfl
  have q2 : W9.cell? ⟨w.heap.size, 2, none⟩ = some (.slice a3 x.funcs.length c3) := bb.2.1 2 _ rfl
  have p2 : W9.cell? ⟨w.heap.size + 1, 2, none⟩ = some (.slice a3' x.funcs.length c3') := bp.2.1 2 _ rfl
  have q3 : W9.cell? ⟨w.heap.size, 3, none⟩ = some (.slice a4 x.tabs.length c4) := bb.2.1 3 _ rfl
  have p3 : W9.cell? ⟨w.heap.size + 1, 3, none⟩ = some (.slice a4' x.tabs.length c4') := bp.2.1 3 _ rfl
  have q4 : W9.cell? ⟨w.heap.size, 4, none⟩ = some (.slice a5 x.mems.length c5) := bb.2.1 4 _ rfl
  have p4 : W9.cell? ⟨w.heap.size + 1, 4, none⟩ = some (.slice a5' x.mems.length c5') := bp.2.1 4 _ rfl
  have q5 : W9.cell? ⟨w.heap.size, 5, none⟩ = some (.slice a6 x.globs.length c6) := bb.2.1 5 _ rfl
  have p5 : W9.cell? ⟨w.heap.size + 1, 5, none⟩ = some (.slice a6' x.globs.length c6') := bp.2.1 5 _ rfl
  have q6 : W9.cell? ⟨w.heap.size, 6, none⟩ = some (.slice a7 x.exps.length c7) := bb.2.1 6 _ rfl
  have p6 : W9.cell? ⟨w.heap.size + 1, 6, none⟩ = some (.slice a7' x.exps.length c7') := bp.2.1 6 _ rfl
  have q7 : W9.cell? ⟨w.heap.size, 7, none⟩ = some (.bool x.hasS) := bb.2.1 7 _ rfl
  have p7 : W9.cell? ⟨w.heap.size + 1, 7, none⟩ = some (.bool x.hasS) := bp.2.1 7 _ rfl
  have q8 : W9.cell? ⟨w.heap.size, 8, none⟩ = some (.int .i64 x.start) := bb.2.1 8 _ rfl
  have p8 : W9.cell? ⟨w.heap.size + 1, 8, none⟩ = some (.int .i64 x.start) := bp.2.1 8 _ rfl
  have q9 : W9.cell? ⟨w.heap.size, 9, none⟩ = some (.slice a8 x.elems.length c8) := bb.2.1 9 _ rfl
  have p9 : W9.cell? ⟨w.heap.size + 1, 9, none⟩ = some (.slice a8' x.elems.length c8') := bp.2.1 9 _ rfl
  have q10 : W9.cell? ⟨w.heap.size, 10, none⟩ = some (.slice a9 x.codes.length c9) := bb.2.1 10 _ rfl
  have p10 : W9.cell? ⟨w.heap.size + 1, 10, none⟩ = some (.slice a9' x.codes.length c9') := bp.2.1 10 _ rfl
  have q11 : W9.cell? ⟨w.heap.size, 11, none⟩ = some (.slice a10 x.datas.length c10) := bb.2.1 11 _ rfl
  have p11 : W9.cell? ⟨w.heap.size + 1, 11, none⟩ = some (.slice a10' x.datas.length c10') := bp.2.1 11 _ rfl
  have q12 : W9.cell? ⟨w.heap.size, 12, none⟩ = some (.slice a11 x.customs.length c11) := bb.2.1 12 _ rfl
  have p12 : W9.cell? ⟨w.heap.size + 1, 12, none⟩ = some (.slice a11' x.customs.length c11') := bp.2.1 12 _ rfl
  have HC10 := Hid.mk' (reDats_c a10 a10' c10 c10' x.datas W9 l11 (R10.out.up (up_below hb)) (R10'.out.up (up_below hb)))
  go_wp2_with fail
  refine HC10.out.mono ?_
  rintro e W10 ⟨rfl, hb10⟩
  have bb := bb.keep hb10
  have bp := bp.keep hb10
  have hb := hb.trans (hb10.mono hb.size)
  clear HC10 hb10
  have q0 : W10.cell? ⟨w.heap.size, 0, none⟩ = some (.slice a1 x.types.length c1) := bb.2.1 0 _ rfl
  have p0 : W10.cell? ⟨w.heap.size + 1, 0, none⟩ = some (.slice a1' x.types.length c1') := bp.2.1 0 _ rfl
  have q1 : W10.cell? ⟨w.heap.size, 1, none⟩ = some (.slice a2 x.imps.length c2) := bb.2.1 1 _ rfl
  have p1 : W10.cell? ⟨w.heap.size + 1, 1, none⟩ = some (.slice a2' x.imps.length c2') := bp.2.1 1 _ rfl
  have q2 : W10.cell? ⟨w.heap.size, 2, none⟩ = some (.slice a3 x.funcs.length c3) := bb.2.1 2 _ rfl
  have p2 : W10.cell? ⟨w.heap.size + 1, 2, none⟩ = some (.slice a3' x.funcs.length c3') := bp.2.1 2 _ rfl
  have q3 : W10.cell? ⟨w.heap.size, 3, none⟩ = some (.slice a4 x.tabs.length c4) := bb.2.1 3 _ rfl
  have p3 : W10.cell? ⟨w.heap.size + 1, 3, none⟩ = some (.slice a4' x.tabs.length c4') := bp.2.1 3 _ rfl
  have q4 : W10.cell? ⟨w.heap.size, 4, none⟩ = some (.slice a5 x.mems.length c5) := bb.2.1 4 _ rfl
  have p4 : W10.cell? ⟨w.heap.size + 1, 4, none⟩ = some (.slice a5' x.mems.length c5') := bp.2.1 4 _ rfl
  have q5 : W10.cell? ⟨w.heap.size, 5, none⟩ = some (.slice a6 x.globs.length c6) := bb.2.1 5 _ rfl
  have p5 : W10.cell? ⟨w.heap.size + 1, 5, none⟩ = some (.slice a6' x.globs.length c6') := bp.2.1 5 _ rfl
  have q6 : W10.cell? ⟨w.heap.size, 6, none⟩ = some (.slice a7 x.exps.length c7) := bb.2.1 6 _ rfl
  have p6 : W10.cell? ⟨w.heap.size + 1, 6, none⟩ = some (.slice a7' x.exps.length c7') := bp.2.1 6 _ rfl
  have q7 : W10.cell? ⟨w.heap.size, 7, none⟩ = some (.bool x.hasS) := bb.2.1 7 _ rfl
  have p7 : W10.cell? ⟨w.heap.size + 1, 7, none⟩ = some (.bool x.hasS) := bp.2.1 7 _ rfl
  have q8 : W10.cell? ⟨w.heap.size, 8, none⟩ = some (.int .i64 x.start) := bb.2.1 8 _ rfl
  have p8 : W10.cell? ⟨w.heap.size + 1, 8, none⟩ = some (.int .i64 x.start) := bp.2.1 8 _ rfl
  have q9 : W10.cell? ⟨w.heap.size, 9, none⟩ = some (.slice a8 x.elems.length c8) := bb.2.1 9 _ rfl
  have p9 : W10.cell? ⟨w.heap.size + 1, 9, none⟩ = some (.slice a8' x.elems.length c8') := bp.2.1 9 _ rfl
  have q10 : W10.cell? ⟨w.heap.size, 10, none⟩ = some (.slice a9 x.codes.length c9) := bb.2.1 10 _ rfl
  have p10 : W10.cell? ⟨w.heap.size + 1, 10, none⟩ = some (.slice a9' x.codes.length c9') := bp.2.1 10 _ rfl
  have q11 : W10.cell? ⟨w.heap.size, 11, none⟩ = some (.slice a10 x.datas.length c10) := bb.2.1 11 _ rfl
  have p11 : W10.cell? ⟨w.heap.size + 1, 11, none⟩ = some (.slice a10' x.datas.length c10') := bp.2.1 11 _ rfl
  have q12 : W10.cell? ⟨w.heap.size, 12, none⟩ = some (.slice a11 x.customs.length c11) := bb.2.1 12 _ rfl
  have p12 : W10.cell? ⟨w.heap.size + 1, 12, none⟩ = some (.slice a11' x.customs.length c11') := bp.2.1 12 _ rfl
  have HC11 := Hid.mk' (reCuss_c a11 a11' c11 c11' x.customs W10 l12 (R11.out.up (up_below hb)) (R11'.out.up (up_below hb)))
  go_wp2_with fail
  refine HC11.out.mono ?_
  rintro e W11 ⟨rfl, hb11⟩
  have bb := bb.keep hb11
  have bp := bp.keep hb11
  have hb := hb.trans (hb11.mono hb.size)
  clear HC11 hb11
  have q0 : W11.cell? ⟨w.heap.size, 0, none⟩ = some (.slice a1 x.types.length c1) := bb.2.1 0 _ rfl
  have p0 : W11.cell? ⟨w.heap.size + 1, 0, none⟩ = some (.slice a1' x.types.length c1') := bp.2.1 0 _ rfl
  have q1 : W11.cell? ⟨w.heap.size, 1, none⟩ = some (.slice a2 x.imps.length c2) := bb.2.1 1 _ rfl
  have p1 : W11.cell? ⟨w.heap.size + 1, 1, none⟩ = some (.slice a2' x.imps.length c2') := bp.2.1 1 _ rfl
  have q2 : W11.cell? ⟨w.heap.size, 2, none⟩ = some (.slice a3 x.funcs.length c3) := bb.2.1 2 _ rfl
  have p2 : W11.cell? ⟨w.heap.size + 1, 2, none⟩ = some (.slice a3' x.funcs.length c3') := bp.2.1 2 _ rfl
  have q3 : W11.cell? ⟨w.heap.size, 3, none⟩ = some (.slice a4 x.tabs.length c4) := bb.2.1 3 _ rfl
  have p3 : W11.cell? ⟨w.heap.size + 1, 3, none⟩ = some (.slice a4' x.tabs.length c4') := bp.2.1 3 _ rfl
  have q4 : W11.cell? ⟨w.heap.size, 4, none⟩ = some (.slice a5 x.mems.length c5) := bb.2.1 4 _ rfl
  have p4 : W11.cell? ⟨w.heap.size + 1, 4, none⟩ = some (.slice a5' x.mems.length c5') := bp.2.1 4 _ rfl
  have q5 : W11.cell? ⟨w.heap.size, 5, none⟩ = some (.slice a6 x.globs.length c6) := bb.2.1 5 _ rfl
  have p5 : W11.cell? ⟨w.heap.size + 1, 5, none⟩ = some (.slice a6' x.globs.length c6') := bp.2.1 5 _ rfl
  have q6 : W11.cell? ⟨w.heap.size, 6, none⟩ = some (.slice a7 x.exps.length c7) := bb.2.1 6 _ rfl
  have p6 : W11.cell? ⟨w.heap.size + 1, 6, none⟩ = some (.slice a7' x.exps.length c7') := bp.2.1 6 _ rfl
  have q7 : W11.cell? ⟨w.heap.size, 7, none⟩ = some (.bool x.hasS) := bb.2.1 7 _ rfl
  have p7 : W11.cell? ⟨w.heap.size + 1, 7, none⟩ = some (.bool x.hasS) := bp.2.1 7 _ rfl
  have q8 : W11.cell? ⟨w.heap.size, 8, none⟩ = some (.int .i64 x.start) := bb.2.1 8 _ rfl
  have p8 : W11.cell? ⟨w.heap.size + 1, 8, none⟩ = some (.int .i64 x.start) := bp.2.1 8 _ rfl
  have q9 : W11.cell? ⟨w.heap.size, 9, none⟩ = some (.slice a8 x.elems.length c8) := bb.2.1 9 _ rfl
  have p9 : W11.cell? ⟨w.heap.size + 1, 9, none⟩ = some (.slice a8' x.elems.length c8') := bp.2.1 9 _ rfl
  have q10 : W11.cell? ⟨w.heap.size, 10, none⟩ = some (.slice a9 x.codes.length c9) := bb.2.1 10 _ rfl
  have p10 : W11.cell? ⟨w.heap.size + 1, 10, none⟩ = some (.slice a9' x.codes.length c9') := bp.2.1 10 _ rfl
  have q11 : W11.cell? ⟨w.heap.size, 11, none⟩ = some (.slice a10 x.datas.length c10) := bb.2.1 11 _ rfl
  have p11 : W11.cell? ⟨w.heap.size + 1, 11, none⟩ = some (.slice a10' x.datas.length c10') := bp.2.1 11 _ rfl
  have q12 : W11.cell? ⟨w.heap.size, 12, none⟩ = some (.slice a11 x.customs.length c11) := bb.2.1 12 _ rfl
  have p12 : W11.cell? ⟨w.heap.size + 1, 12, none⟩ = some (.slice a11' x.customs.length c11') := bp.2.1 12 _ rfl
  have HB := Hid.mk' hb
  clear hb bb bp
  go_wp2
  go_ret
  exact ⟨rfl, HB.out⟩
end Go.Proofs.YtdbmolambolmgaaGreat
