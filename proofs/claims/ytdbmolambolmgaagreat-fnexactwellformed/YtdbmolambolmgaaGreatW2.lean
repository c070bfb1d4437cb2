import Derived.Test.YtdbmolambolmgaaGreatW1
set_option linter.all false
set_option linter.unusedVariables false
namespace Go.Proofs.YtdbmolambolmgaaGreat
open Go.RowKit Go.Sort
set_option maxRecDepth 100000
theorem alls_t {R : Type} (B : R → Bool) (xs : List R) (z : R) (h : ∀ j, j < xs.length → B (xs.getD j z) = true) : xs.all B = true := by
  rw [List.all_eq_true]
  intro x hx
  obtain ⟨i, hi, rfl⟩ := List.getElem_of_mem hx
  have := h i hi
  simpa [List.getD, List.getElem?_eq_getElem hi] using this
theorem alls_f {R : Type} (B : R → Bool) (xs : List R) (z : R) (k : Nat) (hk : k < xs.length) (h : B (xs.getD k z) = false) : xs.all B = false := by
  rw [List.all_eq_false]
  refine ⟨xs[k], List.getElem_mem hk, ?_⟩
  have : xs.getD k z = xs[k] := by simp [List.getD, List.getElem?_eq_getElem hk]
  rw [this] at h
  simp [h]
theorem allT_t (l : List Int) (h : ∀ i, i < l.length → tyB (l.getD i 0) = true) : l.all tyB = true := alls_t tyB l 0 h
theorem allT_f (l : List Int) (i : Nat) (hi : i < l.length) (h : tyB (l.getD i 0) = false) : l.all tyB = false := alls_f tyB l 0 i hi h
set_option maxHeartbeats 1000000 in
theorem allAreT_c (a : Option Addr) (c : Nat) (l : List Int) (w : World) (hn : l.length ≤ 1099511627776) (hH : Has w a l) : Calls Tryz.prog 51 #[.slice a l.length c, .func (.func 124) #[] #[]] w fun e w' => e = .returned (.bool (l.all tyB)) ∧ w = w' := by
  have HH := Hid.mk' hH
  clear hH
  go_enter Tryz.func51, Tryz.ntmps51
  go_wp2_with fail
  go_loop [9] (fun i => ∃ k : Nat, k ≤ l.length ∧ i = .int .i64 k ∧ ∀ j, j < k → tyB (l.getD j 0) = true) (fun i => l.length - (intOf i).toNat)
  case atStart => exact ⟨0, Nat.zero_le _, rfl, fun j h => by omega⟩
  case round =>
    obtain ⟨k, hk, rfl, hall⟩ := hrel
    by_cases hlt : k < l.length
    · have hki : (k : Int) < (l.length : Int) := by omega
      rcases HH.out with hx | ⟨b1, o1, ea, hc⟩
      · subst hx; simp at hlt
      have d := hc k hlt
      subst ea
      have HK := Hid.mk' (ity_c (l.getD k 0))
      generalize hy : l.getD k 0 = y at *
      generalize hz : tyB y = z at *
      cases z
      · have HFIN := Hid.mk' (allT_f l k hlt (by rw [hy]; exact hz))
        clear hall hc hy hz HH
        go_wp2_with (refine (HK.out _).mono ?_; rintro e w1 ⟨rfl, rfl⟩)
        go_ret
        exact ⟨by rw [HFIN.out]; rfl, rfl⟩
      · have HA2 : Hid (∀ j, j < k + 1 → tyB (l.getD j 0) = true) := fun j hj => by
          rcases (by omega : j < k ∨ j = k) with h | h
          · exact hall j h
          · subst h; rw [hy]; exact hz
        clear hall hc hy hz HH
        go_wp2_with (refine (HK.out _).mono ?_; rintro e w1 ⟨rfl, rfl⟩)
        go_round
        case rel => exact ⟨k + 1, by omega, by go_num, HA2.out⟩
        case measure => simp [intOf]; omega
    · have e : k = l.length := by omega
      subst e
      have HFIN := Hid.mk' (allT_t l hall)
      clear hall HH
      go_wp2
      go_ret
      exact ⟨by rw [HFIN.out]; rfl, rfl⟩
def ftB (t : FType) : Bool := t.ps.all tyB && t.rs.all tyB && decide (t.rs.length ≤ 1)
def globB (g : Glob) : Bool := tyB g.ty.ty && closedM g.ini
def expB (x : Exp) : Bool := nameB x.nm && kindB x.kind && u32B x.ix
def eleB (e : Ele) : Bool := closedM e.off && e.fs.all u32B
def datB (d : Dat) : Bool := closedM d.off
def InsPos (xs : List In) : Prop := ∀ i, 0 ≤ (xs.getD i I0).v
theorem same_below {P : Program} {f : FuncId} {args : Array Value} {w : World} {v : Value} (h : Calls P f args w fun e w' => e = .returned v ∧ w = w') : Calls P f args w fun e w' => e = .returned v ∧ Below w.heap.size w w' :=
  h.mono fun e w' ⟨a, b⟩ => ⟨a, by subst b; exact Below.refl _ _⟩
theorem clo (a : Option Addr) (c : Nat) (xs : List In) (w : World) (hl : xs.length ≤ 1048576 ∧ ∀ i, i < xs.length → In.LB 1048576 (xs.getD i I0)) (hv : InsPos xs) (hL : In.Ls 0 w a xs) : Calls Tryz.prog 127 #[.slice a xs.length c] w fun e w' => e = .returned (.bool (closedM xs)) ∧ Below w.heap.size w w' :=
  iclosed_c a c xs w hl.1 hl.2 hv hL.lst
theorem sclo (a : Option Addr) (c : Nat) (xs : List In) (w : World) (hl : xs.length ≤ 1048576 ∧ ∀ i, i < xs.length → In.LB 1048576 (xs.getD i I0)) (hv : InsPos xs) (hL : In.Ls 0 w a xs) : Calls Tryz.prog 32 #[.slice a xs.length c] w fun e w' => e = .returned (.bool (closedM xs)) ∧ Below w.heap.size w w' :=
  sclosed_c a c xs w hl.1 hl.2 hv hL.lst
set_option maxHeartbeats 4000000 in
theorem ift_c (x : FType) (a1 : Option Addr) (c1 : Nat) (a2 : Option Addr) (c2 : Nat) (w : World) (hI : FType.Is 0 w x a1 a2) (hl : FType.LB 1048576 x) :
    Calls Tryz.prog 48 #[.agg #[.slice a1 x.ps.length c1, .slice a2 x.rs.length c2]] w fun e w' => e = .returned (.bool (ftB x)) ∧ Below w.heap.size w w' := by
  obtain ⟨l0, l1⟩ := hl
  obtain ⟨r1, r2⟩ := hI
  have R1 := Hid.mk' r1
  have R2 := Hid.mk' r2
  clear r1 r2
  go_enter Tryz.func48, Tryz.ntmps48
  go_upto_region 1 with fail
  refine wp_gen (fun W => Bk W w.heap.size [.slice a1 x.ps.length c1, .slice a2 x.rs.length c2] ∧ Below w.heap.size w W) ⟨Bk.new, (Below.refl _ _).alloc (Nat.le_refl _) _⟩ ?_
  rintro W ⟨bb, hb⟩
  have q0 : W.cell? ⟨w.heap.size, 0, none⟩ = some (.slice a1 x.ps.length c1) := bb.2.1 0 _ rfl
  have q1 : W.cell? ⟨w.heap.size, 1, none⟩ = some (.slice a2 x.rs.length c2) := bb.2.1 1 _ rfl
  have HC0 := Hid.mk' (same_below (allAreT_c a1 c1 x.ps W (by omega) (R1.out.up (up_below hb)).has))
  generalize ht0 : x.ps.all tyB = t0 at HC0
  cases t0
  · go_wp2_with fail
    refine HC0.out.mono ?_
    rintro e W1 ⟨rfl, hb0⟩
    have hb := hb.trans (hb0.mono hb.size)
    clear hb0 bb
    go_wp2
    go_ret
    exact ⟨by simp [ftB, ht0], hb⟩
  go_wp2_with fail
  refine HC0.out.mono ?_
  rintro e W1 ⟨rfl, hb0⟩
  have bb := bb.keep hb0
  have hb := hb.trans (hb0.mono hb.size)
  clear hb0 HC0
  have q0 : W1.cell? ⟨w.heap.size, 0, none⟩ = some (.slice a1 x.ps.length c1) := bb.2.1 0 _ rfl
  have q1 : W1.cell? ⟨w.heap.size, 1, none⟩ = some (.slice a2 x.rs.length c2) := bb.2.1 1 _ rfl
  have HC1 := Hid.mk' (same_below (allAreT_c a2 c2 x.rs W1 (by omega) (R2.out.up (up_below hb)).has))
  generalize ht1 : x.rs.all tyB = t1 at HC1
  cases t1
  · go_wp2_with fail
    refine HC1.out.mono ?_
    rintro e W2 ⟨rfl, hb1⟩
    have hb := hb.trans (hb1.mono hb.size)
    clear hb1 bb
    go_wp2
    go_ret
    exact ⟨by simp [ftB, ht0, ht1], hb⟩
  go_wp2_with fail
  refine HC1.out.mono ?_
  rintro e W2 ⟨rfl, hb1⟩
  have bb := bb.keep hb1
  have hb := hb.trans (hb1.mono hb.size)
  clear hb1 HC1
  have q0 : W2.cell? ⟨w.heap.size, 0, none⟩ = some (.slice a1 x.ps.length c1) := bb.2.1 0 _ rfl
  have q1 : W2.cell? ⟨w.heap.size, 1, none⟩ = some (.slice a2 x.rs.length c2) := bb.2.1 1 _ rfl
  clear bb
  go_wp2
  all_goals
    go_ret
    refine ⟨?_, hb⟩
    simp [ftB, ht0, ht1]
    try omega
set_option maxHeartbeats 4000000 in
theorem iglob_c (x : Glob) (a1 : Option Addr) (c1 : Nat) (w : World) (hI : Glob.Is 0 w x a1) (hl : Glob.LB 1048576 x) (hp : InsPos x.ini) :
    Calls Tryz.prog 56 #[.agg #[.int .i64 x.ty.ty, .bool x.ty.mu, .slice a1 x.ini.length c1]] w fun e w' => e = .returned (.bool (globB x)) ∧ Below w.heap.size w w' := by
  have l2 := hl
  have r1 := hI
  clear hI
  have R1 := Hid.mk' r1
  clear r1
  go_enter Tryz.func56, Tryz.ntmps56
  go_upto_region 1 with fail
  refine wp_gen (fun W => Bk W w.heap.size [.int .i64 x.ty.ty, .bool x.ty.mu, .slice a1 x.ini.length c1] ∧ Below w.heap.size w W) ⟨Bk.new, (Below.refl _ _).alloc (Nat.le_refl _) _⟩ ?_
  rintro W ⟨bb, hb⟩
  have q0 : W.cell? ⟨w.heap.size, 0, none⟩ = some (.int .i64 x.ty.ty) := bb.2.1 0 _ rfl
  have q1 : W.cell? ⟨w.heap.size, 1, none⟩ = some (.bool x.ty.mu) := bb.2.1 1 _ rfl
  have q2 : W.cell? ⟨w.heap.size, 2, none⟩ = some (.slice a1 x.ini.length c1) := bb.2.1 2 _ rfl
  have HC0 := Hid.mk' (igt_c x.ty W)
  generalize ht0 : tyB x.ty.ty = t0 at HC0
  cases t0
  · go_wp2_with fail
    refine HC0.out.mono ?_
    rintro e W1 ⟨rfl, hb0⟩
    have hb := hb.trans (hb0.mono hb.size)
    clear hb0 bb
    go_wp2
    go_ret
    exact ⟨by simp [globB, ht0], hb⟩
  go_wp2_with fail
  refine HC0.out.mono ?_
  rintro e W1 ⟨rfl, hb0⟩
  have bb := bb.keep hb0
  have hb := hb.trans (hb0.mono hb.size)
  clear hb0 HC0
  have q0 : W1.cell? ⟨w.heap.size, 0, none⟩ = some (.int .i64 x.ty.ty) := bb.2.1 0 _ rfl
  have q1 : W1.cell? ⟨w.heap.size, 1, none⟩ = some (.bool x.ty.mu) := bb.2.1 1 _ rfl
  have q2 : W1.cell? ⟨w.heap.size, 2, none⟩ = some (.slice a1 x.ini.length c1) := bb.2.1 2 _ rfl
  have HC1 := Hid.mk' (clo a1 c1 x.ini W1 l2 hp (R1.out.up (up_below hb)))
  generalize ht1 : closedM x.ini = t1 at HC1
  go_wp2_with fail
  refine HC1.out.mono ?_
  rintro e W2 ⟨rfl, hb1⟩
  have hb := hb.trans (hb1.mono hb.size)
  clear hb1 bb
  go_wp2
  all_goals
    go_ret
    refine ⟨?_, hb⟩
    simp [globB, ht0, ht1]
set_option maxHeartbeats 4000000 in
theorem iexp_c (x : Exp) (w : World) (hI : Exp.Is 0 w x) (hl : Exp.LB 1048576 x) :
    Calls Tryz.prog 58 #[.agg #[.string x.nm, .int .i64 x.kind, .int .i64 x.ix]] w fun e w' => e = .returned (.bool (expB x)) ∧ Below w.heap.size w w' := by
  have l0 : x.nm.size ≤ 1048576 := hl
  go_enter Tryz.func58, Tryz.ntmps58
  go_upto_region 1 with fail
  refine wp_gen (fun W => Bk W w.heap.size [.string x.nm, .int .i64 x.kind, .int .i64 x.ix] ∧ Below w.heap.size w W) ⟨Bk.new, (Below.refl _ _).alloc (Nat.le_refl _) _⟩ ?_
  rintro W ⟨bb, hb⟩
  have q0 : W.cell? ⟨w.heap.size, 0, none⟩ = some (.string x.nm) := bb.2.1 0 _ rfl
  have q1 : W.cell? ⟨w.heap.size, 1, none⟩ = some (.int .i64 x.kind) := bb.2.1 1 _ rfl
  have q2 : W.cell? ⟨w.heap.size, 2, none⟩ = some (.int .i64 x.ix) := bb.2.1 2 _ rfl
  have HC0 := Hid.mk' (iname_ok x.nm W l0)
  generalize ht0 : nameB x.nm = t0 at HC0
  cases t0
  · go_wp2_with fail
    refine HC0.out.mono ?_
    rintro e W1 ⟨rfl, hb0⟩
    have hb := hb.trans (hb0.mono hb.size)
    clear hb0 bb
    go_wp2
    go_ret
    exact ⟨by simp [expB, ht0], hb⟩
  go_wp2_with fail
  refine HC0.out.mono ?_
  rintro e W1 ⟨rfl, hb0⟩
  have bb := bb.keep hb0
  have hb := hb.trans (hb0.mono hb.size)
  clear hb0 HC0
  have q0 : W1.cell? ⟨w.heap.size, 0, none⟩ = some (.string x.nm) := bb.2.1 0 _ rfl
  have q1 : W1.cell? ⟨w.heap.size, 1, none⟩ = some (.int .i64 x.kind) := bb.2.1 1 _ rfl
  have q2 : W1.cell? ⟨w.heap.size, 2, none⟩ = some (.int .i64 x.ix) := bb.2.1 2 _ rfl
  have HC1 := Hid.mk' (same_below (ikind_c x.kind W1))
  generalize ht1 : kindB x.kind = t1 at HC1
  cases t1
  · go_wp2_with fail
    refine HC1.out.mono ?_
    rintro e W2 ⟨rfl, hb1⟩
    have hb := hb.trans (hb1.mono hb.size)
    clear hb1 bb
    go_wp2
    go_ret
    exact ⟨by simp [expB, ht0, ht1], hb⟩
  go_wp2_with fail
  refine HC1.out.mono ?_
  rintro e W2 ⟨rfl, hb1⟩
  have bb := bb.keep hb1
  have hb := hb.trans (hb1.mono hb.size)
  clear hb1 HC1
  have q0 : W2.cell? ⟨w.heap.size, 0, none⟩ = some (.string x.nm) := bb.2.1 0 _ rfl
  have q1 : W2.cell? ⟨w.heap.size, 1, none⟩ = some (.int .i64 x.kind) := bb.2.1 1 _ rfl
  have q2 : W2.cell? ⟨w.heap.size, 2, none⟩ = some (.int .i64 x.ix) := bb.2.1 2 _ rfl
  have HC2 := Hid.mk' (same_below (iu32_c x.ix W2))
  generalize ht2 : u32B x.ix = t2 at HC2
  go_wp2_with fail
  refine HC2.out.mono ?_
  rintro e W3 ⟨rfl, hb2⟩
  have hb := hb.trans (hb2.mono hb.size)
  clear hb2 bb
  go_wp2
  all_goals
    go_ret
    refine ⟨?_, hb⟩
    simp [expB, ht0, ht1, ht2]
set_option maxHeartbeats 4000000 in
theorem iele_c (x : Ele) (a1 : Option Addr) (c1 : Nat) (a2 : Option Addr) (c2 : Nat) (w : World) (hI : Ele.Is 0 w x a1 a2) (hl : Ele.LB 1048576 x) (hp : InsPos x.off) :
    Calls Tryz.prog 61 #[.agg #[.slice a1 x.off.length c1, .slice a2 x.fs.length c2]] w fun e w' => e = .returned (.bool (eleB x)) ∧ Below w.heap.size w w' := by
  obtain ⟨l0, l1⟩ := hl
  obtain ⟨r1, r2⟩ := hI
  have R1 := Hid.mk' r1
  have R2 := Hid.mk' r2
  clear r1 r2
  go_enter Tryz.func61, Tryz.ntmps61
  go_upto_region 1 with fail
  refine wp_gen (fun W => Bk W w.heap.size [.slice a1 x.off.length c1, .slice a2 x.fs.length c2] ∧ Below w.heap.size w W) ⟨Bk.new, (Below.refl _ _).alloc (Nat.le_refl _) _⟩ ?_
  rintro W ⟨bb, hb⟩
  have q0 : W.cell? ⟨w.heap.size, 0, none⟩ = some (.slice a1 x.off.length c1) := bb.2.1 0 _ rfl
  have q1 : W.cell? ⟨w.heap.size, 1, none⟩ = some (.slice a2 x.fs.length c2) := bb.2.1 1 _ rfl
  have HC0 := Hid.mk' (clo a1 c1 x.off W l0 hp (R1.out.up (up_below hb)))
  generalize ht0 : closedM x.off = t0 at HC0
  cases t0
  · go_wp2_with fail
    refine HC0.out.mono ?_
    rintro e W1 ⟨rfl, hb0⟩
    have hb := hb.trans (hb0.mono hb.size)
    clear hb0 bb
    go_wp2
    go_ret
    exact ⟨by simp [eleB, ht0], hb⟩
  go_wp2_with fail
  refine HC0.out.mono ?_
  rintro e W1 ⟨rfl, hb0⟩
  have bb := bb.keep hb0
  have hb := hb.trans (hb0.mono hb.size)
  clear hb0 HC0
  have q0 : W1.cell? ⟨w.heap.size, 0, none⟩ = some (.slice a1 x.off.length c1) := bb.2.1 0 _ rfl
  have q1 : W1.cell? ⟨w.heap.size, 1, none⟩ = some (.slice a2 x.fs.length c2) := bb.2.1 1 _ rfl
  have HC1 := Hid.mk' (same_below (allAre_c a2 c2 x.fs W1 (by omega) (R2.out.up (up_below hb)).has))
  generalize ht1 : x.fs.all u32B = t1 at HC1
  go_wp2_with fail
  refine HC1.out.mono ?_
  rintro e W2 ⟨rfl, hb1⟩
  have hb := hb.trans (hb1.mono hb.size)
  clear hb1 bb
  go_wp2
  all_goals
    go_ret
    refine ⟨?_, hb⟩
    simp [eleB, ht0, ht1]
set_option maxHeartbeats 4000000 in
theorem idat_c (x : Dat) (a1 : Option Addr) (c1 : Nat) (a2 : Option Addr) (c2 : Nat) (w : World) (hI : Dat.Is 0 w x a1 a2) (hl : Dat.LB 1048576 x) (hp : InsPos x.off) :
    Calls Tryz.prog 65 #[.agg #[.slice a1 x.off.length c1, .slice a2 x.bs.length c2]] w fun e w' => e = .returned (.bool (datB x)) ∧ Below w.heap.size w w' := by
  obtain ⟨l0, l1⟩ := hl
  obtain ⟨r1, r2⟩ := hI
  have R1 := Hid.mk' r1
  have R2 := Hid.mk' r2
  clear r1 r2
  go_enter Tryz.func65, Tryz.ntmps65
  go_upto_region 1 with fail
  refine wp_gen (fun W => Bk W w.heap.size [.slice a1 x.off.length c1, .slice a2 x.bs.length c2] ∧ Below w.heap.size w W) ⟨Bk.new, (Below.refl _ _).alloc (Nat.le_refl _) _⟩ ?_
  rintro W ⟨bb, hb⟩
  have q0 : W.cell? ⟨w.heap.size, 0, none⟩ = some (.slice a1 x.off.length c1) := bb.2.1 0 _ rfl
  have q1 : W.cell? ⟨w.heap.size, 1, none⟩ = some (.slice a2 x.bs.length c2) := bb.2.1 1 _ rfl
  have HC0 := Hid.mk' (clo a1 c1 x.off W l0 hp (R1.out.up (up_below hb)))
  generalize ht0 : closedM x.off = t0 at HC0
  go_wp2_with fail
  refine HC0.out.mono ?_
  rintro e W1 ⟨rfl, hb0⟩
  have hb := hb.trans (hb0.mono hb.size)
  clear hb0 bb
  go_wp2
  all_goals
    go_ret
    refine ⟨?_, hb⟩
    simp [datB, ht0]
end Go.Proofs.YtdbmolambolmgaaGreat
