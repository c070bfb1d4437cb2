import Derived.Test.YthmppcfhbbjhlaaDoorWd
set_option linter.all false
namespace Go.Proofs.YthmppcfhbbjhlaaDoor
open Go.RowKit Go.Sort

set_option maxHeartbeats 1000000 in
theorem add_key (a0 a1 b0 b1 l h c1 c2 : Int) (w : World)
    (K1 : ∀ w, (callFunc 108 #[.int .u64 a0, .int .u64 b0, .int .u64 0]).run Tryd.prog w = .ok (.value (.tuple #[.int .u64 l, .int .u64 c1])) w)
    (K2 : ∀ w, (callFunc 108 #[.int .u64 a1, .int .u64 b1, .int .u64 c1]).run Tryd.prog w = .ok (.value (.tuple #[.int .u64 h, .int .u64 c2])) w) :
    Calls Tryd.prog 101 #[WV a0 a1, WV b0 b1] w fun e w' => e = .returned (WV l h) ∧ Below w.heap.size w w' := by
  go_enter Tryd.func101, Tryd.ntmps101
  go_wp2
  exact bodyPost_ret (v := WV _ _) (by simp [results, Tryd.results101, go_sem]) rfl ⟨rfl, by repeat (first | exact Below.refl _ _ | refine Below.setCell ?_ (by simp) _ | refine Below.alloc ?_ (by first | (simp; done) | (simp; omega)) _ | refine Below.drew ?_)⟩
theorem add_any (s t : Nat) (w : World) (hs : s < 340282366920938463463374607431768211456) (ht : t < 340282366920938463463374607431768211456) :
    Calls Tryd.prog 101 #[W2 s, W2 t] w fun e w' => e = .returned (W2 ((s + t) % 340282366920938463463374607431768211456)) ∧ Below w.heap.size w w' := by
  have h1 := hi_lt hs
  have h2 := hi_lt ht
  refine (add_key _ _ _ _ _ _ _ _ w (fun w => add64_run (s % 18446744073709551616) (t % 18446744073709551616) 0 (by omega) w) (fun w => add64_run (s / 18446744073709551616) (t / 18446744073709551616) ((s % 18446744073709551616 + t % 18446744073709551616 + 0) / 18446744073709551616) (by omega) w)).mono ?_
  rintro e w' ⟨rfl, hb⟩
  refine ⟨?_, hb⟩
  have e1 : (s + t) % 340282366920938463463374607431768211456 % 18446744073709551616 = (s % 18446744073709551616 + t % 18446744073709551616 + 0) % 18446744073709551616 := by omega
  have e2 : (s + t) % 340282366920938463463374607431768211456 / 18446744073709551616 = (s / 18446744073709551616 + t / 18446744073709551616 + (s % 18446744073709551616 + t % 18446744073709551616 + 0) / 18446744073709551616) % 18446744073709551616 := by omega
  rw [W2, e1, e2]

/-- A number: kind, sign, exponent, words. -/
abbrev NV (k : Int) (g : Bool) (x lo hi : Int) : Value := .agg #[.int .i64 k, .bool g, .int .i64 x, .int .u64 lo, .int .u64 hi]
abbrev N2 (k : Int) (g : Bool) (x : Int) (s : Nat) : Value := NV k g x ((s % 18446744073709551616 : Nat) : Int) ((s / 18446744073709551616 : Nat) : Int)

set_option maxHeartbeats 1000000 in
theorem nzero_key (k : Int) (g : Bool) (x lo hi : Int) (b : Bool) (w : World)
    (KZ : ∀ w, Hid (Calls Tryd.prog 102 #[WV lo hi] w fun e w' => e = .returned (.bool b) ∧ Below w.heap.size w w')) :
    Calls Tryd.prog 79 #[NV k g x lo hi] w fun e w' => e = .returned (.bool (decide (k = 0) && b)) ∧ Below w.heap.size w w' := by
  by_cases hk : k = 0
  · subst hk
    go_enter Tryd.func79, Tryd.ntmps79
    go_wp2_with (go_at_call 102; refine (KZ _).out.mono ?_; rintro e w1 ⟨rfl, hb⟩)
    go_ret
    exact ⟨rfl, by repeat (first | exact hb | refine (Below.trans ?_ (hb.mono (by simp))) | exact Below.refl _ _ | refine Below.setCell ?_ (by simp) _ | refine Below.alloc ?_ (by first | (simp; done) | (simp; omega)) _ | refine Below.drew ?_)⟩
  · have e0 : (k == 0) = false := by simpa using hk
    have e1 : decide (k = 0) = false := by simpa using hk
    rw [e1]
    go_enter Tryd.func79, Tryd.ntmps79
    go_wp2
    go_ret
    exact ⟨rfl, by repeat (first | exact Below.refl _ _ | refine Below.setCell ?_ (by simp) _ | refine Below.alloc ?_ (by first | (simp; done) | (simp; omega)) _ | refine Below.drew ?_)⟩

theorem indexV (a b : Int) (w : World) : (Instr.index 61 (.agg #[.int .u64 a, .int .u64 b]) (.int .i64 0)).run Tryd.prog w = .ok (.int .u64 a) w := by kernel_rfl

def goes (mode : Int) (g half below odd : Bool) : Bool :=
  if mode = 1 then !g && (half || below) else if mode = 2 then g && (half || below) else if mode = 0 then half && (below || odd) else false

/-- What a boxed number holds behind a call that only makes new blocks. -/
def C5 (w : World) (g : Nat) (a b c d e : Value) : Prop :=
  (w.cell? ⟨g, 0, none⟩ = some a ∧ w.cell? ⟨g, 1, none⟩ = some b ∧ w.cell? ⟨g, 2, none⟩ = some c ∧ w.cell? ⟨g, 3, none⟩ = some d ∧ w.cell? ⟨g, 4, none⟩ = some e) ∧
  (w.frozen? ⟨g, 0, none⟩ = false ∧ w.frozen? ⟨g, 1, none⟩ = false ∧ w.frozen? ⟨g, 2, none⟩ = false ∧ w.frozen? ⟨g, 3, none⟩ = false ∧ w.frozen? ⟨g, 4, none⟩ = false)
theorem c5_new {w : World} {a b c d e : Value} {t : TypeId} : C5 (w.alloc (.cells #[a, b, c, d, e] t)) w.heap.size a b c d e :=
  ⟨⟨cell_new rfl rfl, cell_new rfl rfl, cell_new rfl rfl, cell_new rfl rfl, cell_new rfl rfl⟩, ⟨World.frozen?_alloc_new w _ t _, World.frozen?_alloc_new w _ t _, World.frozen?_alloc_new w _ t _, World.frozen?_alloc_new w _ t _, World.frozen?_alloc_new w _ t _⟩⟩
theorem C5.keep {w w1 : World} {g : Nat} {a b c d e : Value} (h : C5 w g a b c d e) (hb : Below w.heap.size w w1) : C5 w1 g a b c d e := by
  obtain ⟨⟨h0, h1, h2, h3, h4⟩, f0, f1, f2, f3, f4⟩ := h
  have hl := World.block_lt_of_cell? w _ h0
  exact ⟨⟨keepB h0 hb, keepB h1 hb, keepB h2 hb, keepB h3 hb, keepB h4 hb⟩, (hb.frozen (p := ⟨g, 0, none⟩) hl).trans f0, (hb.frozen (p := ⟨g, 1, none⟩) hl).trans f1, (hb.frozen (p := ⟨g, 2, none⟩) hl).trans f2, (hb.frozen (p := ⟨g, 3, none⟩) hl).trans f3, (hb.frozen (p := ⟨g, 4, none⟩) hl).trans f4⟩
theorem C5.past {w : World} {o : Obj} {g : Nat} {a b c d e : Value} (h : C5 w g a b c d e) : C5 (w.alloc o) g a b c d e :=
  h.keep ((Below.refl _ _).alloc (Nat.le_refl _) _)

theorem below_box {w w1 : World} {o : Obj} (hb : Below (w.alloc o).heap.size (w.alloc o) w1) : Below w.heap.size w w1 :=
  ((Below.refl _ _).alloc (Nat.le_refl _) _).trans (hb.mono (by simp))

set_option maxHeartbeats 4000000 in
theorem goes_key (mode k : Int) (g half below odd : Bool) (x s0 s1 n d0 d1 f0 f1 : Int) (w : World) (hm : 0 ≤ mode) (hm3 : mode ≤ 3) (hn0 : 1 ≤ n) (hn1 : n ≤ 100000)
    (KD : ∀ w, Hid (Calls Tryd.prog 99 #[WV s0 s1, .int .i64 (n - 1)] w fun e w' => e = .returned (WV d0 d1) ∧ Below w.heap.size w w'))
    (KF : ∀ w, Hid (Calls Tryd.prog 99 #[WV s0 s1, .int .i64 n] w fun e w' => e = .returned (WV f0 f1) ∧ Below w.heap.size w w'))
    (KB : ∀ w, Hid (Calls Tryd.prog 107 #[WV s0 s1, .int .i64 (n - 1)] w fun e w' => e = .returned (.bool below) ∧ Below w.heap.size w w'))
    (KH : (bits .and .u64 d0 1 == 1) = half) (KO : (bits .and .u64 f0 1 == 1) = odd) :
    Calls Tryd.prog 100 #[NV k g x s0 s1, .int .i64 n, .int .i64 mode] w fun e w' => e = .returned (.bool (goes mode g half below odd)) ∧ Below w.heap.size w w' := by
  have hix := indexV
  go_enter Tryd.func100, Tryd.ntmps100
  go_wp2_with fail
  refine (KD _).out.mono ?_
  rintro e w1 ⟨rfl, hb1⟩
  have hb1' := below_box hb1
  obtain ⟨⟨c0, c1, c2, c3, c4⟩, -⟩ := c5_new.keep hb1
  have HB1 := Hid.mk' hb1'
  clear hb1 hb1'
  go_wp2_with fail
  refine (KB _).out.mono ?_
  rintro e w2 ⟨rfl, hb2⟩
  have hb2' := HB1.out.trans (hb2.mono HB1.out.size)
  have q0 := keepB c0 hb2
  have q1 := keepB c1 hb2
  have q2 := keepB c2 hb2
  have q3 := keepB c3 hb2
  have q4 := keepB c4 hb2
  have HB2 := Hid.mk' hb2'
  clear hb2 hb2' HB1 c0 c1 c2 c3 c4
  have hms : mode = 0 ∨ mode = 1 ∨ mode = 2 ∨ mode = 3 := by omega
  clear hm hm3
  rcases hms with rfl | rfl | rfl | rfl
  · cases half <;> cases below
    · go_wp2
      go_ret
      exact ⟨rfl, HB2.out⟩
    · go_wp2
      go_ret
      exact ⟨rfl, HB2.out⟩
    · go_wp2_with fail
      refine (KF _).out.mono ?_
      rintro e w3 ⟨rfl, hb3⟩
      have HB3 := Hid.mk' (HB2.out.trans (hb3.mono HB2.out.size))
      clear hb3 HB2 q0 q1 q2 q3 q4
      go_wp2
      go_ret
      exact ⟨rfl, HB3.out⟩
    · go_wp2
      go_ret
      exact ⟨rfl, HB2.out⟩
  · cases g <;> cases half <;> go_wp2 <;> go_ret <;> exact ⟨rfl, HB2.out⟩
  · cases g <;> cases half <;> go_wp2 <;> go_ret <;> exact ⟨rfl, HB2.out⟩
  · go_wp2
    go_ret
    exact ⟨rfl, HB2.out⟩
theorem and_one (s : Nat) : (bits .and .u64 ((s % 18446744073709551616 : Nat) : Int) 1 == 1) = decide (s % 2 = 1) := by
  have h := bits_and_u64_nat (s % 18446744073709551616) 1 (Nat.mod_lt _ (by decide)) (by decide)
  rw [show ((1 : Nat) : Int) = 1 from rfl, Nat.and_one_is_mod] at h
  rw [h, Bool.eq_iff_iff]
  simp
  omega
theorem goes_any (mode k : Int) (g : Bool) (x n : Int) (s : Nat) (w : World) (hs : s < 340282366920938463463374607431768211456) (hm : 0 ≤ mode) (hm3 : mode ≤ 3) (hn0 : 1 ≤ n) (hn1 : n ≤ 100000) :
    Calls Tryd.prog 100 #[N2 k g x s, .int .i64 n, .int .i64 mode] w fun e w' => e = .returned (.bool (goes mode g (decide (s / 2 ^ (n.toNat - 1) % 2 = 1)) (decide (s % 2 ^ (n.toNat - 1) ≠ 0)) (decide (s / 2 ^ n.toNat % 2 = 1)))) ∧ Below w.heap.size w w' := by
  have e1 : (n - 1).toNat = n.toNat - 1 := by omega
  refine goes_key mode k g _ _ _ x _ _ n _ _ _ _ w hm hm3 hn0 hn1 (fun w => by rw [← e1]; exact down_any s (n - 1) w hs (by omega) (by omega)) (fun w => down_any s n w hs (by omega) (by omega)) (fun w => by rw [← e1]; exact hasBelow_any s (n - 1) w hs (by omega) (by omega)) (and_one _) (and_one _)
end Go.Proofs.YthmppcfhbbjhlaaDoor
