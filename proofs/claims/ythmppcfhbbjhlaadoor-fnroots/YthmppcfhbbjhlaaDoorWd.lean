import Derived.Test.YthmppcfhbbjhlaaDoorWdM
import Derived.Test.YthmppcfhbbjhlaaDoorLen
import Derived.Test.YthmppcfhbbjhlaaDoorSpec1
import Derived.Laws.Externs
import Derived.Deep.CutRange
import Derived.Deep.RegionWith
import Derived.Lib.QuietBelow
import Derived.ChangeKeysEq
import Derived.Test.YthmppcfhbbjhlaaDoorGen
set_option linter.all false
namespace Go.Proofs.YthmppcfhbbjhlaaDoor
open Go.RowKit Go.Sort

set_option maxHeartbeats 1000000 in
theorem length_hi (lo hi : Int) (w : World) (h0 : 0 < hi) (h1 : hi ≤ 18446744073709551615) :
    Calls Tryd.prog 103 #[WV lo hi] w fun e w' => e = .returned (.int .i64 (64 + (Lib.bitLen hi.toNat : Int))) ∧ Below w.heap.size w w' := by
  have hn : hi ≠ 0 := by omega
  have hl := Lib.bitLen_le hi.toNat 64 (by omega) (by omega)
  go_enter Tryd.func103, Tryd.ntmps103
  go_wp2_with (go_at_call 109; refine (len64_any _ _ (by omega) (by omega)).mono ?_; rintro e w' ⟨rfl, rfl⟩)
  go_ret
  exact ⟨rfl, by repeat (first | exact Below.refl _ _ | refine Below.setCell ?_ (by simp) _ | refine Below.alloc ?_ (by simp) _)⟩
set_option maxHeartbeats 1000000 in
theorem length_lo (lo : Int) (w : World) (h0 : 0 ≤ lo) (h1 : lo ≤ 18446744073709551615) :
    Calls Tryd.prog 103 #[WV lo 0] w fun e w' => e = .returned (.int .i64 (Lib.bitLen lo.toNat : Int)) ∧ Below w.heap.size w w' := by
  go_enter Tryd.func103, Tryd.ntmps103
  go_wp2_with (go_at_call 109; refine (len64_any _ _ (by omega) (by omega)).mono ?_; rintro e w' ⟨rfl, rfl⟩)
  go_ret
  exact ⟨rfl, by repeat (first | exact Below.refl _ _ | refine Below.setCell ?_ (by simp) _ | refine Below.alloc ?_ (by simp) _)⟩
theorem hi_lt {s : Nat} (hs : s < 340282366920938463463374607431768211456) : s / 18446744073709551616 < 18446744073709551616 := by rw [Nat.div_lt_iff_lt_mul (by decide)]; exact hs
theorem length_any (s : Nat) (w : World) (hs : s < 340282366920938463463374607431768211456) :
    Calls Tryd.prog 103 #[W2 s] w fun e w' => e = .returned (.int .i64 (bl s : Int)) ∧ Below w.heap.size w w' := by
  have h2 := hi_lt hs
  by_cases h : s / 18446744073709551616 = 0
  · have hlt : s < 18446744073709551616 := by omega
    have hL : Calls Tryd.prog 103 #[W2 s] w fun e w' => e = .returned (.int .i64 (Lib.bitLen s : Int)) ∧ Below w.heap.size w w' := by
      have := length_lo (s : Int) w (by omega) (by omega)
      rw [W2, h, Nat.mod_eq_of_lt hlt]
      simpa using this
    refine hL.mono ?_
    rintro e w' ⟨rfl, hb⟩
    rw [bitLen_bl 64 s hlt (by omega)]
    exact ⟨rfl, hb⟩
  · refine (length_hi _ ((s / 18446744073709551616 : Nat) : Int) w (by omega) (by omega)).mono ?_
    rintro e w' ⟨rfl, hb⟩
    refine ⟨?_, hb⟩
    have e1 : ((s / 18446744073709551616 : Nat) : Int).toNat = s / 18446744073709551616 := by omega
    rw [e1, bitLen_bl 64 (s / 18446744073709551616) h2 (by omega)]
    have e2 := bl_div s 64
    have e3 := bl_pos h
    have e4 : s / 18446744073709551616 = s / 2 ^ 64 := rfl
    rw [← e4] at e2
    congr 2
    omega

theorem info22 : (Tryd.prog.info? 22).map (fun i => (i.zero, i.size, i.bytes)) = some (some (.int .u64 0), 1, 8) := by kernel_rfl
theorem eqW (w : World) (a b c d : Int) : (Op.equalIn 10000 61 (WV a b) (WV c d)).run Tryd.prog w = .ok (a == c && b == d) w := by
  obtain ⟨i0, hi, hz0, hz1, hz2⟩ := info_parts info22
  have hu : Tryd.prog.underlying 22 = some (.int .u64) := Tryd.underlying22
  have h1 := run_equalIn_array w 9999 #[.int .u64 a, .int .u64 b] #[.int .u64 c, .int .u64 d] Tryd.underlying61 hi
  have hc : Tryd.prog.cellsOf 22 = 1 := by kernel_rfl
  refine h1.trans ?_
  rw [hc]
  have e : List.range 2 = [0, 1] := rfl
  rw [e]
  have hp : ∀ (xs : Array Value) (i : Nat) (v : Value), xs[i]? = some v → (part 22 xs i).run Tryd.prog w = .ok v w := by
    intro xs i v h
    simp [part, isAgg, go_sem, run_underlying hu, h]
  have hq : ∀ x y : Int, (Op.equalIn 9999 22 (.int .u64 x) (.int .u64 y)).run Tryd.prog w = .ok (x == y) w := fun x y => run_equalIn_int w 9998 22 .u64 .u64 x y hu
  have p0 : ∀ x y : Int, (part 22 #[.int .u64 x, .int .u64 y] (0 * 1)).run Tryd.prog w = .ok (.int .u64 x) w := fun x y => hp _ _ _ rfl
  have p1' : ∀ x y : Int, (part 22 #[.int .u64 x, .int .u64 y] 1).run Tryd.prog w = .ok (.int .u64 y) w := fun x y => hp _ _ _ rfl
  simp only [Op.eqItems, Sem.run_bind, p0, Result.andThen_ok, hq]
  cases a == c <;> cases hbd : b == d <;> simp [p1', hq, hbd]

set_option maxHeartbeats 1000000 in
theorem isZero_any (s : Nat) (w : World) (hs : s < 340282366920938463463374607431768211456) :
    Calls Tryd.prog 102 #[W2 s] w fun e w' => e = .returned (.bool (decide (s = 0))) ∧ Below w.heap.size w w' := by
  have key : ∀ lo hi : Int, decide (s = 0) = (lo == 0 && hi == 0) → Calls Tryd.prog 102 #[WV lo hi] w fun e w' => e = .returned (.bool (decide (s = 0))) ∧ Below w.heap.size w w' := by
    intro lo hi hk
    rw [hk]
    clear hk hs
    have hE := eqW
    go_enter Tryd.func102, Tryd.ntmps102
    go_wp2
    go_ret
    exact ⟨rfl, by repeat (first | exact Below.refl _ _ | refine Below.setCell ?_ (by simp) _ | refine Below.alloc ?_ (by simp) _)⟩
  refine key _ _ ?_
  rw [Bool.eq_iff_iff]
  simp
  omega

set_option maxHeartbeats 1000000 in
theorem up_ge (lo hi n : Int) (w : World) (h0 : 64 ≤ n) (h1 : n ≤ 100000) :
    Calls Tryd.prog 104 #[WV lo hi, .int .i64 n] w fun e w' => e = .returned (WV 0 (IntKind.u64.wrap (lo * 2 ^ min (n - 64).toNat 64))) ∧ Below w.heap.size w w' := by
  have t0 : ¬ n < 64 := by omega
  go_enter Tryd.func104, Tryd.ntmps104
  go_wp2
  exact bodyPost_ret (v := WV _ _) (by simp [results, Tryd.results104, go_sem]) rfl ⟨rfl, by repeat (first | exact Below.refl _ _ | refine Below.setCell ?_ (by simp) _ | refine Below.alloc ?_ (by simp) _)⟩
set_option maxHeartbeats 1000000 in
theorem up_lt (lo hi n : Int) (w : World) (h0 : n < 64) (h1 : 0 ≤ n) (l0 : 0 ≤ lo) (l1 : lo ≤ 18446744073709551615) :
    Calls Tryd.prog 104 #[WV lo hi, .int .i64 n] w fun e w' => e = .returned (WV (IntKind.u64.wrap (lo * 2 ^ n.toNat)) (bits .or .u64 (IntKind.u64.wrap (hi * 2 ^ n.toNat)) (lo / 2 ^ (64 - n).toNat))) ∧ Below w.heap.size w w' := by
  go_enter Tryd.func104, Tryd.ntmps104
  go_wp2
  go_region
  go_wp2
  exact bodyPost_ret (v := WV _ _) (by simp [results, Tryd.results104, go_sem]) rfl ⟨rfl, by repeat (first | exact Below.refl _ _ | refine Below.setCell ?_ (by simp) _ | refine Below.alloc ?_ (by simp) _ | refine Below.drew ?_)⟩
theorem pow_cast (n : Nat) : ((2 ^ n : Nat) : Int) = (2 : Int) ^ n := by simp
theorem wrap_mul (a n : Nat) : IntKind.u64.wrap ((a : Int) * 2 ^ n) = ((a * 2 ^ n % 18446744073709551616 : Nat) : Int) := by
  rw [IntKind.wrap_u64, ← pow_cast, ← Int.natCast_mul]; omega
theorem div_cast (a n : Nat) : (a : Int) / 2 ^ n = ((a / 2 ^ n : Nat) : Int) := by
  rw [← pow_cast, ← Int.natCast_ediv]
theorem up_any (s : Nat) (n : Int) (w : World) (h0 : 0 ≤ n) (h1 : n ≤ 100000) :
    Calls Tryd.prog 104 #[W2 s, .int .i64 n] w fun e w' => e = .returned (W2 (s * 2 ^ n.toNat % 340282366920938463463374607431768211456)) ∧ Below w.heap.size w w' := by
  by_cases h : 64 ≤ n
  · refine (up_ge _ _ n w h h1).mono ?_
    rintro e w' ⟨rfl, hb⟩
    refine ⟨?_, hb⟩
    have e1 : n.toNat = (n - 64).toNat + 64 := by omega
    rw [e1, up_ge_m, wrap_mul]
    generalize s % 18446744073709551616 * 2 ^ min (n - 64).toNat 64 % 18446744073709551616 = z
    have : z * 1 = z := by omega
    rw [W2, Nat.mul_mod_right, Nat.mul_div_cancel_left _ (by decide)]
    rfl
  · have hlo : s % 18446744073709551616 < 18446744073709551616 := Nat.mod_lt _ (by decide)
    refine (up_lt _ _ n w (by omega) h0 (by omega) (by omega)).mono ?_
    rintro e w' ⟨rfl, hb⟩
    refine ⟨?_, hb⟩
    have hm := up_lt_m s n.toNat (by omega)
    have e1 : (64 - n).toNat = 64 - n.toNat := by omega
    have hq : s % 18446744073709551616 / 2 ^ (64 - n.toNat) < 18446744073709551616 := Nat.lt_of_le_of_lt (Nat.div_le_self _ _) hlo
    rw [W2, hm.1, hm.2, e1, wrap_mul, wrap_mul, div_cast, bits_or_u64_nat _ _ (Nat.mod_lt _ (by decide)) hq]

set_option maxHeartbeats 1000000 in
theorem down_ge (lo hi n : Int) (w : World) (h0 : 64 ≤ n) (h1 : n ≤ 100000) (l0 : 0 ≤ hi) (l1 : hi ≤ 18446744073709551615) :
    Calls Tryd.prog 99 #[WV lo hi, .int .i64 n] w fun e w' => e = .returned (WV (hi / 2 ^ min (n - 64).toNat 64) 0) ∧ Below w.heap.size w w' := by
  have t0 : ¬ n < 64 := by omega
  go_enter Tryd.func99, Tryd.ntmps99
  go_wp2
  exact bodyPost_ret (v := WV _ _) (by simp [results, Tryd.results99, go_sem]) rfl ⟨rfl, by repeat (first | exact Below.refl _ _ | refine Below.setCell ?_ (by simp) _ | refine Below.alloc ?_ (by simp) _ | refine Below.drew ?_)⟩
set_option maxHeartbeats 1000000 in
theorem down_lt (lo hi n : Int) (w : World) (h0 : n < 64) (h1 : 0 ≤ n) (l0 : 0 ≤ lo) (l1 : lo ≤ 18446744073709551615) (m0 : 0 ≤ hi) (m1 : hi ≤ 18446744073709551615) :
    Calls Tryd.prog 99 #[WV lo hi, .int .i64 n] w fun e w' => e = .returned (WV (bits .or .u64 (lo / 2 ^ n.toNat) (IntKind.u64.wrap (hi * 2 ^ (64 - n).toNat))) (hi / 2 ^ n.toNat)) ∧ Below w.heap.size w w' := by
  go_enter Tryd.func99, Tryd.ntmps99
  go_wp2
  go_region
  go_wp2
  exact bodyPost_ret (v := WV _ _) (by simp [results, Tryd.results99, go_sem]) rfl ⟨rfl, by repeat (first | exact Below.refl _ _ | refine Below.setCell ?_ (by simp) _ | refine Below.alloc ?_ (by simp) _ | refine Below.drew ?_)⟩
theorem down_any (s : Nat) (n : Int) (w : World) (hs : s < 340282366920938463463374607431768211456) (h0 : 0 ≤ n) (h1 : n ≤ 100000) :
    Calls Tryd.prog 99 #[W2 s, .int .i64 n] w fun e w' => e = .returned (W2 (s / 2 ^ n.toNat)) ∧ Below w.heap.size w w' := by
  have hlo : s % 18446744073709551616 < 18446744073709551616 := Nat.mod_lt _ (by decide)
  have hhi := hi_lt hs
  by_cases h : 64 ≤ n
  · refine (down_ge _ _ n w h h1 (by omega) (by omega)).mono ?_
    rintro e w' ⟨rfl, hb⟩
    refine ⟨?_, hb⟩
    have e1 : n.toNat = (n - 64).toNat + 64 := by omega
    rw [e1, down_ge_m s _ hs, div_cast]
    have hq : s / 18446744073709551616 / 2 ^ min (n - 64).toNat 64 < 18446744073709551616 := Nat.lt_of_le_of_lt (Nat.div_le_self _ _) hhi
    rw [W2, Nat.mod_eq_of_lt hq, Nat.div_eq_of_lt hq]
    rfl
  · refine (down_lt _ _ n w (by omega) h0 (by omega) (by omega) (by omega) (by omega)).mono ?_
    rintro e w' ⟨rfl, hb⟩
    refine ⟨?_, hb⟩
    have hm := down_lt_m s n.toNat (by omega)
    have e1 : (64 - n).toNat = 64 - n.toNat := by omega
    have hq : s % 18446744073709551616 / 2 ^ n.toNat < 18446744073709551616 := Nat.lt_of_le_of_lt (Nat.div_le_self _ _) hlo
    rw [W2, hm.1, hm.2, e1, wrap_mul, div_cast, div_cast, bits_or_u64_nat _ _ hq (Nat.mod_lt _ (by decide))]

theorem beqW (s t : Nat) : (((s % 18446744073709551616 : Nat) : Int) == ((t % 18446744073709551616 : Nat) : Int) && ((s / 18446744073709551616 : Nat) : Int) == ((t / 18446744073709551616 : Nat) : Int)) = decide (s = t) := by
  rw [Bool.eq_iff_iff]
  simp only [Bool.and_eq_true, beq_iff_eq, decide_eq_true_eq]
  constructor
  · rintro ⟨h1, h2⟩; exact two_inj (by omega) (by omega)
  · rintro rfl; exact ⟨rfl, rfl⟩
theorem neqW (w : World) (s t : Nat) : (binOp .neq 61 (W2 s) (W2 t)).run Tryd.prog w = .ok (.bool (decide (s ≠ t))) w := by
  rw [run_neq_struct, eqW, beqW]
  simp
theorem eqlW (w : World) (s t : Nat) : (binOp .eql 61 (W2 s) (W2 t)).run Tryd.prog w = .ok (.bool (decide (s = t))) w := by
  rw [run_eql_struct, eqW, beqW]
  simp

set_option maxHeartbeats 1000000 in
theorem hasBelow_key (s0 s1 d0 d1 u0 u1 n : Int) (b : Bool) (w : World)
    (KD : ∀ w, Hid (Calls Tryd.prog 99 #[WV s0 s1, .int .i64 n] w fun e w' => e = .returned (WV d0 d1) ∧ Below w.heap.size w w'))
    (KU : ∀ w, Hid (Calls Tryd.prog 104 #[WV d0 d1, .int .i64 n] w fun e w' => e = .returned (WV u0 u1) ∧ Below w.heap.size w w'))
    (KN : ∀ w, (binOp .neq 61 (WV u0 u1) (WV s0 s1)).run Tryd.prog w = .ok (.bool b) w) :
    Calls Tryd.prog 107 #[WV s0 s1, .int .i64 n] w fun e w' => e = .returned (.bool b) ∧ Below w.heap.size w w' := by
  go_enter Tryd.func107, Tryd.ntmps107
  go_upto_region 1 with fail
  refine wp_gen (fun wc => wc.cell? ⟨w.heap.size, 0, none⟩ = some (.int .u64 s0) ∧ wc.cell? ⟨w.heap.size, 1, none⟩ = some (.int .u64 s1) ∧ Below w.heap.size w wc) ⟨cell_new rfl rfl, cell_new rfl rfl, (Below.refl _ _).alloc (Nat.le_refl _) _⟩ ?_
  rintro w4 ⟨q0, q1, hw4⟩
  have kq0 := cell_regrown q0
  have kq1 := cell_regrown q1
  have cD : ∀ d os, Calls Tryd.prog 99 #[WV s0 s1, .int .i64 n] (grow (redrawn w4 d) os) fun e w'' => e = .returned (WV d0 d1) ∧ ∃ p : Regrown, w'' = grow (redrawn w4 p.d) p.os := fun d os => Calls.regrown_of (KD _).out
  have cU : ∀ d os, Calls Tryd.prog 104 #[WV d0 d1, .int .i64 n] (grow (redrawn w4 d) os) fun e w'' => e = .returned (WV u0 u1) ∧ ∃ p : Regrown, w'' = grow (redrawn w4 p.d) p.os := fun d os => Calls.regrown_of (KU _).out
  have HW := Hid.mk' hw4
  clear hw4 KD KU
  refine wp_region_quiet_below (by kernel_rfl) (by kernel_rfl) ?_
  repeat (quiet_step (first | exact cD _ _ | exact cU _ _))
  refine wpQuiet_nil ?_
  intro _ hw'
  obtain ⟨⟨dq, osq⟩, hw''⟩ := hw'
  subst hw''
  have hw5 := HW.out.trans ((below_regrown w4 dq osq).mono HW.out.size)
  show Exit.then _ _ Exit.normal _ (grow (redrawn w4 dq) osq)
  go_wp2
  go_ret
  exact ⟨rfl, hw5⟩
theorem hasBelow_any (s : Nat) (n : Int) (w : World) (hs : s < 340282366920938463463374607431768211456) (h0 : 0 ≤ n) (h1 : n ≤ 100000) :
    Calls Tryd.prog 107 #[W2 s, .int .i64 n] w fun e w' => e = .returned (.bool (decide (s % 2 ^ n.toNat ≠ 0))) ∧ Below w.heap.size w w' := by
  have KE : decide (s / 2 ^ n.toNat * 2 ^ n.toNat % 340282366920938463463374607431768211456 ≠ s) = decide (s % 2 ^ n.toNat ≠ 0) := by
    rw [decide_eq_decide, Ne, Ne, updown_ne s n.toNat hs]
  rw [← KE]
  exact hasBelow_key _ _ _ _ _ _ n _ w (fun w => down_any s n w hs h0 h1) (fun w => up_any (s / 2 ^ n.toNat) n w h0 h1) (fun w => neqW w _ s)

set_option maxHeartbeats 1000000 in
theorem mark_true (lo hi : Int) (w : World) :
    Calls Tryd.prog 83 #[WV lo hi, .bool true] w fun e w' => e = .returned (WV (bits .or .u64 lo 1) hi) ∧ Below w.heap.size w w' := by
  go_enter Tryd.func83, Tryd.ntmps83
  go_wp2
  exact bodyPost_ret (v := WV _ _) (by simp [results, Tryd.results83, go_sem]) rfl ⟨rfl, by repeat (first | exact Below.refl _ _ | refine Below.setCell ?_ (by simp) _ | refine Below.alloc ?_ (by simp) _ | refine Below.drew ?_)⟩
set_option maxHeartbeats 1000000 in
theorem mark_false (lo hi : Int) (w : World) :
    Calls Tryd.prog 83 #[WV lo hi, .bool false] w fun e w' => e = .returned (WV lo hi) ∧ Below w.heap.size w w' := by
  go_enter Tryd.func83, Tryd.ntmps83
  go_wp2
  exact bodyPost_ret (v := WV _ _) (by simp [results, Tryd.results83, go_sem]) rfl ⟨rfl, by repeat (first | exact Below.refl _ _ | refine Below.setCell ?_ (by simp) _ | refine Below.alloc ?_ (by simp) _ | refine Below.drew ?_)⟩

theorem add64_run (x y c : Nat) (hc : c ≤ 1) (w : World) :
    (callFunc 108 #[.int .u64 x, .int .u64 y, .int .u64 c]).run Tryd.prog w =
      .ok (.value (.tuple #[.int .u64 (((x + y + c) % 18446744073709551616 : Nat) : Int), .int .u64 (((x + y + c) / 18446744073709551616 : Nat) : Int)])) w := by
  rw [run_callFunc_extern Tryd.func108 (by kernel_rfl) (by kernel_rfl) (by kernel_rfl) (e := add64Entry) (by kernel_rfl), run_add64 x y c (by omega) (by omega) (by omega) (by omega)]
  simp only [Result.andThen]
  congr 5 <;> omega
end Go.Proofs.YthmppcfhbbjhlaaDoor
