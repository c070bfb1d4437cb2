import Derived.Test.YthmppcfhbbjhlaaDoorDg
set_option linter.all false
namespace Go.Proofs.YthmppcfhbbjhlaaDoor
open Go.RowKit

abbrev UN (ds : List Nat) : List Value := ds.map fun d : Nat => Value.int .u64 (d : Int)
theorem info22 : (Tryd.prog.info? 22).map (fun i => (i.zero, i.size, i.bytes)) = some (some (.int .u64 0), 1, 8) := by kernel_rfl
theorem oneU (b : Int) : ∀ u ∈ [Value.int .u64 b], u.oneCell' = true := by
  intro u hu; simp at hu; subst hu; rfl
theorem below_push {B : Nat} {w wr w1 : World} {v : Value} {n : Nat} {xs : List Value} {o : Obj} (hown : wr.ownsRow B 22 1 v n xs) (hbel : Below B w wr) (hB : B ≤ wr.heap.size) (hgrow : (wr.alloc o).grownBy w1 v.ownBlock) : Below B w w1 :=
  (hbel.alloc hB o).grown hgrow (by simp; omega) (fun j hj => (hown.lt j hj).1)
theorem owns_push {B : Nat} {w1 : World} {v : Value} {pre : List Nat} {b : Nat} (h : w1.ownsRow B 22 1 v (pre.length + 1) (UN pre ++ [.int .u64 (b : Int)])) : w1.ownsRow B 22 1 v (pre ++ [b]).length (UN (pre ++ [b])) := by
  simpa using h
theorem own_hn {w : World} {B : Nat} {v : Value} {ds : List Nat} (h : w.ownsRow B 22 1 v ds.length (UN ds)) : ∃ a cap, v = .slice a ds.length cap ∧ ds.length ≤ cap ∧ Hn w a ds := by
  rcases id h with ⟨h1, ⟨rfl, h0⟩ | ⟨g, cap, cur, rfl, hB, hg, hn, r⟩⟩
  · refine ⟨none, 0, by rw [h0], by omega, .inl (List.eq_nil_of_length_eq_zero h0)⟩
  · refine ⟨some ⟨g, 0, none⟩, cap, rfl, hn, .inr ⟨g, 0, rfl, fun i hi => ?_⟩⟩
    rw [Nat.zero_add, h.cellAt i (by omega)]
    simp [List.getD, hi]
theorem trim_own {B : Nat} {v : Value} {ds : List Nat} (w : World) (x : Nat) (hl : ds.length ≤ 1099511627776) (h : w.ownsRow B 22 1 v ds.length (UN ds)) (hA : AllD ds) (hx : vl ds = x) :
    Calls Tryd.prog 98 #[v] w fun e w' => (∃ v', e = .returned v' ∧ SN w v' x) ∧ w = w' := by
  obtain ⟨a, cap, rfl, hc, hH⟩ := own_hn h
  refine (trim_any a cap ds w hA hc hl hH).mono ?_
  rintro e w' ⟨⟨a', rfl, hh⟩, rfl⟩
  rw [hx] at hh ⊢
  exact ⟨⟨_, rfl, a', cap, rfl, hh⟩, rfl⟩
theorem at_nat (v : Value) (x i : Nat) (w : World) (hx : bl x ≤ 20000) (hS : SN w v x) (hi : i ≤ 1000000) :
    Calls Tryd.prog 74 #[v, .int .i64 (i : Int)] w fun e w' => e = .returned (.int .u64 ((x / 4294967296 ^ i % 4294967296 : Nat) : Int)) ∧ w = w' := by
  have h := at_any v x i w hx hS (by omega) (by omega)
  rw [if_neg (by omega), Int.toNat_natCast] at h
  exact h
def cmpI (x y : Nat) : Int := if x < y then -1 else if x = y then 0 else 1
theorem dg_div {x n : Nat} (h : (dg x).length ≤ n) : x / 4294967296 ^ n = 0 := by
  have h1 := dg_lt x
  have h2 : 4294967296 ^ (dg x).length ≤ 4294967296 ^ n := Nat.pow_le_pow_right (by decide) h
  exact Nat.div_eq_of_lt (by omega)
theorem div_step (x j : Nat) : x / 4294967296 ^ j = 4294967296 * (x / 4294967296 ^ (j + 1)) + x / 4294967296 ^ j % 4294967296 := by
  have e : x / 4294967296 ^ (j + 1) = x / 4294967296 ^ j / 4294967296 := by rw [Nat.pow_succ, Nat.div_div_eq_div_mul]
  rw [e]; omega
theorem lt_of_div {x y B : Nat} (h : x / B < y / B) : x < y := by
  by_cases hc : x < y
  · exact hc
  · have := Nat.div_le_div_right (c := B) (show y ≤ x by omega); omega

set_option maxHeartbeats 1000000 in
theorem compare_lt (a b : Option Addr) (ca cb : Nat) (x y : Nat) (w : World) (hx : bl x ≤ 20000) (hy : bl y ≤ 20000) (hX : Hn w a (dg x)) (hY : Hn w b (dg y)) (hl : (dg x).length < (dg y).length) :
    Calls Tryd.prog 70 #[.slice a (dg x).length ca, .slice b (dg y).length cb] w fun e w' => e = .returned (.int .i64 (cmpI x y)) ∧ w = w' := by
  have KX := fun j hj => Hid.mk' (at_nat (.slice a (dg x).length ca) x j w hx ⟨a, ca, rfl, hX⟩ hj)
  have KY := fun j hj => Hid.mk' (at_nat (.slice b (dg y).length cb) y j w hy ⟨b, cb, rfl, hY⟩ hj)
  have sx := dg_short hx
  have sy := dg_short hy
  have DX := Hid.mk' (dg_div (x := x) (n := (dg y).length) (by omega))
  have DY := Hid.mk' (dg_div (x := y) (n := (dg y).length) (by omega))
  generalize (dg x).length = la at *
  generalize (dg y).length = lb at *
  have hl' : (la : Int) < (lb : Int) := by omega
  clear hX hY hx hy
  go_enter Tryd.func70, Tryd.ntmps70
  go_wp2
  go_loop [6] (fun iv => ∃ k : Nat, k ≤ lb ∧ iv = .int .i64 ((k : Int) - 1) ∧ Hid (x / 4294967296 ^ k = y / 4294967296 ^ k)) (fun iv => (intOf iv + 1).toNat)
  case atStart => exact ⟨_, Nat.le_refl _, rfl, DX.out.trans DY.out.symm⟩
  case round =>
    obtain ⟨k, hk, rfl, HQ⟩ := hrel
    cases k with
    | zero =>
      have e0 : ((0 : Nat) : Int) - 1 = -1 := by omega
      rw [e0]
      go_wp2
      go_ret
      have e : x = y := by have := HQ.out; simpa using this
      refine ⟨congrArg Ending.returned (congrArg (Value.int .i64) ?_), rfl⟩
      simp [cmpI, e]
    | succ j =>
      have e0 : ((j + 1 : Nat) : Int) - 1 = (j : Int) := by omega
      rw [e0]
      have KXj := KX j (by omega)
      have KYj := KY j (by omega)
      have SX := Hid.mk' (div_step x j)
      have SY := Hid.mk' (div_step y j)
      have hp : x / 4294967296 ^ j % 4294967296 < 4294967296 := Nat.mod_lt _ (by decide)
      have hq : y / 4294967296 ^ j % 4294967296 < 4294967296 := Nat.mod_lt _ (by decide)
      generalize hgp : x / 4294967296 ^ j % 4294967296 = p at *
      generalize hgq : y / 4294967296 ^ j % 4294967296 = q at *
      clear hgp hgq
      rcases Nat.lt_trichotomy p q with h | h | h
      · have t0 : ((p : Int) != (q : Int)) = true := by rw [bne_iff_ne]; omega
        have t1 : (p : Int) < (q : Int) := by omega
        go_wp2_with fail
        refine KXj.out.mono ?_
        rintro e w1 ⟨rfl, rfl⟩
        go_wp2_with fail
        refine KYj.out.mono ?_
        rintro e w1 ⟨rfl, rfl⟩
        go_wp2_with fail
        refine KXj.out.mono ?_
        rintro e w1 ⟨rfl, rfl⟩
        go_wp2_with fail
        refine KYj.out.mono ?_
        rintro e w1 ⟨rfl, rfl⟩
        go_wp2
        go_ret
        have hlt : x < y := lt_of_div (B := 4294967296 ^ j) (by have h1 := SX.out; have h2 := SY.out; have h3 := HQ.out; rw [h3] at h1; omega)
        refine ⟨congrArg Ending.returned (congrArg (Value.int .i64) ?_), rfl⟩
        simp [cmpI, hlt]
      · subst h
        go_wp2_with fail
        refine KXj.out.mono ?_
        rintro e w1 ⟨rfl, rfl⟩
        go_wp2_with fail
        refine KYj.out.mono ?_
        rintro e w1 ⟨rfl, rfl⟩
        go_wp2
        go_round
        case rel =>
          refine ⟨j, by omega, rfl, ?_⟩
          show _ = _
          have h1 := SX.out; have h2 := SY.out; have h3 := HQ.out
          rw [h3] at h1; omega
        case measure => simp [intOf]; try omega
      · have t0 : ((p : Int) != (q : Int)) = true := by rw [bne_iff_ne]; omega
        have t1 : ¬ (p : Int) < (q : Int) := by omega
        go_wp2_with fail
        refine KXj.out.mono ?_
        rintro e w1 ⟨rfl, rfl⟩
        go_wp2_with fail
        refine KYj.out.mono ?_
        rintro e w1 ⟨rfl, rfl⟩
        go_wp2_with fail
        refine KXj.out.mono ?_
        rintro e w1 ⟨rfl, rfl⟩
        go_wp2_with fail
        refine KYj.out.mono ?_
        rintro e w1 ⟨rfl, rfl⟩
        go_wp2
        go_ret
        have hlt : y < x := lt_of_div (B := 4294967296 ^ j) (by have h1 := SX.out; have h2 := SY.out; have h3 := HQ.out; rw [h3] at h1; omega)
        refine ⟨congrArg Ending.returned (congrArg (Value.int .i64) ?_), rfl⟩
        unfold cmpI
        rw [if_neg (by omega), if_neg (by omega)]
set_option maxHeartbeats 1000000 in
theorem compare_ge (a b : Option Addr) (ca cb : Nat) (x y : Nat) (w : World) (hx : bl x ≤ 20000) (hy : bl y ≤ 20000) (hX : Hn w a (dg x)) (hY : Hn w b (dg y)) (hl : (dg y).length ≤ (dg x).length) :
    Calls Tryd.prog 70 #[.slice a (dg x).length ca, .slice b (dg y).length cb] w fun e w' => e = .returned (.int .i64 (cmpI x y)) ∧ w = w' := by
  have KX := fun j hj => Hid.mk' (at_nat (.slice a (dg x).length ca) x j w hx ⟨a, ca, rfl, hX⟩ hj)
  have KY := fun j hj => Hid.mk' (at_nat (.slice b (dg y).length cb) y j w hy ⟨b, cb, rfl, hY⟩ hj)
  have sx := dg_short hx
  have sy := dg_short hy
  have DX := Hid.mk' (dg_div (x := x) (n := (dg x).length) (by omega))
  have DY := Hid.mk' (dg_div (x := y) (n := (dg x).length) (by omega))
  generalize (dg x).length = la at *
  generalize (dg y).length = lb at *
  have hl' : (lb : Int) ≤ (la : Int) := by omega
  clear hX hY hx hy
  have hd : decide ((la : Int) < (lb : Int)) = false := decide_eq_false (by omega)
  have hdN : decide (la < lb) = false := decide_eq_false (by omega)
  clear hl hl'
  go_enter Tryd.func70, Tryd.ntmps70
  go_wp2
  go_loop [6] (fun iv => ∃ k : Nat, k ≤ la ∧ iv = .int .i64 ((k : Int) - 1) ∧ Hid (x / 4294967296 ^ k = y / 4294967296 ^ k)) (fun iv => (intOf iv + 1).toNat)
  case atStart => exact ⟨_, Nat.le_refl _, rfl, DX.out.trans DY.out.symm⟩
  case round =>
    obtain ⟨k, hk, rfl, HQ⟩ := hrel
    cases k with
    | zero =>
      have e0 : ((0 : Nat) : Int) - 1 = -1 := by omega
      rw [e0]
      go_wp2
      go_ret
      have e : x = y := by have := HQ.out; simpa using this
      refine ⟨congrArg Ending.returned (congrArg (Value.int .i64) ?_), rfl⟩
      simp [cmpI, e]
    | succ j =>
      have e0 : ((j + 1 : Nat) : Int) - 1 = (j : Int) := by omega
      rw [e0]
      have KXj := KX j (by omega)
      have KYj := KY j (by omega)
      have SX := Hid.mk' (div_step x j)
      have SY := Hid.mk' (div_step y j)
      have hp : x / 4294967296 ^ j % 4294967296 < 4294967296 := Nat.mod_lt _ (by decide)
      have hq : y / 4294967296 ^ j % 4294967296 < 4294967296 := Nat.mod_lt _ (by decide)
      generalize hgp : x / 4294967296 ^ j % 4294967296 = p at *
      generalize hgq : y / 4294967296 ^ j % 4294967296 = q at *
      clear hgp hgq
      rcases Nat.lt_trichotomy p q with h | h | h
      · have t0 : ((p : Int) != (q : Int)) = true := by rw [bne_iff_ne]; omega
        have t1 : (p : Int) < (q : Int) := by omega
        go_wp2_with fail
        refine KXj.out.mono ?_
        rintro e w1 ⟨rfl, rfl⟩
        go_wp2_with fail
        refine KYj.out.mono ?_
        rintro e w1 ⟨rfl, rfl⟩
        go_wp2_with fail
        refine KXj.out.mono ?_
        rintro e w1 ⟨rfl, rfl⟩
        go_wp2_with fail
        refine KYj.out.mono ?_
        rintro e w1 ⟨rfl, rfl⟩
        go_wp2
        go_ret
        have hlt : x < y := lt_of_div (B := 4294967296 ^ j) (by have h1 := SX.out; have h2 := SY.out; have h3 := HQ.out; rw [h3] at h1; omega)
        refine ⟨congrArg Ending.returned (congrArg (Value.int .i64) ?_), rfl⟩
        simp [cmpI, hlt]
      · subst h
        go_wp2_with fail
        refine KXj.out.mono ?_
        rintro e w1 ⟨rfl, rfl⟩
        go_wp2_with fail
        refine KYj.out.mono ?_
        rintro e w1 ⟨rfl, rfl⟩
        go_wp2
        go_round
        case rel =>
          refine ⟨j, by omega, rfl, ?_⟩
          show _ = _
          have h1 := SX.out; have h2 := SY.out; have h3 := HQ.out
          rw [h3] at h1; omega
        case measure => simp [intOf]; try omega
      · have t0 : ((p : Int) != (q : Int)) = true := by rw [bne_iff_ne]; omega
        have t1 : ¬ (p : Int) < (q : Int) := by omega
        go_wp2_with fail
        refine KXj.out.mono ?_
        rintro e w1 ⟨rfl, rfl⟩
        go_wp2_with fail
        refine KYj.out.mono ?_
        rintro e w1 ⟨rfl, rfl⟩
        go_wp2_with fail
        refine KXj.out.mono ?_
        rintro e w1 ⟨rfl, rfl⟩
        go_wp2_with fail
        refine KYj.out.mono ?_
        rintro e w1 ⟨rfl, rfl⟩
        go_wp2
        go_ret
        have hlt : y < x := lt_of_div (B := 4294967296 ^ j) (by have h1 := SX.out; have h2 := SY.out; have h3 := HQ.out; rw [h3] at h1; omega)
        refine ⟨congrArg Ending.returned (congrArg (Value.int .i64) ?_), rfl⟩
        unfold cmpI
        rw [if_neg (by omega), if_neg (by omega)]
theorem compare_any (v u : Value) (x y : Nat) (w : World) (hx : bl x ≤ 20000) (hy : bl y ≤ 20000) (hX : SN w v x) (hY : SN w u y) :
    Calls Tryd.prog 70 #[v, u] w fun e w' => e = .returned (.int .i64 (cmpI x y)) ∧ w = w' := by
  obtain ⟨a, ca, rfl, hX⟩ := hX
  obtain ⟨b, cb, rfl, hY⟩ := hY
  by_cases hl : (dg x).length < (dg y).length
  · exact compare_lt a b ca cb x y w hx hy hX hY hl
  · exact compare_ge a b ca cb x y w hx hy hX hY (by omega)
end Go.Proofs.YthmppcfhbbjhlaaDoor
