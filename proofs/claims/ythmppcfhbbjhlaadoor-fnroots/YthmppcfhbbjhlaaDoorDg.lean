import Derived.Test.YthmppcfhbbjhlaaDoorDgM
import Derived.Test.YthmppcfhbbjhlaaDoorSpec1
import Derived.Test.YthmppcfhbbjhlaaDoorGen
import Derived.Lib.QuietBelow
set_option linter.all false
namespace Go.Proofs.YthmppcfhbbjhlaaDoor
open Go.RowKit

def Hn (w : World) (a : Option Addr) (ds : List Nat) : Prop :=
  ds = [] ∨ ∃ b off, a = some ⟨b, off, none⟩ ∧ ∀ i, i < ds.length → w.cell? ⟨b, off + i, none⟩ = some (.int .u64 ((ds.getD i 0 : Nat) : Int))
theorem Hn.below {w w' : World} {a : Option Addr} {xs : List Nat} (h : Hn w a xs) (hb : Below w.heap.size w w') : Hn w' a xs := by
  rcases h with h | ⟨b, o, e, hc⟩
  · exact .inl h
  · exact .inr ⟨b, o, e, fun i hi => (hb.cell (World.block_lt_of_cell? w _ (hc i hi))).trans (hc i hi)⟩
theorem Hn.take {w : World} {a : Option Addr} {xs : List Nat} (h : Hn w a xs) (k : Nat) (hk : k ≤ xs.length) : Hn w a (xs.take k) := by
  rcases h with h | ⟨b, o, e, hc⟩
  · left; subst h; simp
  · refine .inr ⟨b, o, e, fun i hi => ?_⟩
    rw [List.length_take] at hi
    rw [hc i (by omega)]
    simp [List.getD, List.getElem?_take, show i < k by omega]
def lenOf : Value → Nat
  | .slice _ n _ => n
  | _ => 0

theorem take_last {l : List Nat} {j : Nat} (hj : j < l.length) : l.take (j + 1) = l.take j ++ [l.getD j 0] := by
  rw [List.take_add_one]; simp [List.getD, List.getElem?_eq_getElem hj]

set_option maxHeartbeats 1000000 in
theorem trim_any (a : Option Addr) (cap : Nat) (ds : List Nat) (w : World) (hA : AllD ds) (hc : ds.length ≤ cap) (hl : ds.length ≤ 1099511627776) (hH : Hn w a ds) :
    Calls Tryd.prog 98 #[.slice a ds.length cap] w fun e w' => (∃ a', e = .returned (.slice a' (dg (vl ds)).length cap) ∧ Hn w a' (dg (vl ds))) ∧ w = w' := by
  by_cases hx : ds = []
  · subst hx
    go_enter Tryd.func98, Tryd.ntmps98
    go_wp2
    refine wp_loop_rounds 1 ?_
    rw [rounds_succ]
    go_wp2
    go_ret
    have e : dg (vl []) = [] := dg_zero
    rw [e]
    exact ⟨⟨a, rfl, .inl rfl⟩, rfl⟩
  · rcases id hH with h | ⟨b, off, rfl, hcell⟩
    · exact absurd h hx
    have HA := Hid.mk' hA
    have HH := Hid.mk' hH
    have HC := Hid.mk' hcell
    clear hA hH hcell hx
    go_enter Tryd.func98, Tryd.ntmps98
    go_wp2
    go_loop [0] (fun xv => ∃ k : Nat, k ≤ ds.length ∧ xv = .slice (some ⟨b, off, none⟩) k cap ∧ Hid (vl (ds.take k) = vl ds)) (fun xv => lenOf xv)
    case atStart => exact ⟨ds.length, Nat.le_refl _, rfl, by show _ = _; rw [List.take_length]⟩
    case round =>
      obtain ⟨k, hk, rfl, HQ⟩ := hrel
      cases k with
      | zero =>
        go_wp2
        go_ret
        have e : vl ds = 0 := by rw [← HQ.out]; rfl
        rw [e, dg_zero]
        exact ⟨⟨_, rfl, .inl rfl⟩, rfl⟩
      | succ j =>
        have hcj := HC.out j (by omega)
        have hb : (0 : Int) < (j : Int) + 1 := by omega
        by_cases hz : ds.getD j 0 = 0
        · rw [hz] at hcj
          go_wp2
          go_round
          case rel =>
            refine ⟨j, by omega, rfl, ?_⟩
            show _ = _
            rw [← HQ.out, take_last (by omega), hz, vl_one]; simp
          case measure => simp [lenOf]
        · have hz' : (((ds.getD j 0 : Nat) : Int) == 0) = false := beq_eq_false_iff_ne.2 (by omega)
          generalize hzz : ((ds.getD j 0 : Nat) : Int) = z at *
          go_wp2
          go_ret
          have e : dg (vl ds) = ds.take (j + 1) := by
            rw [← HQ.out]
            refine dg_of _ (fun d hd => HA.out d (List.mem_of_mem_take hd)) ?_
            rw [take_last (by omega)]
            intro h
            simpa using hz
          rw [e]
          refine ⟨⟨_, ?_, HH.out.take (j + 1) (by omega)⟩, rfl⟩
          rw [List.length_take, Nat.min_eq_left (by omega)]
          rfl

/-- A value is a list of parts of a number. -/
def SN (w : World) (v : Value) (x : Nat) : Prop := ∃ a cap, v = .slice a (dg x).length cap ∧ Hn w a (dg x)
theorem SN.below {w w' : World} {v : Value} {x : Nat} (h : SN w v x) (hb : Below w.heap.size w w') : SN w' v x := by
  obtain ⟨a, cap, e, hh⟩ := h; exact ⟨a, cap, e, hh.below hb⟩

set_option maxHeartbeats 1000000 in
theorem at_list (a : Option Addr) (cap : Nat) (ds : List Nat) (i : Int) (w : World) (hl : ds.length ≤ 1099511627776) (hH : Hn w a ds) (hi : -1000000 ≤ i) (hi' : i ≤ 1099511627776) :
    Calls Tryd.prog 74 #[.slice a ds.length cap, .int .i64 i] w fun e w' => e = .returned (.int .u64 (if i < 0 then 0 else ((ds.getD i.toNat 0 : Nat) : Int))) ∧ w = w' := by
  by_cases h0 : i < 0
  · rw [if_pos h0]
    clear hH
    go_enter Tryd.func74, Tryd.ntmps74
    go_wp2
    go_ret
    exact ⟨rfl, rfl⟩
  · rw [if_neg h0]
    obtain ⟨n, rfl⟩ := Int.eq_ofNat_of_zero_le (show 0 ≤ i by omega)
    rw [Int.toNat_natCast]
    by_cases h1 : n < ds.length
    · rcases hH with h | ⟨b, off, rfl, hc⟩
      · subst h; simp at h1
      have hcj := hc n h1
      generalize ((ds.getD n 0 : Nat) : Int) = z at *
      have t1 : ¬ (ds.length : Int) ≤ (n : Int) := by omega
      have t2 : (n : Int) < (ds.length : Int) := by omega
      clear hc
      go_enter Tryd.func74, Tryd.ntmps74
      go_wp2
      go_ret
      exact ⟨rfl, rfl⟩
    · have e : ds.getD n 0 = 0 := by simp [List.getD, List.getElem?_eq_none (show ds.length ≤ n by omega)]
      rw [e]
      have t1 : (ds.length : Int) ≤ (n : Int) := by omega
      clear hH
      go_enter Tryd.func74, Tryd.ntmps74
      go_wp2
      go_ret
      exact ⟨rfl, rfl⟩
theorem dg_short {x : Nat} (h : bl x ≤ 20000) : (dg x).length ≤ 626 := by
  by_cases h0 : (dg x).length = 0
  · omega
  · have h1 := dg_ge (x := x) (i := (dg x).length - 1) (by omega)
    rw [pow32] at h1
    have := lt_bl h1
    omega
theorem at_any (v : Value) (x : Nat) (i : Int) (w : World) (hx : bl x ≤ 20000) (hS : SN w v x) (hi : -1000000 ≤ i) (hi' : i ≤ 1000000) :
    Calls Tryd.prog 74 #[v, .int .i64 i] w fun e w' => e = .returned (.int .u64 (if i < 0 then 0 else ((x / 4294967296 ^ i.toNat % 4294967296 : Nat) : Int))) ∧ w = w' := by
  obtain ⟨a, cap, rfl, hH⟩ := hS
  have := dg_short hx
  have h := at_list a cap (dg x) i w (by omega) hH hi (by omega)
  rw [dg_get] at h
  exact h

set_option maxHeartbeats 1000000 in
theorem of_any (x : Nat) (w : World) (hx : x < 18446744073709551616) :
    Calls Tryd.prog 65 #[.int .u64 x] w fun e w' => (∃ v, e = .returned v ∧ SN w' v x) ∧ Below w.heap.size w w' := by
  have hA : AllD [x % 4294967296, x / 4294967296] := by intro d hd; simp at hd; omega
  have hv : vl [x % 4294967296, x / 4294967296] = x := by simp [vl]; omega
  have KT := fun w => Hid.mk' (fun b off hc => trim_any (some ⟨b, off, none⟩) 2 [x % 4294967296, x / 4294967296] w hA (by simp) (by simp) (.inr ⟨b, off, rfl, hc⟩))
  rw [hv] at KT
  clear hA hv
  go_enter Tryd.func65, Tryd.ntmps65
  go_wp2_with fail
  have e1 : ((x % 4294967296 : Nat) : Int) = (x : Int) % 4294967296 := by omega
  refine ((KT _).out w.heap.size 0 ?_).mono ?_
  · intro i hi
    simp at hi
    have hi2 : i = 0 ∨ i = 1 := by omega
    rcases hi2 with rfl | rfl
    · exact cell_new rfl rfl
    · exact cell_new rfl rfl
  rintro e w1 ⟨⟨a', rfl, hH⟩, rfl⟩
  go_wp2
  go_ret
  exact ⟨⟨_, rfl, a', _, rfl, hH⟩, (Below.refl _ _).alloc (Nat.le_refl _) _⟩

theorem word_any (v : Value) (x : Nat) (w : World) (hx : x < 18446744073709551616) (hS : SN w v x) :
    Calls Tryd.prog 75 #[v] w fun e w' => e = .returned (.int .u64 x) ∧ w = w' := by
  have hb : bl x ≤ 20000 := Nat.le_trans (bl_le (k := 64) hx) (by decide)
  have K0 := at_any v x 0 w hb hS (by omega) (by omega)
  have K1 := at_any v x 1 w hb hS (by omega) (by omega)
  have e0 : (if (0 : Int) < 0 then 0 else ((x / 4294967296 ^ (0 : Int).toNat % 4294967296 : Nat) : Int)) = ((x % 4294967296 : Nat) : Int) := by simp
  have e1 : (if (1 : Int) < 0 then 0 else ((x / 4294967296 ^ (1 : Int).toNat % 4294967296 : Nat) : Int)) = ((x / 4294967296 : Nat) : Int) := by simp; omega
  rw [e0] at K0
  rw [e1] at K1
  have hp : 0 ≤ ((x / 4294967296 : Nat) : Int) ∧ ((x / 4294967296 : Nat) : Int) ≤ 4294967295 := by omega
  have hq : 0 ≤ ((x % 4294967296 : Nat) : Int) ∧ ((x % 4294967296 : Nat) : Int) ≤ 4294967295 := by omega
  have he : ((x % 4294967296 : Nat) : Int) + ((x / 4294967296 : Nat) : Int) * 4294967296 = (x : Int) := by omega
  generalize ((x / 4294967296 : Nat) : Int) = p at *
  generalize ((x % 4294967296 : Nat) : Int) = q at *
  have HE := Hid.mk' he
  have HK0 := Hid.mk' K0
  have HK1 := Hid.mk' K1
  obtain ⟨hp0, hp1⟩ := hp
  obtain ⟨hq0, hq1⟩ := hq
  clear he K0 K1 hS e0 e1
  go_enter Tryd.func75, Tryd.ntmps75
  go_wp2_with fail
  refine HK0.out.mono ?_
  rintro e w1 ⟨rfl, rfl⟩
  go_wp2_with fail
  refine HK1.out.mono ?_
  rintro e w1 ⟨rfl, rfl⟩
  go_wp2
  go_ret
  have := HE.out
  refine ⟨congrArg Ending.returned (congrArg (Value.int .u64) ?_), rfl⟩
  first | exact this | (show IntKind.u64.wrap _ = _; rw [IntKind.wrap_u64]; omega)

theorem bl_top {x m : Nat} (h : (dg x).length = m + 1) : bl x = 32 * m + bl (x / 4294967296 ^ m % 4294967296) := by
  have h1 := dg_ge (x := x) (i := m) (by omega)
  have h2 := dg_lt x
  rw [h, Nat.pow_succ] at h2
  have hB : 0 < 4294967296 ^ m := Nat.pow_pos (by decide)
  have h3 : x / 4294967296 ^ m < 4294967296 := by rw [Nat.div_lt_iff_lt_mul hB, Nat.mul_comm]; exact h2
  rw [Nat.mod_eq_of_lt h3]
  rw [pow32] at *
  have h4 := lt_bl h1
  rw [bl_div]; omega

set_option maxHeartbeats 1000000 in
theorem bits_any (v : Value) (x : Nat) (w : World) (hx : bl x ≤ 20000) (hS : SN w v x) :
    Calls Tryd.prog 68 #[v] w fun e w' => e = .returned (.int .i64 (bl x : Int)) ∧ w = w' := by
  obtain ⟨a, cap, rfl, hH⟩ := hS
  have hs := dg_short hx
  cases hm : (dg x).length with
  | zero =>
    have e : x = 0 := by
      have := dg_lt x; rw [hm] at this; simpa using this
    subst e
    clear hH
    go_enter Tryd.func68, Tryd.ntmps68
    go_wp2
    go_ret
    exact ⟨rfl, rfl⟩
  | succ m =>
    have HT := Hid.mk' (bl_top hm)
    rcases hH with h | ⟨b, off, rfl, hc⟩
    · rw [h] at hm; simp at hm
    have hcm := hc m (by omega)
    rw [dg_get] at hcm
    have ht : x / 4294967296 ^ m % 4294967296 < 4294967296 := Nat.mod_lt _ (by decide)
    generalize x / 4294967296 ^ m % 4294967296 = t at *
    clear hc
    have hm' : m ≤ 625 := by omega
    have hnb : (m : Int) + 1 ≠ 0 := by omega
    clear hm hs
    go_enter Tryd.func68, Tryd.ntmps68
    go_wp2
    go_loop [3, 4] (fun nv yv => ∃ k y : Nat, k ≤ 32 ∧ nv = .int .i64 (32 * (m : Int) + k) ∧ yv = .int .u64 (y : Int) ∧ Hid (k + bl y = bl t) ∧ y < 4294967296) (fun _ yv => (intOf yv).toNat)
    case atStart => exact ⟨0, t, by omega, by simp, rfl, (Nat.zero_add _), ht⟩
    case round =>
      obtain ⟨k, y, hk, rfl, rfl, HQ, hy⟩ := hrel
      by_cases h0 : y = 0
      · subst h0
        go_wp2
        go_ret
        have h1 := HQ.out
        have h2 := HT.out
        rw [bl_zero] at h1
        refine ⟨congrArg Ending.returned (congrArg (Value.int .i64) ?_), rfl⟩
        omega
      · have hpos : (0 : Int) < (y : Int) := by omega
        have hb : k + 1 ≤ 32 := by
          have h1 := HQ.out
          have h2 := bl_pos h0
          have h3 := bl_le (k := 32) (x := t) ht
          omega
        go_wp2
        go_round
        case rel =>
          refine ⟨k + 1, y / 2, hb, by congr 1, by congr 1, ?_, by omega⟩
          show _ = _
          have h1 := HQ.out
          have h2 := bl_pos h0
          have h3 := bl_div y 1
          rw [Nat.pow_one] at h3
          omega
        case measure => simp [intOf]; omega
end Go.Proofs.YthmppcfhbbjhlaaDoor
