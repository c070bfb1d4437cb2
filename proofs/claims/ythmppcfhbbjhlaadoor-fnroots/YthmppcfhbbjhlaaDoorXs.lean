import Derived.Test.YthmppcfhbbjhlaaDoorDg6
import Derived.Test.YthmppcfhbbjhlaaDoorSt
import Derived.Test.YthmppcfhbbjhlaaDoorXm
import Derived.Deep.RegionHeld3
set_option linter.all false
namespace Go.Proofs.YthmppcfhbbjhlaaDoor
open Go.RowKit Go.Sort

theorem vl_below : ∀ (ds : List Nat), AllD ds → vl ds < 4294967296 ^ ds.length
  | [], _ => by simp [vl]
  | d :: ds, h => by
    have h1 := vl_below ds (fun x hx => h x (List.mem_cons_of_mem _ hx))
    have h2 := h d (by simp)
    rw [List.length_cons, Nat.pow_succ, vl]
    generalize 4294967296 ^ ds.length = K at *
    omega
theorem sub_step {V c K x y p q k d c' : Nat} (hK : K = 4294967296 ^ k) (h : V + y % K = x % K + c * K) (hp : p = x / K % 4294967296) (hq : q = y / K % 4294967296) (hd : c + d + q = p + c' * 4294967296) :
    V + K * d + y % 4294967296 ^ (k + 1) = x % 4294967296 ^ (k + 1) + c' * (K * 4294967296) := by
  rw [mod_next, mod_next, ← hK, ← hp, ← hq]
  have h1 : K * (c + d + q) = K * (p + c' * 4294967296) := by rw [hd]
  rw [Nat.mul_add, Nat.mul_add, Nat.mul_add] at h1
  have h2 : K * (c' * 4294967296) = c' * (K * 4294967296) := by rw [Nat.mul_left_comm]
  have h3 : K * c = c * K := Nat.mul_comm _ _
  omega
theorem sub_end {V c x y n : Nat} (hV : V < 4294967296 ^ n) (hx : x < 4294967296 ^ n) (hyx : y ≤ x) (h : V + y % 4294967296 ^ n = x % 4294967296 ^ n + c * 4294967296 ^ n) : V = x - y := by
  rw [Nat.mod_eq_of_lt hx, Nat.mod_eq_of_lt (by omega)] at h
  have hc : c = 0 := by
    rcases Nat.eq_zero_or_pos c with h1 | h1
    · exact h1
    · have := Nat.mul_le_mul_right (4294967296 ^ n) h1
      omega
  subst hc
  omega

set_option maxHeartbeats 2000000 in
theorem subN_any (v u : Value) (x y : Nat) (w : World) (hx : bl x ≤ 10000) (hyx : y ≤ x) (hX : SN w v x) (hY : SN w u y) :
    Calls Tryd.prog 91 #[v, u] w fun e w' => (∃ r, e = .returned r ∧ SN w' r (x - y)) ∧ Below w.heap.size w w' := by
  obtain ⟨i0, hi, hz0, hz1, hz2⟩ := info_parts info22
  have hy : bl y ≤ 10000 := Nat.le_trans (bl_mono hyx) hx
  have sx := dg_short (x := x) (by omega)
  have sy := dg_short (x := y) (by omega)
  have KX := fun wr k hk (hb : Below w.heap.size w wr) => Hid.mk' (at_nat v x k wr (by omega) (hX.below hb) hk)
  have KY := fun wr k hk (hb : Below w.heap.size w wr) => Hid.mk' (at_nat u y k wr (by omega) (hY.below hb) hk)
  have LX := Hid.mk' (dg_lt x)
  have HYX := Hid.mk' hyx
  obtain ⟨a, ca, rfl, hX⟩ := hX
  obtain ⟨b, cb, rfl, hY⟩ := hY
  clear hX hY hx hy hyx
  generalize (dg x).length = la at *
  generalize (dg y).length = lb at *
  go_enter Tryd.func91, Tryd.ntmps91
  go_wp2
  go_loopw [5, 6, 7] (fun v cv iv wr => ∃ (k c : Nat) (pre : List Nat), iv = .int .i64 (k : Int) ∧ cv = .int .u64 (c : Int) ∧ c ≤ 1 ∧ pre.length = k ∧ k ≤ la ∧ Hid (AllD pre) ∧ Hid (vl pre + y % 4294967296 ^ k = x % 4294967296 ^ k + c * 4294967296 ^ k) ∧ wr.ownsRow w.heap.size 22 1 v pre.length (UN pre) ∧ Below w.heap.size w wr) (fun _ _ iv _ => la - (intOf iv).toNat)
  case atStart => exact ⟨0, 0, [], rfl, rfl, by omega, rfl, by omega, fun d hd => by simp at hd, by show _ = _; simp [vl, Nat.mod_one], World.ownsRow_lit w #[] 0 (Nat.le_refl _) (Nat.zero_le _) rfl, (Below.refl _ _).alloc (Nat.le_refl _) _⟩
  case round =>
    obtain ⟨k, c, pre, rfl, rfl, hc, rfl, hk, HA, HQ, hown, hbel⟩ := hrel
    have hsz := hbel.size
    have KXk := KX wr pre.length (by omega) hbel
    have KYk := KY wr pre.length (by omega) hbel
    have hp : x / 4294967296 ^ pre.length % 4294967296 < 4294967296 := Nat.mod_lt _ (by decide)
    have hq : y / 4294967296 ^ pre.length % 4294967296 < 4294967296 := Nat.mod_lt _ (by decide)
    have HS : Hid (∀ d c' : Nat, c + d + y / 4294967296 ^ pre.length % 4294967296 = x / 4294967296 ^ pre.length % 4294967296 + c' * 4294967296 → vl pre + 4294967296 ^ pre.length * d + y % 4294967296 ^ (pre.length + 1) = x % 4294967296 ^ (pre.length + 1) + c' * (4294967296 ^ pre.length * 4294967296)) := Hid.mk' (fun d c' hd => sub_step rfl HQ.out rfl rfl hd)
    have HEND : la ≤ pre.length → Hid (vl pre = x - y) := fun h1 => by
      have e : pre.length = la := by omega
      have h := HQ.out
      have hv := vl_below pre HA.out
      rw [e] at h hv
      exact sub_end hv LX.out HYX.out h
    generalize x / 4294967296 ^ pre.length % 4294967296 = p at *
    generalize y / 4294967296 ^ pre.length % 4294967296 = q at *
    clear KX KY HQ LX HYX
    by_cases h1 : pre.length < la
    · have t1 : (pre.length : Int) < (la : Int) := by omega
      clear HEND
      go_wp2_with fail
      refine KXk.out.mono ?_
      rintro e w1 ⟨rfl, rfl⟩
      go_wp2_with fail
      refine KYk.out.mono ?_
      rintro e w1 ⟨rfl, rfl⟩
      have E1 : Hid ((4294967296 + (p : Int) - q - c) % 4294967296 = (((4294967296 + p - q - c) % 4294967296 : Nat) : Int)) := by show _ = _; omega
      go_wp2_with (first | (at_builtin; refine wpList_append_own _ rfl _ _ 47 rfl w.heap.size 22 i0 (.int .u64 0) 1 8 Tryd.underlying47 hi hz0 hz1 hz2 rfl (by decide) _ _ _ rfl (hown.alloc _) ⟨wr.heap.size, 0, none⟩ 1 1 [.int .u64 ((4294967296 + (p : Int) - q - c) % 4294967296)] rfl rfl (cell_one_new _ _ _) (oneU _) (by unfold maxLen; omega) (by omega) (by simp; omega) ?_; intro v' w1 hown' hgrow hnn))
      have hbel' := below_push hown hbel hsz hgrow
      rw [E1.out] at hown'
      have hown2 := owns_push hown'
      clear hown' hgrow hown hbel hsz hnn
      go_wp2
      go_roundw
      case rel =>
        refine ⟨pre.length + 1, 1 - (4294967296 + p - q - c) / 4294967296, pre ++ [(4294967296 + p - q - c) % 4294967296], by go_num, congrArg (Value.int .u64) (by omega), by omega, by simp, by omega, allD_one HA.out (Nat.mod_lt _ (by decide)), ?_, hown2, hbel'⟩
        show _ = _
        rw [vl_one]
        have := HS.out ((4294967296 + p - q - c) % 4294967296) (1 - (4294967296 + p - q - c) / 4294967296) (by omega)
        rw [Nat.pow_succ] at this ⊢
        exact this
      case measure =>
        simp [intOf]; omega
    · have t1 : ¬ (pre.length : Int) < (la : Int) := by omega
      have HE := HEND (by omega)
      have KT := Hid.mk' (trim_own wr (x - y) (by omega) hown HA.out HE.out)
      have HB := Hid.mk' hbel
      clear HEND HE hown hbel HS KXk KYk
      go_wp2_with fail
      refine KT.out.mono ?_
      rintro e w1 ⟨⟨r, rfl, hr⟩, rfl⟩
      go_wp2
      go_ret
      exact ⟨⟨r, rfl, hr⟩, HB.out⟩
end Go.Proofs.YthmppcfhbbjhlaaDoor
namespace Go.Proofs.YthmppcfhbbjhlaaDoor
open Go.RowKit Go.Sort

theorem szero_key (k : Int) (g : Bool) (v : Value) (x : Int) (s : Nat) (w : World) (hs : bl s ≤ 4000) (hS : SN w v s) :
    Calls Tryd.prog 66 #[SV k g v x] w fun e w' => e = .returned (.bool (decide (k = 0) && decide (s = 0))) ∧ Below w.heap.size w w' := by
  obtain ⟨a, cap, rfl, -⟩ := hS
  have hl : (dg s).length = 0 ↔ s = 0 := by
    constructor
    · intro h
      have := dg_lt s; rw [h] at this; simpa using this
    · intro h; subst h; simp [dg_zero]
  have sh := dg_short (x := s) (by omega)
  by_cases hk : k = 0
  · subst hk
    by_cases h0 : s = 0
    · have e : (dg s).length = 0 := hl.2 h0
      rw [e, show (decide ((0 : Int) = 0) && decide (s = 0)) = true by simp [h0]]
      clear e h0 hl sh hs
      go_enter Tryd.func66, Tryd.ntmps66
      go_wp2
      go_ret
      exact ⟨rfl, by repeat (first | exact Below.refl _ _ | refine Below.alloc ?_ (by first | (simp; done) | (simp; omega)) _ | refine Below.drew ?_)⟩
    · have e : (dg s).length ≠ 0 := fun h => h0 (hl.1 h)
      rw [show (decide ((0 : Int) = 0) && decide (s = 0)) = false by simp [h0]]
      generalize (dg s).length = n at *
      have e2 : ((n : Int) == 0) = false := beq_eq_false_iff_ne.2 (by omega)
      clear h0 hl hs
      go_enter Tryd.func66, Tryd.ntmps66
      go_wp2
      go_ret
      exact ⟨rfl, by repeat (first | exact Below.refl _ _ | refine Below.alloc ?_ (by first | (simp; done) | (simp; omega)) _ | refine Below.drew ?_)⟩
  · have e0 : (k == 0) = false := by simpa using hk
    rw [show (decide (k = 0) && decide (s = 0)) = false by simp [hk]]
    clear hl sh hs
    go_enter Tryd.func66, Tryd.ntmps66
    go_wp2
    go_ret
    exact ⟨rfl, by repeat (first | exact Below.refl _ _ | refine Below.alloc ?_ (by first | (simp; done) | (simp; omega)) _ | refine Below.drew ?_)⟩

end Go.Proofs.YthmppcfhbbjhlaaDoor
namespace Go.Proofs.YthmppcfhbbjhlaaDoor
open Go.RowKit Go.Sort

theorem c3_past {w : World} {o : Obj} {g : Nat} {a b c : Value} (h : C3 w g a b c) : C3 (w.alloc o) g a b c := h.past
theorem c4_mid {w : World} {a b c d : Value} {t : TypeId} {o : Obj} : C4 ((w.alloc o).alloc (.cells #[a, b, c, d] t)) (w.heap.size + 1) a b c d := by
  have h := c4_new (w := w.alloc o) (a := a) (b := b) (c := c) (d := d) (t := t)
  simpa using h
theorem c4_third {w : World} {a b c d : Value} {t : TypeId} {o o' : Obj} : C4 (((w.alloc o).alloc o').alloc (.cells #[a, b, c, d] t)) (w.heap.size + 1 + 1) a b c d := by
  have h := c4_new (w := (w.alloc o).alloc o') (a := a) (b := b) (c := c) (d := d) (t := t)
  simpa using h
set_option maxHeartbeats 4000000 in
set_option maxRecDepth 100000 in
theorem sp_2x (k2 : Int) (p e L : Int) (g1 g2 : Bool) (v1 v2 : Value) (x1 x2 : Int) (s1 s2 : Nat) (w : World) (R : Int) (hS1 : SN w v1 s1) (hS2 : SN w v2 s2) (KN : ∀ w, Hid (Calls Tryd.prog 67 #[(.agg #[.int .i64 p, .int .i64 e, .int .i64 L])] w fun e w' => e = .returned (.int .u64 R) ∧ Below w.heap.size w w')) :
    Calls Tryd.prog 47 #[(.agg #[.int .i64 p, .int .i64 e, .int .i64 L]), SV 2 g1 v1 x1, SV k2 g2 v2 x2] w fun e w' => e = .returned (.int .u64 R) ∧ Below w.heap.size w w' := by
  go_enter Tryd.func47, Tryd.ntmps47
  go_upto_region 1 with fail
  refine wp_gen (fun wz => C3 wz w.heap.size (.int .i64 p) (.int .i64 e) (.int .i64 L) ∧ C4 wz (w.heap.size + 1) (.int .i64 2) (.bool g1) v1 (.int .i64 x1) ∧ C4 wz (w.heap.size + 1 + 1) (.int .i64 k2) (.bool g2) v2 (.int .i64 x2) ∧ SN wz v1 s1 ∧ SN wz v2 s2 ∧ Below w.heap.size w wz) ⟨c3_new.past.past, c4_mid.past, c4_third, hS1.below ((((Below.refl _ _).alloc (Nat.le_refl _) _).alloc (by simp) _).alloc (by simp; omega) _), hS2.below ((((Below.refl _ _).alloc (Nat.le_refl _) _).alloc (by simp) _).alloc (by simp; omega) _), ((((Below.refl _ _).alloc (Nat.le_refl _) _).alloc (by simp) _).alloc (by simp; omega) _)⟩ ?_
  rintro w1 ⟨cf, ca, cb, hs1, hs2, hb⟩
  have CF := Hid.mk' cf
  have CA := Hid.mk' ca
  have CB := Hid.mk' cb
  have H1 := Hid.mk' hs1
  have H2 := Hid.mk' hs2
  have HB := Hid.mk' hb
  clear cf ca cb hs1 hs2 hb hS1 hS2
  obtain ⟨q0, q1, q2⟩ := CF.out
  obtain ⟨a0, a1, a2, a3⟩ := CA.out
  obtain ⟨b0, b1, b2, b3⟩ := CB.out
  go_wp2_with (first | (go_at_call 67; refine (KN _).out.mono ?_; rintro e w6 ⟨rfl, hb⟩; have CF := Hid.mk' (CF.out.keep hb); have CA := Hid.mk' (CA.out.keep hb); have CB := Hid.mk' (CB.out.keep hb); have H1 := Hid.mk' (H1.out.below hb); have H2 := Hid.mk' (H2.out.below hb); have HB := Hid.mk' (HB.out.trans (hb.mono HB.out.size)); clear q0 q1 q2 a0 a1 a2 a3 b0 b1 b2 b3; obtain ⟨q0, q1, q2⟩ := CF.out; obtain ⟨a0, a1, a2, a3⟩ := CA.out; obtain ⟨b0, b1, b2, b3⟩ := CB.out; clear hb))
  go_ret
  exact ⟨rfl, HB.out⟩
set_option maxHeartbeats 4000000 in
set_option maxRecDepth 100000 in
theorem sp_x2 (k1 : Int) (p e L : Int) (g1 g2 : Bool) (v1 v2 : Value) (x1 x2 : Int) (s1 s2 : Nat) (w : World) (R : Int) (hS1 : SN w v1 s1) (hS2 : SN w v2 s2) (hk : (k1 == 2) = false) (KN : ∀ w, Hid (Calls Tryd.prog 67 #[(.agg #[.int .i64 p, .int .i64 e, .int .i64 L])] w fun e w' => e = .returned (.int .u64 R) ∧ Below w.heap.size w w')) :
    Calls Tryd.prog 47 #[(.agg #[.int .i64 p, .int .i64 e, .int .i64 L]), SV k1 g1 v1 x1, SV 2 g2 v2 x2] w fun e w' => e = .returned (.int .u64 R) ∧ Below w.heap.size w w' := by
  go_enter Tryd.func47, Tryd.ntmps47
  go_upto_region 1 with fail
  refine wp_gen (fun wz => C3 wz w.heap.size (.int .i64 p) (.int .i64 e) (.int .i64 L) ∧ C4 wz (w.heap.size + 1) (.int .i64 k1) (.bool g1) v1 (.int .i64 x1) ∧ C4 wz (w.heap.size + 1 + 1) (.int .i64 2) (.bool g2) v2 (.int .i64 x2) ∧ SN wz v1 s1 ∧ SN wz v2 s2 ∧ Below w.heap.size w wz) ⟨c3_new.past.past, c4_mid.past, c4_third, hS1.below ((((Below.refl _ _).alloc (Nat.le_refl _) _).alloc (by simp) _).alloc (by simp; omega) _), hS2.below ((((Below.refl _ _).alloc (Nat.le_refl _) _).alloc (by simp) _).alloc (by simp; omega) _), ((((Below.refl _ _).alloc (Nat.le_refl _) _).alloc (by simp) _).alloc (by simp; omega) _)⟩ ?_
  rintro w1 ⟨cf, ca, cb, hs1, hs2, hb⟩
  have CF := Hid.mk' cf
  have CA := Hid.mk' ca
  have CB := Hid.mk' cb
  have H1 := Hid.mk' hs1
  have H2 := Hid.mk' hs2
  have HB := Hid.mk' hb
  clear cf ca cb hs1 hs2 hb hS1 hS2
  obtain ⟨q0, q1, q2⟩ := CF.out
  obtain ⟨a0, a1, a2, a3⟩ := CA.out
  obtain ⟨b0, b1, b2, b3⟩ := CB.out
  go_wp2_with (first | (go_at_call 67; refine (KN _).out.mono ?_; rintro e w6 ⟨rfl, hb⟩; have CF := Hid.mk' (CF.out.keep hb); have CA := Hid.mk' (CA.out.keep hb); have CB := Hid.mk' (CB.out.keep hb); have H1 := Hid.mk' (H1.out.below hb); have H2 := Hid.mk' (H2.out.below hb); have HB := Hid.mk' (HB.out.trans (hb.mono HB.out.size)); clear q0 q1 q2 a0 a1 a2 a3 b0 b1 b2 b3; obtain ⟨q0, q1, q2⟩ := CF.out; obtain ⟨a0, a1, a2, a3⟩ := CA.out; obtain ⟨b0, b1, b2, b3⟩ := CB.out; clear hb))
  go_ret
  exact ⟨rfl, HB.out⟩
set_option maxHeartbeats 4000000 in
set_option maxRecDepth 100000 in
theorem sp_11x  (p e L : Int) (g1 g2 : Bool) (v1 v2 : Value) (x1 x2 : Int) (s1 s2 : Nat) (w : World) (R : Int) (hS1 : SN w v1 s1) (hS2 : SN w v2 s2) (hg : (g1 == g2) = false) (KN : ∀ w, Hid (Calls Tryd.prog 67 #[(.agg #[.int .i64 p, .int .i64 e, .int .i64 L])] w fun e w' => e = .returned (.int .u64 R) ∧ Below w.heap.size w w')) :
    Calls Tryd.prog 47 #[(.agg #[.int .i64 p, .int .i64 e, .int .i64 L]), SV 1 g1 v1 x1, SV 1 g2 v2 x2] w fun e w' => e = .returned (.int .u64 R) ∧ Below w.heap.size w w' := by
  go_enter Tryd.func47, Tryd.ntmps47
  go_upto_region 1 with fail
  refine wp_gen (fun wz => C3 wz w.heap.size (.int .i64 p) (.int .i64 e) (.int .i64 L) ∧ C4 wz (w.heap.size + 1) (.int .i64 1) (.bool g1) v1 (.int .i64 x1) ∧ C4 wz (w.heap.size + 1 + 1) (.int .i64 1) (.bool g2) v2 (.int .i64 x2) ∧ SN wz v1 s1 ∧ SN wz v2 s2 ∧ Below w.heap.size w wz) ⟨c3_new.past.past, c4_mid.past, c4_third, hS1.below ((((Below.refl _ _).alloc (Nat.le_refl _) _).alloc (by simp) _).alloc (by simp; omega) _), hS2.below ((((Below.refl _ _).alloc (Nat.le_refl _) _).alloc (by simp) _).alloc (by simp; omega) _), ((((Below.refl _ _).alloc (Nat.le_refl _) _).alloc (by simp) _).alloc (by simp; omega) _)⟩ ?_
  rintro w1 ⟨cf, ca, cb, hs1, hs2, hb⟩
  have CF := Hid.mk' cf
  have CA := Hid.mk' ca
  have CB := Hid.mk' cb
  have H1 := Hid.mk' hs1
  have H2 := Hid.mk' hs2
  have HB := Hid.mk' hb
  clear cf ca cb hs1 hs2 hb hS1 hS2
  obtain ⟨q0, q1, q2⟩ := CF.out
  obtain ⟨a0, a1, a2, a3⟩ := CA.out
  obtain ⟨b0, b1, b2, b3⟩ := CB.out
  go_wp2_with (first | (go_at_call 67; refine (KN _).out.mono ?_; rintro e w6 ⟨rfl, hb⟩; have CF := Hid.mk' (CF.out.keep hb); have CA := Hid.mk' (CA.out.keep hb); have CB := Hid.mk' (CB.out.keep hb); have H1 := Hid.mk' (H1.out.below hb); have H2 := Hid.mk' (H2.out.below hb); have HB := Hid.mk' (HB.out.trans (hb.mono HB.out.size)); clear q0 q1 q2 a0 a1 a2 a3 b0 b1 b2 b3; obtain ⟨q0, q1, q2⟩ := CF.out; obtain ⟨a0, a1, a2, a3⟩ := CA.out; obtain ⟨b0, b1, b2, b3⟩ := CB.out; clear hb))
  go_ret
  exact ⟨rfl, HB.out⟩
set_option maxHeartbeats 4000000 in
set_option maxRecDepth 100000 in
theorem sp_11  (p e L : Int) (g1 g2 : Bool) (v1 v2 : Value) (x1 x2 : Int) (s1 s2 : Nat) (w : World) (R : Int) (hS1 : SN w v1 s1) (hS2 : SN w v2 s2) (hg : (g1 == g2) = true) (KI : ∀ w, Hid (Calls Tryd.prog 72 #[(.agg #[.int .i64 p, .int .i64 e, .int .i64 L]), .bool g1] w fun e w' => e = .returned (.int .u64 R) ∧ Below w.heap.size w w')) :
    Calls Tryd.prog 47 #[(.agg #[.int .i64 p, .int .i64 e, .int .i64 L]), SV 1 g1 v1 x1, SV 1 g2 v2 x2] w fun e w' => e = .returned (.int .u64 R) ∧ Below w.heap.size w w' := by
  go_enter Tryd.func47, Tryd.ntmps47
  go_upto_region 1 with fail
  refine wp_gen (fun wz => C3 wz w.heap.size (.int .i64 p) (.int .i64 e) (.int .i64 L) ∧ C4 wz (w.heap.size + 1) (.int .i64 1) (.bool g1) v1 (.int .i64 x1) ∧ C4 wz (w.heap.size + 1 + 1) (.int .i64 1) (.bool g2) v2 (.int .i64 x2) ∧ SN wz v1 s1 ∧ SN wz v2 s2 ∧ Below w.heap.size w wz) ⟨c3_new.past.past, c4_mid.past, c4_third, hS1.below ((((Below.refl _ _).alloc (Nat.le_refl _) _).alloc (by simp) _).alloc (by simp; omega) _), hS2.below ((((Below.refl _ _).alloc (Nat.le_refl _) _).alloc (by simp) _).alloc (by simp; omega) _), ((((Below.refl _ _).alloc (Nat.le_refl _) _).alloc (by simp) _).alloc (by simp; omega) _)⟩ ?_
  rintro w1 ⟨cf, ca, cb, hs1, hs2, hb⟩
  have CF := Hid.mk' cf
  have CA := Hid.mk' ca
  have CB := Hid.mk' cb
  have H1 := Hid.mk' hs1
  have H2 := Hid.mk' hs2
  have HB := Hid.mk' hb
  clear cf ca cb hs1 hs2 hb hS1 hS2
  obtain ⟨q0, q1, q2⟩ := CF.out
  obtain ⟨a0, a1, a2, a3⟩ := CA.out
  obtain ⟨b0, b1, b2, b3⟩ := CB.out
  go_wp2_with (first | (go_at_call 72; refine (KI _).out.mono ?_; rintro e w6 ⟨rfl, hb⟩; have CF := Hid.mk' (CF.out.keep hb); have CA := Hid.mk' (CA.out.keep hb); have CB := Hid.mk' (CB.out.keep hb); have H1 := Hid.mk' (H1.out.below hb); have H2 := Hid.mk' (H2.out.below hb); have HB := Hid.mk' (HB.out.trans (hb.mono HB.out.size)); clear q0 q1 q2 a0 a1 a2 a3 b0 b1 b2 b3; obtain ⟨q0, q1, q2⟩ := CF.out; obtain ⟨a0, a1, a2, a3⟩ := CA.out; obtain ⟨b0, b1, b2, b3⟩ := CB.out; clear hb))
  go_ret
  exact ⟨rfl, HB.out⟩
set_option maxHeartbeats 4000000 in
set_option maxRecDepth 100000 in
theorem sp_10  (p e L : Int) (g1 g2 : Bool) (v1 v2 : Value) (x1 x2 : Int) (s1 s2 : Nat) (w : World) (R : Int) (hS1 : SN w v1 s1) (hS2 : SN w v2 s2) (KI : ∀ w, Hid (Calls Tryd.prog 72 #[(.agg #[.int .i64 p, .int .i64 e, .int .i64 L]), .bool g1] w fun e w' => e = .returned (.int .u64 R) ∧ Below w.heap.size w w')) :
    Calls Tryd.prog 47 #[(.agg #[.int .i64 p, .int .i64 e, .int .i64 L]), SV 1 g1 v1 x1, SV 0 g2 v2 x2] w fun e w' => e = .returned (.int .u64 R) ∧ Below w.heap.size w w' := by
  go_enter Tryd.func47, Tryd.ntmps47
  go_upto_region 1 with fail
  refine wp_gen (fun wz => C3 wz w.heap.size (.int .i64 p) (.int .i64 e) (.int .i64 L) ∧ C4 wz (w.heap.size + 1) (.int .i64 1) (.bool g1) v1 (.int .i64 x1) ∧ C4 wz (w.heap.size + 1 + 1) (.int .i64 0) (.bool g2) v2 (.int .i64 x2) ∧ SN wz v1 s1 ∧ SN wz v2 s2 ∧ Below w.heap.size w wz) ⟨c3_new.past.past, c4_mid.past, c4_third, hS1.below ((((Below.refl _ _).alloc (Nat.le_refl _) _).alloc (by simp) _).alloc (by simp; omega) _), hS2.below ((((Below.refl _ _).alloc (Nat.le_refl _) _).alloc (by simp) _).alloc (by simp; omega) _), ((((Below.refl _ _).alloc (Nat.le_refl _) _).alloc (by simp) _).alloc (by simp; omega) _)⟩ ?_
  rintro w1 ⟨cf, ca, cb, hs1, hs2, hb⟩
  have CF := Hid.mk' cf
  have CA := Hid.mk' ca
  have CB := Hid.mk' cb
  have H1 := Hid.mk' hs1
  have H2 := Hid.mk' hs2
  have HB := Hid.mk' hb
  clear cf ca cb hs1 hs2 hb hS1 hS2
  obtain ⟨q0, q1, q2⟩ := CF.out
  obtain ⟨a0, a1, a2, a3⟩ := CA.out
  obtain ⟨b0, b1, b2, b3⟩ := CB.out
  go_wp2_with (first | (go_at_call 72; refine (KI _).out.mono ?_; rintro e w6 ⟨rfl, hb⟩; have CF := Hid.mk' (CF.out.keep hb); have CA := Hid.mk' (CA.out.keep hb); have CB := Hid.mk' (CB.out.keep hb); have H1 := Hid.mk' (H1.out.below hb); have H2 := Hid.mk' (H2.out.below hb); have HB := Hid.mk' (HB.out.trans (hb.mono HB.out.size)); clear q0 q1 q2 a0 a1 a2 a3 b0 b1 b2 b3; obtain ⟨q0, q1, q2⟩ := CF.out; obtain ⟨a0, a1, a2, a3⟩ := CA.out; obtain ⟨b0, b1, b2, b3⟩ := CB.out; clear hb))
  go_ret
  exact ⟨rfl, HB.out⟩
set_option maxHeartbeats 4000000 in
set_option maxRecDepth 100000 in
theorem sp_01  (p e L : Int) (g1 g2 : Bool) (v1 v2 : Value) (x1 x2 : Int) (s1 s2 : Nat) (w : World) (R : Int) (hS1 : SN w v1 s1) (hS2 : SN w v2 s2) (KI : ∀ w, Hid (Calls Tryd.prog 72 #[(.agg #[.int .i64 p, .int .i64 e, .int .i64 L]), .bool g2] w fun e w' => e = .returned (.int .u64 R) ∧ Below w.heap.size w w')) :
    Calls Tryd.prog 47 #[(.agg #[.int .i64 p, .int .i64 e, .int .i64 L]), SV 0 g1 v1 x1, SV 1 g2 v2 x2] w fun e w' => e = .returned (.int .u64 R) ∧ Below w.heap.size w w' := by
  go_enter Tryd.func47, Tryd.ntmps47
  go_upto_region 1 with fail
  refine wp_gen (fun wz => C3 wz w.heap.size (.int .i64 p) (.int .i64 e) (.int .i64 L) ∧ C4 wz (w.heap.size + 1) (.int .i64 0) (.bool g1) v1 (.int .i64 x1) ∧ C4 wz (w.heap.size + 1 + 1) (.int .i64 1) (.bool g2) v2 (.int .i64 x2) ∧ SN wz v1 s1 ∧ SN wz v2 s2 ∧ Below w.heap.size w wz) ⟨c3_new.past.past, c4_mid.past, c4_third, hS1.below ((((Below.refl _ _).alloc (Nat.le_refl _) _).alloc (by simp) _).alloc (by simp; omega) _), hS2.below ((((Below.refl _ _).alloc (Nat.le_refl _) _).alloc (by simp) _).alloc (by simp; omega) _), ((((Below.refl _ _).alloc (Nat.le_refl _) _).alloc (by simp) _).alloc (by simp; omega) _)⟩ ?_
  rintro w1 ⟨cf, ca, cb, hs1, hs2, hb⟩
  have CF := Hid.mk' cf
  have CA := Hid.mk' ca
  have CB := Hid.mk' cb
  have H1 := Hid.mk' hs1
  have H2 := Hid.mk' hs2
  have HB := Hid.mk' hb
  clear cf ca cb hs1 hs2 hb hS1 hS2
  obtain ⟨q0, q1, q2⟩ := CF.out
  obtain ⟨a0, a1, a2, a3⟩ := CA.out
  obtain ⟨b0, b1, b2, b3⟩ := CB.out
  go_wp2_with (first | (go_at_call 72; refine (KI _).out.mono ?_; rintro e w6 ⟨rfl, hb⟩; have CF := Hid.mk' (CF.out.keep hb); have CA := Hid.mk' (CA.out.keep hb); have CB := Hid.mk' (CB.out.keep hb); have H1 := Hid.mk' (H1.out.below hb); have H2 := Hid.mk' (H2.out.below hb); have HB := Hid.mk' (HB.out.trans (hb.mono HB.out.size)); clear q0 q1 q2 a0 a1 a2 a3 b0 b1 b2 b3; obtain ⟨q0, q1, q2⟩ := CF.out; obtain ⟨a0, a1, a2, a3⟩ := CA.out; obtain ⟨b0, b1, b2, b3⟩ := CB.out; clear hb))
  go_ret
  exact ⟨rfl, HB.out⟩
set_option maxHeartbeats 8000000 in
set_option maxRecDepth 100000 in
theorem sp_add (p e L : Int) (g1 g2 : Bool) (v1 v2 : Value) (x1 x2 : Int) (s1 s2 : Nat) (m : Int) (X Y : Nat) (w : World) (R : Int) (hS1 : SN w v1 s1) (hS2 : SN w v2 s2) (hm : m = min x1 x2) (hX : X = s1 * 2 ^ (x1 - m).toNat) (hY : Y = s2 * 2 ^ (x2 - m).toNat) (hb1 : bl s1 ≤ 60) (hb2 : bl s2 ≤ 60) (hx1 : -1100 ≤ x1) (hx1' : x1 ≤ 1100) (hx2 : -1100 ≤ x2) (hx2' : x2 ≤ 1100) (hg : (g1 == g2) = true) (KR : ∀ (v : Value) (w : World), SN w v (X + Y) → Hid (Calls Tryd.prog 30 #[(.agg #[.int .i64 p, .int .i64 e, .int .i64 L]), .bool g1, v, .int .i64 (m), .bool false] w fun e w' => e = .returned (.int .u64 R) ∧ Below w.heap.size w w')) :
    Calls Tryd.prog 47 #[(.agg #[.int .i64 p, .int .i64 e, .int .i64 L]), SV 0 g1 v1 x1, SV 0 g2 v2 x2] w fun e w' => e = .returned (.int .u64 R) ∧ Below w.heap.size w w' := by
  have bX : bl X ≤ 3000 := by
    rw [hX]
    have := bl_mul2 s1 (2 ^ (x1 - m).toNat)
    have h2 : bl (2 ^ (x1 - m).toNat) ≤ (x1 - m).toNat + 1 := bl_le (by rw [Nat.pow_succ]; have := Nat.two_pow_pos (x1 - m).toNat; omega)
    omega
  have bY : bl Y ≤ 3000 := by
    rw [hY]
    have := bl_mul2 s2 (2 ^ (x2 - m).toNat)
    have h2 : bl (2 ^ (x2 - m).toNat) ≤ (x2 - m).toNat + 1 := bl_le (by rw [Nat.pow_succ]; have := Nat.two_pow_pos (x2 - m).toNat; omega)
    omega
  have K1 : ∀ w n, n = x1 - m → SN w v1 s1 → Hid (Calls Tryd.prog 64 #[v1, .int .i64 n] w fun e w' => (∃ u, e = .returned u ∧ SN w' u X) ∧ Below w.heap.size w w') := fun w n hn hs => by
    subst hn; rw [hX]; exact left_int v1 s1 (x1 - m) w (by omega) (by omega) (by omega) hs
  have K2 : ∀ w n, n = x2 - m → SN w v2 s2 → Hid (Calls Tryd.prog 64 #[v2, .int .i64 n] w fun e w' => (∃ u, e = .returned u ∧ SN w' u Y) ∧ Below w.heap.size w w') := fun w n hn hs => by
    subst hn; rw [hY]; exact left_int v2 s2 (x2 - m) w (by omega) (by omega) (by omega) hs
  clear hX hY hb1 hb2
  have KA : ∀ (u1 u2 : Value) w, SN w u1 X → SN w u2 Y → Hid (Calls Tryd.prog 69 #[u1, u2] w fun e w' => (∃ r, e = .returned r ∧ SN w' r (X + Y)) ∧ Below w.heap.size w w') := fun u1 u2 w h1 h2 => addN_any u1 u2 X Y w (by omega) (by omega) h1 h2
  have HM : Hid (m = min x1 x2) := Hid.mk' hm
  go_enter Tryd.func47, Tryd.ntmps47
  go_upto_region 1 with fail
  refine wp_gen (fun wz => C3 wz w.heap.size (.int .i64 p) (.int .i64 e) (.int .i64 L) ∧ C4 wz (w.heap.size + 1) (.int .i64 0) (.bool g1) v1 (.int .i64 x1) ∧ C4 wz (w.heap.size + 1 + 1) (.int .i64 0) (.bool g2) v2 (.int .i64 x2) ∧ SN wz v1 s1 ∧ SN wz v2 s2 ∧ Below w.heap.size w wz) ⟨c3_new.past.past, c4_mid.past, c4_third, hS1.below ((((Below.refl _ _).alloc (Nat.le_refl _) _).alloc (by simp) _).alloc (by simp; omega) _), hS2.below ((((Below.refl _ _).alloc (Nat.le_refl _) _).alloc (by simp) _).alloc (by simp; omega) _), ((((Below.refl _ _).alloc (Nat.le_refl _) _).alloc (by simp) _).alloc (by simp; omega) _)⟩ ?_
  rintro w1 ⟨cf, ca, cb, hs1, hs2, hb⟩
  have CF := Hid.mk' cf
  have CA := Hid.mk' ca
  have CB := Hid.mk' cb
  have H1 := Hid.mk' hs1
  have H2 := Hid.mk' hs2
  have HB := Hid.mk' hb
  clear cf ca cb hs1 hs2 hb hS1 hS2
  obtain ⟨q0, q1, q2⟩ := CF.out
  obtain ⟨a0, a1, a2, a3⟩ := CA.out
  obtain ⟨b0, b1, b2, b3⟩ := CB.out
  by_cases hx : x2 < x1
  all_goals (
    have hme : m = (if x2 < x1 then x2 else x1) := by rw [hm]; split <;> omega
    first | rw [if_pos hx] at hme | rw [if_neg hx] at hme
    subst hme
    clear hm
    go_wp2_with fail
    refine (K1 _ _ (by omega) H1.out).out.mono ?_
    rintro e w3 ⟨⟨u1, rfl, hu1⟩, hb⟩
    have CF := Hid.mk' (CF.out.keep hb); have CA := Hid.mk' (CA.out.keep hb); have CB := Hid.mk' (CB.out.keep hb); have H1 := Hid.mk' (H1.out.below hb); have H2 := Hid.mk' (H2.out.below hb); have HB := Hid.mk' (HB.out.trans (hb.mono HB.out.size)); clear q0 q1 q2 a0 a1 a2 a3 b0 b1 b2 b3; obtain ⟨q0, q1, q2⟩ := CF.out; obtain ⟨a0, a1, a2, a3⟩ := CA.out; obtain ⟨b0, b1, b2, b3⟩ := CB.out
    have HX := Hid.mk' hu1
    clear hb hu1
    go_wp2_with fail
    refine (K2 _ _ (by omega) H2.out).out.mono ?_
    rintro e w4 ⟨⟨u2, rfl, hu2⟩, hb⟩
    have CF := Hid.mk' (CF.out.keep hb); have CA := Hid.mk' (CA.out.keep hb); have CB := Hid.mk' (CB.out.keep hb); have H1 := Hid.mk' (H1.out.below hb); have H2 := Hid.mk' (H2.out.below hb); have HB := Hid.mk' (HB.out.trans (hb.mono HB.out.size)); clear q0 q1 q2 a0 a1 a2 a3 b0 b1 b2 b3; obtain ⟨q0, q1, q2⟩ := CF.out; obtain ⟨a0, a1, a2, a3⟩ := CA.out; obtain ⟨b0, b1, b2, b3⟩ := CB.out
    have HX := Hid.mk' (HX.out.below hb)
    have HY := Hid.mk' hu2
    clear hb hu2 K1 K2
    go_upto_region 13 with fail
    go_region_held3 (fun w' => w'.cell? ⟨w.heap.size, 0, none⟩ = some (.int .i64 p) ∧ w'.cell? ⟨w.heap.size, 1, none⟩ = some (.int .i64 e) ∧ w'.cell? ⟨w.heap.size, 2, none⟩ = some (.int .i64 L) ∧ w'.cell? ⟨w.heap.size + 1, 1, none⟩ = some (.bool g1) ∧ w'.cell? ⟨w.heap.size + 1 + 1, 1, none⟩ = some (.bool g2)) (exact ⟨q0, q1, q2, a1, b1⟩) (first
      | (go_at_call 69; refine (KA _ _ _ ?_ ?_).out.mono ?_; exact HX.out; exact HY.out; rintro e w6 ⟨⟨p6, rfl, hp6⟩, hb⟩; (first | have hb := undrew hb | skip); have CF := Hid.mk' (CF.out.keep hb); have CA := Hid.mk' (CA.out.keep hb); have CB := Hid.mk' (CB.out.keep hb); have H1 := Hid.mk' (H1.out.below hb); have H2 := Hid.mk' (H2.out.below hb); have HB := Hid.mk' (HB.out.trans (hb.mono HB.out.size)); clear q0 q1 q2 a0 a1 a2 a3 b0 b1 b2 b3; obtain ⟨q0, q1, q2⟩ := CF.out; obtain ⟨a0, a1, a2, a3⟩ := CA.out; obtain ⟨b0, b1, b2, b3⟩ := CB.out; have HX := Hid.mk' (HX.out.below hb); have HY := Hid.mk' (HY.out.below hb); have HP := Hid.mk' hp6; clear hb hp6)
      | (go_at_call 30; refine (KR _ _ ?_).out.mono ?_; exact HP.out; rintro e w8 ⟨rfl, hb⟩; (first | have hb := undrew hb | skip); have CF := Hid.mk' (CF.out.keep hb); have CA := Hid.mk' (CA.out.keep hb); have CB := Hid.mk' (CB.out.keep hb); have H1 := Hid.mk' (H1.out.below hb); have H2 := Hid.mk' (H2.out.below hb); have HB := Hid.mk' (HB.out.trans (hb.mono HB.out.size)); clear q0 q1 q2 a0 a1 a2 a3 b0 b1 b2 b3; obtain ⟨q0, q1, q2⟩ := CF.out; obtain ⟨a0, a1, a2, a3⟩ := CA.out; obtain ⟨b0, b1, b2, b3⟩ := CB.out; have HX := Hid.mk' (HX.out.below hb); have HY := Hid.mk' (HY.out.below hb); clear hb))
    all_goals go_wp2
    all_goals go_ret
    all_goals exact ⟨rfl, HB.out⟩
)
set_option maxHeartbeats 8000000 in
set_option maxRecDepth 100000 in
theorem sp_eq (p e L : Int) (g1 g2 : Bool) (v1 v2 : Value) (x1 x2 : Int) (s1 s2 : Nat) (m : Int) (X Y : Nat) (w : World) (R : Int) (hS1 : SN w v1 s1) (hS2 : SN w v2 s2) (hm : m = min x1 x2) (hX : X = s1 * 2 ^ (x1 - m).toNat) (hY : Y = s2 * 2 ^ (x2 - m).toNat) (hb1 : bl s1 ≤ 60) (hb2 : bl s2 ≤ 60) (hx1 : -1100 ≤ x1) (hx1' : x1 ≤ 1100) (hx2 : -1100 ≤ x2) (hx2' : x2 ≤ 1100) (hg : (g1 == g2) = false) (hXY : X = Y) (hR : R = 0) :
    Calls Tryd.prog 47 #[(.agg #[.int .i64 p, .int .i64 e, .int .i64 L]), SV 0 g1 v1 x1, SV 0 g2 v2 x2] w fun e w' => e = .returned (.int .u64 R) ∧ Below w.heap.size w w' := by
  have bX : bl X ≤ 3000 := by
    rw [hX]
    have := bl_mul2 s1 (2 ^ (x1 - m).toNat)
    have h2 : bl (2 ^ (x1 - m).toNat) ≤ (x1 - m).toNat + 1 := bl_le (by rw [Nat.pow_succ]; have := Nat.two_pow_pos (x1 - m).toNat; omega)
    omega
  have bY : bl Y ≤ 3000 := by
    rw [hY]
    have := bl_mul2 s2 (2 ^ (x2 - m).toNat)
    have h2 : bl (2 ^ (x2 - m).toNat) ≤ (x2 - m).toNat + 1 := bl_le (by rw [Nat.pow_succ]; have := Nat.two_pow_pos (x2 - m).toNat; omega)
    omega
  have K1 : ∀ w n, n = x1 - m → SN w v1 s1 → Hid (Calls Tryd.prog 64 #[v1, .int .i64 n] w fun e w' => (∃ u, e = .returned u ∧ SN w' u X) ∧ Below w.heap.size w w') := fun w n hn hs => by
    subst hn; rw [hX]; exact left_int v1 s1 (x1 - m) w (by omega) (by omega) (by omega) hs
  have K2 : ∀ w n, n = x2 - m → SN w v2 s2 → Hid (Calls Tryd.prog 64 #[v2, .int .i64 n] w fun e w' => (∃ u, e = .returned u ∧ SN w' u Y) ∧ Below w.heap.size w w') := fun w n hn hs => by
    subst hn; rw [hY]; exact left_int v2 s2 (x2 - m) w (by omega) (by omega) (by omega) hs
  clear hX hY hb1 hb2
  have CZ : cmpI X Y = 0 := by unfold cmpI; rw [if_neg (by omega), if_pos hXY]
  have KC : ∀ (u1 u2 : Value) w, SN w u1 X → SN w u2 Y → Hid (Calls Tryd.prog 70 #[u1, u2] w fun e w' => e = .returned (.int .i64 0) ∧ w = w') := fun u1 u2 w h1 h2 => by
    have h := compare_any u1 u2 X Y w (by omega) (by omega) h1 h2
    rw [CZ] at h
    exact h
  clear hXY CZ
  subst hR
  have HM : Hid (m = min x1 x2) := Hid.mk' hm
  go_enter Tryd.func47, Tryd.ntmps47
  go_upto_region 1 with fail
  refine wp_gen (fun wz => C3 wz w.heap.size (.int .i64 p) (.int .i64 e) (.int .i64 L) ∧ C4 wz (w.heap.size + 1) (.int .i64 0) (.bool g1) v1 (.int .i64 x1) ∧ C4 wz (w.heap.size + 1 + 1) (.int .i64 0) (.bool g2) v2 (.int .i64 x2) ∧ SN wz v1 s1 ∧ SN wz v2 s2 ∧ Below w.heap.size w wz) ⟨c3_new.past.past, c4_mid.past, c4_third, hS1.below ((((Below.refl _ _).alloc (Nat.le_refl _) _).alloc (by simp) _).alloc (by simp; omega) _), hS2.below ((((Below.refl _ _).alloc (Nat.le_refl _) _).alloc (by simp) _).alloc (by simp; omega) _), ((((Below.refl _ _).alloc (Nat.le_refl _) _).alloc (by simp) _).alloc (by simp; omega) _)⟩ ?_
  rintro w1 ⟨cf, ca, cb, hs1, hs2, hb⟩
  have CF := Hid.mk' cf
  have CA := Hid.mk' ca
  have CB := Hid.mk' cb
  have H1 := Hid.mk' hs1
  have H2 := Hid.mk' hs2
  have HB := Hid.mk' hb
  clear cf ca cb hs1 hs2 hb hS1 hS2
  obtain ⟨q0, q1, q2⟩ := CF.out
  obtain ⟨a0, a1, a2, a3⟩ := CA.out
  obtain ⟨b0, b1, b2, b3⟩ := CB.out
  by_cases hx : x2 < x1
  all_goals (
    have hme : m = (if x2 < x1 then x2 else x1) := by rw [hm]; split <;> omega
    first | rw [if_pos hx] at hme | rw [if_neg hx] at hme
    subst hme
    clear hm
    go_wp2_with fail
    refine (K1 _ _ (by omega) H1.out).out.mono ?_
    rintro e w3 ⟨⟨u1, rfl, hu1⟩, hb⟩
    have CF := Hid.mk' (CF.out.keep hb); have CA := Hid.mk' (CA.out.keep hb); have CB := Hid.mk' (CB.out.keep hb); have H1 := Hid.mk' (H1.out.below hb); have H2 := Hid.mk' (H2.out.below hb); have HB := Hid.mk' (HB.out.trans (hb.mono HB.out.size)); clear q0 q1 q2 a0 a1 a2 a3 b0 b1 b2 b3; obtain ⟨q0, q1, q2⟩ := CF.out; obtain ⟨a0, a1, a2, a3⟩ := CA.out; obtain ⟨b0, b1, b2, b3⟩ := CB.out
    have HX := Hid.mk' hu1
    clear hb hu1
    go_wp2_with fail
    refine (K2 _ _ (by omega) H2.out).out.mono ?_
    rintro e w4 ⟨⟨u2, rfl, hu2⟩, hb⟩
    have CF := Hid.mk' (CF.out.keep hb); have CA := Hid.mk' (CA.out.keep hb); have CB := Hid.mk' (CB.out.keep hb); have H1 := Hid.mk' (H1.out.below hb); have H2 := Hid.mk' (H2.out.below hb); have HB := Hid.mk' (HB.out.trans (hb.mono HB.out.size)); clear q0 q1 q2 a0 a1 a2 a3 b0 b1 b2 b3; obtain ⟨q0, q1, q2⟩ := CF.out; obtain ⟨a0, a1, a2, a3⟩ := CA.out; obtain ⟨b0, b1, b2, b3⟩ := CB.out
    have HX := Hid.mk' (HX.out.below hb)
    have HY := Hid.mk' hu2
    clear hb hu2 K1 K2
    go_wp2_with fail
    refine (KC _ _ _ HX.out HY.out).out.mono ?_
    rintro e w5 ⟨rfl, rfl⟩
    go_wp2
    go_ret
    exact ⟨rfl, HB.out⟩
)
set_option maxHeartbeats 8000000 in
set_option maxRecDepth 100000 in
theorem sp_gt (p e L : Int) (g1 g2 : Bool) (v1 v2 : Value) (x1 x2 : Int) (s1 s2 : Nat) (m : Int) (X Y : Nat) (w : World) (R : Int) (hS1 : SN w v1 s1) (hS2 : SN w v2 s2) (hm : m = min x1 x2) (hX : X = s1 * 2 ^ (x1 - m).toNat) (hY : Y = s2 * 2 ^ (x2 - m).toNat) (hb1 : bl s1 ≤ 60) (hb2 : bl s2 ≤ 60) (hx1 : -1100 ≤ x1) (hx1' : x1 ≤ 1100) (hx2 : -1100 ≤ x2) (hx2' : x2 ≤ 1100) (hg : (g1 == g2) = false) (hXY : Y < X) (KR : ∀ (v : Value) (w : World), SN w v (X - Y) → Hid (Calls Tryd.prog 30 #[(.agg #[.int .i64 p, .int .i64 e, .int .i64 L]), .bool g1, v, .int .i64 (m), .bool false] w fun e w' => e = .returned (.int .u64 R) ∧ Below w.heap.size w w')) :
    Calls Tryd.prog 47 #[(.agg #[.int .i64 p, .int .i64 e, .int .i64 L]), SV 0 g1 v1 x1, SV 0 g2 v2 x2] w fun e w' => e = .returned (.int .u64 R) ∧ Below w.heap.size w w' := by
  have bX : bl X ≤ 3000 := by
    rw [hX]
    have := bl_mul2 s1 (2 ^ (x1 - m).toNat)
    have h2 : bl (2 ^ (x1 - m).toNat) ≤ (x1 - m).toNat + 1 := bl_le (by rw [Nat.pow_succ]; have := Nat.two_pow_pos (x1 - m).toNat; omega)
    omega
  have bY : bl Y ≤ 3000 := by
    rw [hY]
    have := bl_mul2 s2 (2 ^ (x2 - m).toNat)
    have h2 : bl (2 ^ (x2 - m).toNat) ≤ (x2 - m).toNat + 1 := bl_le (by rw [Nat.pow_succ]; have := Nat.two_pow_pos (x2 - m).toNat; omega)
    omega
  have K1 : ∀ w n, n = x1 - m → SN w v1 s1 → Hid (Calls Tryd.prog 64 #[v1, .int .i64 n] w fun e w' => (∃ u, e = .returned u ∧ SN w' u X) ∧ Below w.heap.size w w') := fun w n hn hs => by
    subst hn; rw [hX]; exact left_int v1 s1 (x1 - m) w (by omega) (by omega) (by omega) hs
  have K2 : ∀ w n, n = x2 - m → SN w v2 s2 → Hid (Calls Tryd.prog 64 #[v2, .int .i64 n] w fun e w' => (∃ u, e = .returned u ∧ SN w' u Y) ∧ Below w.heap.size w w') := fun w n hn hs => by
    subst hn; rw [hY]; exact left_int v2 s2 (x2 - m) w (by omega) (by omega) (by omega) hs
  clear hX hY hb1 hb2
  have CZ : cmpI X Y = 1 := by unfold cmpI; rw [if_neg (by omega), if_neg (by omega)]
  have KC : ∀ (u1 u2 : Value) w, SN w u1 X → SN w u2 Y → Hid (Calls Tryd.prog 70 #[u1, u2] w fun e w' => e = .returned (.int .i64 1) ∧ w = w') := fun u1 u2 w h1 h2 => by
    have h := compare_any u1 u2 X Y w (by omega) (by omega) h1 h2
    rw [CZ] at h
    exact h
  have KA : ∀ (u1 u2 : Value) w, SN w u1 X → SN w u2 Y → Hid (Calls Tryd.prog 91 #[u1, u2] w fun e w' => (∃ r, e = .returned r ∧ SN w' r (X - Y)) ∧ Below w.heap.size w w') := fun u1 u2 w h1 h2 => subN_any u1 u2 X Y w (by omega) (by omega) h1 h2
  clear hXY CZ
  have HM : Hid (m = min x1 x2) := Hid.mk' hm
  go_enter Tryd.func47, Tryd.ntmps47
  go_upto_region 1 with fail
  refine wp_gen (fun wz => C3 wz w.heap.size (.int .i64 p) (.int .i64 e) (.int .i64 L) ∧ C4 wz (w.heap.size + 1) (.int .i64 0) (.bool g1) v1 (.int .i64 x1) ∧ C4 wz (w.heap.size + 1 + 1) (.int .i64 0) (.bool g2) v2 (.int .i64 x2) ∧ SN wz v1 s1 ∧ SN wz v2 s2 ∧ Below w.heap.size w wz) ⟨c3_new.past.past, c4_mid.past, c4_third, hS1.below ((((Below.refl _ _).alloc (Nat.le_refl _) _).alloc (by simp) _).alloc (by simp; omega) _), hS2.below ((((Below.refl _ _).alloc (Nat.le_refl _) _).alloc (by simp) _).alloc (by simp; omega) _), ((((Below.refl _ _).alloc (Nat.le_refl _) _).alloc (by simp) _).alloc (by simp; omega) _)⟩ ?_
  rintro w1 ⟨cf, ca, cb, hs1, hs2, hb⟩
  have CF := Hid.mk' cf
  have CA := Hid.mk' ca
  have CB := Hid.mk' cb
  have H1 := Hid.mk' hs1
  have H2 := Hid.mk' hs2
  have HB := Hid.mk' hb
  clear cf ca cb hs1 hs2 hb hS1 hS2
  obtain ⟨q0, q1, q2⟩ := CF.out
  obtain ⟨a0, a1, a2, a3⟩ := CA.out
  obtain ⟨b0, b1, b2, b3⟩ := CB.out
  by_cases hx : x2 < x1
  all_goals (
    have hme : m = (if x2 < x1 then x2 else x1) := by rw [hm]; split <;> omega
    first | rw [if_pos hx] at hme | rw [if_neg hx] at hme
    subst hme
    clear hm
    go_wp2_with fail
    refine (K1 _ _ (by omega) H1.out).out.mono ?_
    rintro e w3 ⟨⟨u1, rfl, hu1⟩, hb⟩
    have CF := Hid.mk' (CF.out.keep hb); have CA := Hid.mk' (CA.out.keep hb); have CB := Hid.mk' (CB.out.keep hb); have H1 := Hid.mk' (H1.out.below hb); have H2 := Hid.mk' (H2.out.below hb); have HB := Hid.mk' (HB.out.trans (hb.mono HB.out.size)); clear q0 q1 q2 a0 a1 a2 a3 b0 b1 b2 b3; obtain ⟨q0, q1, q2⟩ := CF.out; obtain ⟨a0, a1, a2, a3⟩ := CA.out; obtain ⟨b0, b1, b2, b3⟩ := CB.out
    have HX := Hid.mk' hu1
    clear hb hu1
    go_wp2_with fail
    refine (K2 _ _ (by omega) H2.out).out.mono ?_
    rintro e w4 ⟨⟨u2, rfl, hu2⟩, hb⟩
    have CF := Hid.mk' (CF.out.keep hb); have CA := Hid.mk' (CA.out.keep hb); have CB := Hid.mk' (CB.out.keep hb); have H1 := Hid.mk' (H1.out.below hb); have H2 := Hid.mk' (H2.out.below hb); have HB := Hid.mk' (HB.out.trans (hb.mono HB.out.size)); clear q0 q1 q2 a0 a1 a2 a3 b0 b1 b2 b3; obtain ⟨q0, q1, q2⟩ := CF.out; obtain ⟨a0, a1, a2, a3⟩ := CA.out; obtain ⟨b0, b1, b2, b3⟩ := CB.out
    have HX := Hid.mk' (HX.out.below hb)
    have HY := Hid.mk' hu2
    clear hb hu2 K1 K2
    go_wp2_with fail
    refine (KC _ _ _ HX.out HY.out).out.mono ?_
    rintro e w5 ⟨rfl, rfl⟩
    go_upto_region 18 with fail
    go_region_held3 (fun w' => w'.cell? ⟨w.heap.size, 0, none⟩ = some (.int .i64 p) ∧ w'.cell? ⟨w.heap.size, 1, none⟩ = some (.int .i64 e) ∧ w'.cell? ⟨w.heap.size, 2, none⟩ = some (.int .i64 L) ∧ w'.cell? ⟨w.heap.size + 1, 1, none⟩ = some (.bool g1) ∧ w'.cell? ⟨w.heap.size + 1 + 1, 1, none⟩ = some (.bool g2)) (exact ⟨q0, q1, q2, a1, b1⟩) (first
      | (go_at_call 91; refine (KA _ _ _ ?_ ?_).out.mono ?_; exact HX.out; exact HY.out; rintro e w6 ⟨⟨p6, rfl, hp6⟩, hb⟩; (first | have hb := undrew hb | skip); have CF := Hid.mk' (CF.out.keep hb); have CA := Hid.mk' (CA.out.keep hb); have CB := Hid.mk' (CB.out.keep hb); have H1 := Hid.mk' (H1.out.below hb); have H2 := Hid.mk' (H2.out.below hb); have HB := Hid.mk' (HB.out.trans (hb.mono HB.out.size)); clear q0 q1 q2 a0 a1 a2 a3 b0 b1 b2 b3; obtain ⟨q0, q1, q2⟩ := CF.out; obtain ⟨a0, a1, a2, a3⟩ := CA.out; obtain ⟨b0, b1, b2, b3⟩ := CB.out; have HX := Hid.mk' (HX.out.below hb); have HY := Hid.mk' (HY.out.below hb); have HP := Hid.mk' hp6; clear hb hp6)
      | (go_at_call 30; refine (KR _ _ ?_).out.mono ?_; exact HP.out; rintro e w8 ⟨rfl, hb⟩; (first | have hb := undrew hb | skip); have CF := Hid.mk' (CF.out.keep hb); have CA := Hid.mk' (CA.out.keep hb); have CB := Hid.mk' (CB.out.keep hb); have H1 := Hid.mk' (H1.out.below hb); have H2 := Hid.mk' (H2.out.below hb); have HB := Hid.mk' (HB.out.trans (hb.mono HB.out.size)); clear q0 q1 q2 a0 a1 a2 a3 b0 b1 b2 b3; obtain ⟨q0, q1, q2⟩ := CF.out; obtain ⟨a0, a1, a2, a3⟩ := CA.out; obtain ⟨b0, b1, b2, b3⟩ := CB.out; have HX := Hid.mk' (HX.out.below hb); have HY := Hid.mk' (HY.out.below hb); clear hb))
    all_goals go_wp2
    all_goals go_ret
    all_goals exact ⟨rfl, HB.out⟩
)
set_option maxHeartbeats 8000000 in
set_option maxRecDepth 100000 in
theorem sp_lt (p e L : Int) (g1 g2 : Bool) (v1 v2 : Value) (x1 x2 : Int) (s1 s2 : Nat) (m : Int) (X Y : Nat) (w : World) (R : Int) (hS1 : SN w v1 s1) (hS2 : SN w v2 s2) (hm : m = min x1 x2) (hX : X = s1 * 2 ^ (x1 - m).toNat) (hY : Y = s2 * 2 ^ (x2 - m).toNat) (hb1 : bl s1 ≤ 60) (hb2 : bl s2 ≤ 60) (hx1 : -1100 ≤ x1) (hx1' : x1 ≤ 1100) (hx2 : -1100 ≤ x2) (hx2' : x2 ≤ 1100) (hg : (g1 == g2) = false) (hXY : X < Y) (KR : ∀ (v : Value) (w : World), SN w v (Y - X) → Hid (Calls Tryd.prog 30 #[(.agg #[.int .i64 p, .int .i64 e, .int .i64 L]), .bool g2, v, .int .i64 (m), .bool false] w fun e w' => e = .returned (.int .u64 R) ∧ Below w.heap.size w w')) :
    Calls Tryd.prog 47 #[(.agg #[.int .i64 p, .int .i64 e, .int .i64 L]), SV 0 g1 v1 x1, SV 0 g2 v2 x2] w fun e w' => e = .returned (.int .u64 R) ∧ Below w.heap.size w w' := by
  have bX : bl X ≤ 3000 := by
    rw [hX]
    have := bl_mul2 s1 (2 ^ (x1 - m).toNat)
    have h2 : bl (2 ^ (x1 - m).toNat) ≤ (x1 - m).toNat + 1 := bl_le (by rw [Nat.pow_succ]; have := Nat.two_pow_pos (x1 - m).toNat; omega)
    omega
  have bY : bl Y ≤ 3000 := by
    rw [hY]
    have := bl_mul2 s2 (2 ^ (x2 - m).toNat)
    have h2 : bl (2 ^ (x2 - m).toNat) ≤ (x2 - m).toNat + 1 := bl_le (by rw [Nat.pow_succ]; have := Nat.two_pow_pos (x2 - m).toNat; omega)
    omega
  have K1 : ∀ w n, n = x1 - m → SN w v1 s1 → Hid (Calls Tryd.prog 64 #[v1, .int .i64 n] w fun e w' => (∃ u, e = .returned u ∧ SN w' u X) ∧ Below w.heap.size w w') := fun w n hn hs => by
    subst hn; rw [hX]; exact left_int v1 s1 (x1 - m) w (by omega) (by omega) (by omega) hs
  have K2 : ∀ w n, n = x2 - m → SN w v2 s2 → Hid (Calls Tryd.prog 64 #[v2, .int .i64 n] w fun e w' => (∃ u, e = .returned u ∧ SN w' u Y) ∧ Below w.heap.size w w') := fun w n hn hs => by
    subst hn; rw [hY]; exact left_int v2 s2 (x2 - m) w (by omega) (by omega) (by omega) hs
  clear hX hY hb1 hb2
  have CZ : cmpI X Y = -1 := by unfold cmpI; rw [if_pos hXY]
  have KC : ∀ (u1 u2 : Value) w, SN w u1 X → SN w u2 Y → Hid (Calls Tryd.prog 70 #[u1, u2] w fun e w' => e = .returned (.int .i64 (-1)) ∧ w = w') := fun u1 u2 w h1 h2 => by
    have h := compare_any u1 u2 X Y w (by omega) (by omega) h1 h2
    rw [CZ] at h
    exact h
  have KA : ∀ (u1 u2 : Value) w, SN w u1 Y → SN w u2 X → Hid (Calls Tryd.prog 91 #[u1, u2] w fun e w' => (∃ r, e = .returned r ∧ SN w' r (Y - X)) ∧ Below w.heap.size w w') := fun u1 u2 w h1 h2 => subN_any u1 u2 Y X w (by omega) (by omega) h1 h2
  clear hXY CZ
  have HM : Hid (m = min x1 x2) := Hid.mk' hm
  go_enter Tryd.func47, Tryd.ntmps47
  go_upto_region 1 with fail
  refine wp_gen (fun wz => C3 wz w.heap.size (.int .i64 p) (.int .i64 e) (.int .i64 L) ∧ C4 wz (w.heap.size + 1) (.int .i64 0) (.bool g1) v1 (.int .i64 x1) ∧ C4 wz (w.heap.size + 1 + 1) (.int .i64 0) (.bool g2) v2 (.int .i64 x2) ∧ SN wz v1 s1 ∧ SN wz v2 s2 ∧ Below w.heap.size w wz) ⟨c3_new.past.past, c4_mid.past, c4_third, hS1.below ((((Below.refl _ _).alloc (Nat.le_refl _) _).alloc (by simp) _).alloc (by simp; omega) _), hS2.below ((((Below.refl _ _).alloc (Nat.le_refl _) _).alloc (by simp) _).alloc (by simp; omega) _), ((((Below.refl _ _).alloc (Nat.le_refl _) _).alloc (by simp) _).alloc (by simp; omega) _)⟩ ?_
  rintro w1 ⟨cf, ca, cb, hs1, hs2, hb⟩
  have CF := Hid.mk' cf
  have CA := Hid.mk' ca
  have CB := Hid.mk' cb
  have H1 := Hid.mk' hs1
  have H2 := Hid.mk' hs2
  have HB := Hid.mk' hb
  clear cf ca cb hs1 hs2 hb hS1 hS2
  obtain ⟨q0, q1, q2⟩ := CF.out
  obtain ⟨a0, a1, a2, a3⟩ := CA.out
  obtain ⟨b0, b1, b2, b3⟩ := CB.out
  by_cases hx : x2 < x1
  all_goals (
    have hme : m = (if x2 < x1 then x2 else x1) := by rw [hm]; split <;> omega
    first | rw [if_pos hx] at hme | rw [if_neg hx] at hme
    subst hme
    clear hm
    go_wp2_with fail
    refine (K1 _ _ (by omega) H1.out).out.mono ?_
    rintro e w3 ⟨⟨u1, rfl, hu1⟩, hb⟩
    have CF := Hid.mk' (CF.out.keep hb); have CA := Hid.mk' (CA.out.keep hb); have CB := Hid.mk' (CB.out.keep hb); have H1 := Hid.mk' (H1.out.below hb); have H2 := Hid.mk' (H2.out.below hb); have HB := Hid.mk' (HB.out.trans (hb.mono HB.out.size)); clear q0 q1 q2 a0 a1 a2 a3 b0 b1 b2 b3; obtain ⟨q0, q1, q2⟩ := CF.out; obtain ⟨a0, a1, a2, a3⟩ := CA.out; obtain ⟨b0, b1, b2, b3⟩ := CB.out
    have HX := Hid.mk' hu1
    clear hb hu1
    go_wp2_with fail
    refine (K2 _ _ (by omega) H2.out).out.mono ?_
    rintro e w4 ⟨⟨u2, rfl, hu2⟩, hb⟩
    have CF := Hid.mk' (CF.out.keep hb); have CA := Hid.mk' (CA.out.keep hb); have CB := Hid.mk' (CB.out.keep hb); have H1 := Hid.mk' (H1.out.below hb); have H2 := Hid.mk' (H2.out.below hb); have HB := Hid.mk' (HB.out.trans (hb.mono HB.out.size)); clear q0 q1 q2 a0 a1 a2 a3 b0 b1 b2 b3; obtain ⟨q0, q1, q2⟩ := CF.out; obtain ⟨a0, a1, a2, a3⟩ := CA.out; obtain ⟨b0, b1, b2, b3⟩ := CB.out
    have HX := Hid.mk' (HX.out.below hb)
    have HY := Hid.mk' hu2
    clear hb hu2 K1 K2
    go_wp2_with fail
    refine (KC _ _ _ HX.out HY.out).out.mono ?_
    rintro e w5 ⟨rfl, rfl⟩
    go_upto_region 19 with fail
    go_region_held3 (fun w' => w'.cell? ⟨w.heap.size, 0, none⟩ = some (.int .i64 p) ∧ w'.cell? ⟨w.heap.size, 1, none⟩ = some (.int .i64 e) ∧ w'.cell? ⟨w.heap.size, 2, none⟩ = some (.int .i64 L) ∧ w'.cell? ⟨w.heap.size + 1, 1, none⟩ = some (.bool g1) ∧ w'.cell? ⟨w.heap.size + 1 + 1, 1, none⟩ = some (.bool g2)) (exact ⟨q0, q1, q2, a1, b1⟩) (first
      | (go_at_call 91; refine (KA _ _ _ ?_ ?_).out.mono ?_; exact HY.out; exact HX.out; rintro e w6 ⟨⟨p6, rfl, hp6⟩, hb⟩; (first | have hb := undrew hb | skip); have CF := Hid.mk' (CF.out.keep hb); have CA := Hid.mk' (CA.out.keep hb); have CB := Hid.mk' (CB.out.keep hb); have H1 := Hid.mk' (H1.out.below hb); have H2 := Hid.mk' (H2.out.below hb); have HB := Hid.mk' (HB.out.trans (hb.mono HB.out.size)); clear q0 q1 q2 a0 a1 a2 a3 b0 b1 b2 b3; obtain ⟨q0, q1, q2⟩ := CF.out; obtain ⟨a0, a1, a2, a3⟩ := CA.out; obtain ⟨b0, b1, b2, b3⟩ := CB.out; have HX := Hid.mk' (HX.out.below hb); have HY := Hid.mk' (HY.out.below hb); have HP := Hid.mk' hp6; clear hb hp6)
      | (go_at_call 30; refine (KR _ _ ?_).out.mono ?_; exact HP.out; rintro e w8 ⟨rfl, hb⟩; (first | have hb := undrew hb | skip); have CF := Hid.mk' (CF.out.keep hb); have CA := Hid.mk' (CA.out.keep hb); have CB := Hid.mk' (CB.out.keep hb); have H1 := Hid.mk' (H1.out.below hb); have H2 := Hid.mk' (H2.out.below hb); have HB := Hid.mk' (HB.out.trans (hb.mono HB.out.size)); clear q0 q1 q2 a0 a1 a2 a3 b0 b1 b2 b3; obtain ⟨q0, q1, q2⟩ := CF.out; obtain ⟨a0, a1, a2, a3⟩ := CA.out; obtain ⟨b0, b1, b2, b3⟩ := CB.out; have HX := Hid.mk' (HX.out.below hb); have HY := Hid.mk' (HY.out.below hb); clear hb))
    all_goals go_wp2
    all_goals go_ret
    all_goals exact ⟨rfl, HB.out⟩
)
end Go.Proofs.YthmppcfhbbjhlaaDoor
namespace Go.Proofs.YthmppcfhbbjhlaaDoor
open Go.RowKit Go.Sort

set_option maxHeartbeats 8000000 in
set_option maxRecDepth 100000 in
theorem ls_zz  (g1 g2 : Bool) (v1 v2 : Value) (x1 x2 : Int) (s1 s2 : Nat) (w : World) (hS1 : SN w v1 s1) (hS2 : SN w v2 s2) (KZ1 : ∀ w, SN w v1 s1 → Hid (Calls Tryd.prog 66 #[SV 0 g1 v1 x1] w fun e w' => e = .returned (.bool true) ∧ Below w.heap.size w w')) (KZ2 : ∀ w, SN w v2 s2 → Hid (Calls Tryd.prog 66 #[SV 0 g2 v2 x2] w fun e w' => e = .returned (.bool true) ∧ Below w.heap.size w w')) :
    Calls Tryd.prog 90 #[SV 0 g1 v1 x1, SV 0 g2 v2 x2] w fun e w' => e = .returned (.bool false) ∧ Below w.heap.size w w' := by
  go_enter Tryd.func90, Tryd.ntmps90
  go_upto_region 1 with fail
  refine wp_gen (fun wz => C4 wz w.heap.size (.int .i64 0) (.bool g1) v1 (.int .i64 x1) ∧ C4 wz (w.heap.size + 1) (.int .i64 0) (.bool g2) v2 (.int .i64 x2) ∧ SN wz v1 s1 ∧ SN wz v2 s2 ∧ Below w.heap.size w wz) ⟨c4_new.past, c4_mid, hS1.below (((Below.refl _ _).alloc (Nat.le_refl _) _).alloc (by simp) _), hS2.below (((Below.refl _ _).alloc (Nat.le_refl _) _).alloc (by simp) _), (((Below.refl _ _).alloc (Nat.le_refl _) _).alloc (by simp) _)⟩ ?_
  rintro w1 ⟨ca, cb, hs1, hs2, hb⟩
  have CA := Hid.mk' ca
  have CB := Hid.mk' cb
  have H1 := Hid.mk' hs1
  have H2 := Hid.mk' hs2
  have HB := Hid.mk' hb
  clear ca cb hs1 hs2 hb hS1 hS2
  obtain ⟨a0, a1, a2, a3⟩ := CA.out
  obtain ⟨b0, b1, b2, b3⟩ := CB.out
  go_wp2_with (first | (go_at_call 66; (first | (with_reducible refine (KZ1 _ H1.out).out.mono ?_) | (with_reducible refine (KZ2 _ H2.out).out.mono ?_)); rintro e w6 ⟨rfl, hb⟩; have CA := Hid.mk' (CA.out.keep hb); have CB := Hid.mk' (CB.out.keep hb); have H1 := Hid.mk' (H1.out.below hb); have H2 := Hid.mk' (H2.out.below hb); have HB := Hid.mk' (HB.out.trans (hb.mono HB.out.size)); clear a0 a1 a2 a3 b0 b1 b2 b3; obtain ⟨a0, a1, a2, a3⟩ := CA.out; obtain ⟨b0, b1, b2, b3⟩ := CB.out; clear hb))
  go_ret
  exact ⟨rfl, HB.out⟩
set_option maxHeartbeats 8000000 in
set_option maxRecDepth 100000 in
theorem ls_gn (k1 k2 : Int) (g1 g2 : Bool) (v1 v2 : Value) (x1 x2 : Int) (s1 s2 : Nat) (w : World) (hS1 : SN w v1 s1) (hS2 : SN w v2 s2) (hg : (g1 == g2) = false) (KZ1 : ∀ w, SN w v1 s1 → Hid (Calls Tryd.prog 66 #[SV k1 g1 v1 x1] w fun e w' => e = .returned (.bool false) ∧ Below w.heap.size w w')) :
    Calls Tryd.prog 90 #[SV k1 g1 v1 x1, SV k2 g2 v2 x2] w fun e w' => e = .returned (.bool g1) ∧ Below w.heap.size w w' := by
  go_enter Tryd.func90, Tryd.ntmps90
  go_upto_region 1 with fail
  refine wp_gen (fun wz => C4 wz w.heap.size (.int .i64 k1) (.bool g1) v1 (.int .i64 x1) ∧ C4 wz (w.heap.size + 1) (.int .i64 k2) (.bool g2) v2 (.int .i64 x2) ∧ SN wz v1 s1 ∧ SN wz v2 s2 ∧ Below w.heap.size w wz) ⟨c4_new.past, c4_mid, hS1.below (((Below.refl _ _).alloc (Nat.le_refl _) _).alloc (by simp) _), hS2.below (((Below.refl _ _).alloc (Nat.le_refl _) _).alloc (by simp) _), (((Below.refl _ _).alloc (Nat.le_refl _) _).alloc (by simp) _)⟩ ?_
  rintro w1 ⟨ca, cb, hs1, hs2, hb⟩
  have CA := Hid.mk' ca
  have CB := Hid.mk' cb
  have H1 := Hid.mk' hs1
  have H2 := Hid.mk' hs2
  have HB := Hid.mk' hb
  clear ca cb hs1 hs2 hb hS1 hS2
  obtain ⟨a0, a1, a2, a3⟩ := CA.out
  obtain ⟨b0, b1, b2, b3⟩ := CB.out
  go_wp2_with (first | (go_at_call 66; (first | (with_reducible refine (KZ1 _ H1.out).out.mono ?_)); rintro e w6 ⟨rfl, hb⟩; have CA := Hid.mk' (CA.out.keep hb); have CB := Hid.mk' (CB.out.keep hb); have H1 := Hid.mk' (H1.out.below hb); have H2 := Hid.mk' (H2.out.below hb); have HB := Hid.mk' (HB.out.trans (hb.mono HB.out.size)); clear a0 a1 a2 a3 b0 b1 b2 b3; obtain ⟨a0, a1, a2, a3⟩ := CA.out; obtain ⟨b0, b1, b2, b3⟩ := CB.out; clear hb))
  go_ret
  exact ⟨rfl, HB.out⟩
set_option maxHeartbeats 8000000 in
set_option maxRecDepth 100000 in
theorem ls_gz (k1 k2 : Int) (g1 g2 : Bool) (v1 v2 : Value) (x1 x2 : Int) (s1 s2 : Nat) (w : World) (hS1 : SN w v1 s1) (hS2 : SN w v2 s2) (hg : (g1 == g2) = false) (KZ1 : ∀ w, SN w v1 s1 → Hid (Calls Tryd.prog 66 #[SV k1 g1 v1 x1] w fun e w' => e = .returned (.bool true) ∧ Below w.heap.size w w')) (KZ2 : ∀ w, SN w v2 s2 → Hid (Calls Tryd.prog 66 #[SV k2 g2 v2 x2] w fun e w' => e = .returned (.bool false) ∧ Below w.heap.size w w')) :
    Calls Tryd.prog 90 #[SV k1 g1 v1 x1, SV k2 g2 v2 x2] w fun e w' => e = .returned (.bool g1) ∧ Below w.heap.size w w' := by
  go_enter Tryd.func90, Tryd.ntmps90
  go_upto_region 1 with fail
  refine wp_gen (fun wz => C4 wz w.heap.size (.int .i64 k1) (.bool g1) v1 (.int .i64 x1) ∧ C4 wz (w.heap.size + 1) (.int .i64 k2) (.bool g2) v2 (.int .i64 x2) ∧ SN wz v1 s1 ∧ SN wz v2 s2 ∧ Below w.heap.size w wz) ⟨c4_new.past, c4_mid, hS1.below (((Below.refl _ _).alloc (Nat.le_refl _) _).alloc (by simp) _), hS2.below (((Below.refl _ _).alloc (Nat.le_refl _) _).alloc (by simp) _), (((Below.refl _ _).alloc (Nat.le_refl _) _).alloc (by simp) _)⟩ ?_
  rintro w1 ⟨ca, cb, hs1, hs2, hb⟩
  have CA := Hid.mk' ca
  have CB := Hid.mk' cb
  have H1 := Hid.mk' hs1
  have H2 := Hid.mk' hs2
  have HB := Hid.mk' hb
  clear ca cb hs1 hs2 hb hS1 hS2
  obtain ⟨a0, a1, a2, a3⟩ := CA.out
  obtain ⟨b0, b1, b2, b3⟩ := CB.out
  go_wp2_with (first | (go_at_call 66; (first | (with_reducible refine (KZ1 _ H1.out).out.mono ?_) | (with_reducible refine (KZ2 _ H2.out).out.mono ?_)); rintro e w6 ⟨rfl, hb⟩; have CA := Hid.mk' (CA.out.keep hb); have CB := Hid.mk' (CB.out.keep hb); have H1 := Hid.mk' (H1.out.below hb); have H2 := Hid.mk' (H2.out.below hb); have HB := Hid.mk' (HB.out.trans (hb.mono HB.out.size)); clear a0 a1 a2 a3 b0 b1 b2 b3; obtain ⟨a0, a1, a2, a3⟩ := CA.out; obtain ⟨b0, b1, b2, b3⟩ := CB.out; clear hb))
  go_ret
  exact ⟨rfl, HB.out⟩
set_option maxHeartbeats 8000000 in
set_option maxRecDepth 100000 in
theorem ls_11  (g1 g2 : Bool) (v1 v2 : Value) (x1 x2 : Int) (s1 s2 : Nat) (w : World) (hS1 : SN w v1 s1) (hS2 : SN w v2 s2) (hg : (g1 == g2) = true) (KZ1 : ∀ w, SN w v1 s1 → Hid (Calls Tryd.prog 66 #[SV 1 g1 v1 x1] w fun e w' => e = .returned (.bool false) ∧ Below w.heap.size w w')) :
    Calls Tryd.prog 90 #[SV 1 g1 v1 x1, SV 1 g2 v2 x2] w fun e w' => e = .returned (.bool false) ∧ Below w.heap.size w w' := by
  go_enter Tryd.func90, Tryd.ntmps90
  go_upto_region 1 with fail
  refine wp_gen (fun wz => C4 wz w.heap.size (.int .i64 1) (.bool g1) v1 (.int .i64 x1) ∧ C4 wz (w.heap.size + 1) (.int .i64 1) (.bool g2) v2 (.int .i64 x2) ∧ SN wz v1 s1 ∧ SN wz v2 s2 ∧ Below w.heap.size w wz) ⟨c4_new.past, c4_mid, hS1.below (((Below.refl _ _).alloc (Nat.le_refl _) _).alloc (by simp) _), hS2.below (((Below.refl _ _).alloc (Nat.le_refl _) _).alloc (by simp) _), (((Below.refl _ _).alloc (Nat.le_refl _) _).alloc (by simp) _)⟩ ?_
  rintro w1 ⟨ca, cb, hs1, hs2, hb⟩
  have CA := Hid.mk' ca
  have CB := Hid.mk' cb
  have H1 := Hid.mk' hs1
  have H2 := Hid.mk' hs2
  have HB := Hid.mk' hb
  clear ca cb hs1 hs2 hb hS1 hS2
  obtain ⟨a0, a1, a2, a3⟩ := CA.out
  obtain ⟨b0, b1, b2, b3⟩ := CB.out
  go_wp2_with (first | (go_at_call 66; (first | (with_reducible refine (KZ1 _ H1.out).out.mono ?_)); rintro e w6 ⟨rfl, hb⟩; have CA := Hid.mk' (CA.out.keep hb); have CB := Hid.mk' (CB.out.keep hb); have H1 := Hid.mk' (H1.out.below hb); have H2 := Hid.mk' (H2.out.below hb); have HB := Hid.mk' (HB.out.trans (hb.mono HB.out.size)); clear a0 a1 a2 a3 b0 b1 b2 b3; obtain ⟨a0, a1, a2, a3⟩ := CA.out; obtain ⟨b0, b1, b2, b3⟩ := CB.out; clear hb))
  go_ret
  exact ⟨rfl, HB.out⟩
set_option maxHeartbeats 8000000 in
set_option maxRecDepth 100000 in
theorem ls_10  (g1 g2 : Bool) (v1 v2 : Value) (x1 x2 : Int) (s1 s2 : Nat) (w : World) (hS1 : SN w v1 s1) (hS2 : SN w v2 s2) (hg : (g1 == g2) = true) (KZ1 : ∀ w, SN w v1 s1 → Hid (Calls Tryd.prog 66 #[SV 1 g1 v1 x1] w fun e w' => e = .returned (.bool false) ∧ Below w.heap.size w w')) :
    Calls Tryd.prog 90 #[SV 1 g1 v1 x1, SV 0 g2 v2 x2] w fun e w' => e = .returned (.bool g1) ∧ Below w.heap.size w w' := by
  go_enter Tryd.func90, Tryd.ntmps90
  go_upto_region 1 with fail
  refine wp_gen (fun wz => C4 wz w.heap.size (.int .i64 1) (.bool g1) v1 (.int .i64 x1) ∧ C4 wz (w.heap.size + 1) (.int .i64 0) (.bool g2) v2 (.int .i64 x2) ∧ SN wz v1 s1 ∧ SN wz v2 s2 ∧ Below w.heap.size w wz) ⟨c4_new.past, c4_mid, hS1.below (((Below.refl _ _).alloc (Nat.le_refl _) _).alloc (by simp) _), hS2.below (((Below.refl _ _).alloc (Nat.le_refl _) _).alloc (by simp) _), (((Below.refl _ _).alloc (Nat.le_refl _) _).alloc (by simp) _)⟩ ?_
  rintro w1 ⟨ca, cb, hs1, hs2, hb⟩
  have CA := Hid.mk' ca
  have CB := Hid.mk' cb
  have H1 := Hid.mk' hs1
  have H2 := Hid.mk' hs2
  have HB := Hid.mk' hb
  clear ca cb hs1 hs2 hb hS1 hS2
  obtain ⟨a0, a1, a2, a3⟩ := CA.out
  obtain ⟨b0, b1, b2, b3⟩ := CB.out
  go_wp2_with (first | (go_at_call 66; (first | (with_reducible refine (KZ1 _ H1.out).out.mono ?_)); rintro e w6 ⟨rfl, hb⟩; have CA := Hid.mk' (CA.out.keep hb); have CB := Hid.mk' (CB.out.keep hb); have H1 := Hid.mk' (H1.out.below hb); have H2 := Hid.mk' (H2.out.below hb); have HB := Hid.mk' (HB.out.trans (hb.mono HB.out.size)); clear a0 a1 a2 a3 b0 b1 b2 b3; obtain ⟨a0, a1, a2, a3⟩ := CA.out; obtain ⟨b0, b1, b2, b3⟩ := CB.out; clear hb))
  go_ret
  exact ⟨rfl, HB.out⟩
set_option maxHeartbeats 8000000 in
set_option maxRecDepth 100000 in
theorem ls_01n  (g1 g2 : Bool) (v1 v2 : Value) (x1 x2 : Int) (s1 s2 : Nat) (w : World) (hS1 : SN w v1 s1) (hS2 : SN w v2 s2) (hg : (g1 == g2) = true) (KZ1 : ∀ w, SN w v1 s1 → Hid (Calls Tryd.prog 66 #[SV 0 g1 v1 x1] w fun e w' => e = .returned (.bool false) ∧ Below w.heap.size w w')) :
    Calls Tryd.prog 90 #[SV 0 g1 v1 x1, SV 1 g2 v2 x2] w fun e w' => e = .returned (.bool (!g1)) ∧ Below w.heap.size w w' := by
  go_enter Tryd.func90, Tryd.ntmps90
  go_upto_region 1 with fail
  refine wp_gen (fun wz => C4 wz w.heap.size (.int .i64 0) (.bool g1) v1 (.int .i64 x1) ∧ C4 wz (w.heap.size + 1) (.int .i64 1) (.bool g2) v2 (.int .i64 x2) ∧ SN wz v1 s1 ∧ SN wz v2 s2 ∧ Below w.heap.size w wz) ⟨c4_new.past, c4_mid, hS1.below (((Below.refl _ _).alloc (Nat.le_refl _) _).alloc (by simp) _), hS2.below (((Below.refl _ _).alloc (Nat.le_refl _) _).alloc (by simp) _), (((Below.refl _ _).alloc (Nat.le_refl _) _).alloc (by simp) _)⟩ ?_
  rintro w1 ⟨ca, cb, hs1, hs2, hb⟩
  have CA := Hid.mk' ca
  have CB := Hid.mk' cb
  have H1 := Hid.mk' hs1
  have H2 := Hid.mk' hs2
  have HB := Hid.mk' hb
  clear ca cb hs1 hs2 hb hS1 hS2
  obtain ⟨a0, a1, a2, a3⟩ := CA.out
  obtain ⟨b0, b1, b2, b3⟩ := CB.out
  go_wp2_with (first | (go_at_call 66; (first | (with_reducible refine (KZ1 _ H1.out).out.mono ?_)); rintro e w6 ⟨rfl, hb⟩; have CA := Hid.mk' (CA.out.keep hb); have CB := Hid.mk' (CB.out.keep hb); have H1 := Hid.mk' (H1.out.below hb); have H2 := Hid.mk' (H2.out.below hb); have HB := Hid.mk' (HB.out.trans (hb.mono HB.out.size)); clear a0 a1 a2 a3 b0 b1 b2 b3; obtain ⟨a0, a1, a2, a3⟩ := CA.out; obtain ⟨b0, b1, b2, b3⟩ := CB.out; clear hb))
  go_ret
  exact ⟨rfl, HB.out⟩
set_option maxHeartbeats 8000000 in
set_option maxRecDepth 100000 in
theorem ls_01z  (g1 g2 : Bool) (v1 v2 : Value) (x1 x2 : Int) (s1 s2 : Nat) (w : World) (hS1 : SN w v1 s1) (hS2 : SN w v2 s2) (hg : (g1 == g2) = true) (KZ1 : ∀ w, SN w v1 s1 → Hid (Calls Tryd.prog 66 #[SV 0 g1 v1 x1] w fun e w' => e = .returned (.bool true) ∧ Below w.heap.size w w')) (KZ2 : ∀ w, SN w v2 s2 → Hid (Calls Tryd.prog 66 #[SV 1 g2 v2 x2] w fun e w' => e = .returned (.bool false) ∧ Below w.heap.size w w')) :
    Calls Tryd.prog 90 #[SV 0 g1 v1 x1, SV 1 g2 v2 x2] w fun e w' => e = .returned (.bool (!g1)) ∧ Below w.heap.size w w' := by
  go_enter Tryd.func90, Tryd.ntmps90
  go_upto_region 1 with fail
  refine wp_gen (fun wz => C4 wz w.heap.size (.int .i64 0) (.bool g1) v1 (.int .i64 x1) ∧ C4 wz (w.heap.size + 1) (.int .i64 1) (.bool g2) v2 (.int .i64 x2) ∧ SN wz v1 s1 ∧ SN wz v2 s2 ∧ Below w.heap.size w wz) ⟨c4_new.past, c4_mid, hS1.below (((Below.refl _ _).alloc (Nat.le_refl _) _).alloc (by simp) _), hS2.below (((Below.refl _ _).alloc (Nat.le_refl _) _).alloc (by simp) _), (((Below.refl _ _).alloc (Nat.le_refl _) _).alloc (by simp) _)⟩ ?_
  rintro w1 ⟨ca, cb, hs1, hs2, hb⟩
  have CA := Hid.mk' ca
  have CB := Hid.mk' cb
  have H1 := Hid.mk' hs1
  have H2 := Hid.mk' hs2
  have HB := Hid.mk' hb
  clear ca cb hs1 hs2 hb hS1 hS2
  obtain ⟨a0, a1, a2, a3⟩ := CA.out
  obtain ⟨b0, b1, b2, b3⟩ := CB.out
  go_wp2_with (first | (go_at_call 66; (first | (with_reducible refine (KZ1 _ H1.out).out.mono ?_) | (with_reducible refine (KZ2 _ H2.out).out.mono ?_)); rintro e w6 ⟨rfl, hb⟩; have CA := Hid.mk' (CA.out.keep hb); have CB := Hid.mk' (CB.out.keep hb); have H1 := Hid.mk' (H1.out.below hb); have H2 := Hid.mk' (H2.out.below hb); have HB := Hid.mk' (HB.out.trans (hb.mono HB.out.size)); clear a0 a1 a2 a3 b0 b1 b2 b3; obtain ⟨a0, a1, a2, a3⟩ := CA.out; obtain ⟨b0, b1, b2, b3⟩ := CB.out; clear hb))
  go_ret
  exact ⟨rfl, HB.out⟩
set_option maxHeartbeats 8000000 in
set_option maxRecDepth 100000 in
theorem ls_fn (g1 g2 : Bool) (v1 v2 : Value) (x1 x2 : Int) (s1 s2 : Nat) (m : Int) (X Y : Nat) (w : World) (r : Bool) (hS1 : SN w v1 s1) (hS2 : SN w v2 s2) (hg : (g1 == g2) = true) (KZ1 : ∀ w, SN w v1 s1 → Hid (Calls Tryd.prog 66 #[SV 0 g1 v1 x1] w fun e w' => e = .returned (.bool false) ∧ Below w.heap.size w w')) (hm : m = min x1 x2) (hX : X = s1 * 2 ^ (x1 - m).toNat) (hY : Y = s2 * 2 ^ (x2 - m).toNat) (hb1 : bl s1 ≤ 60) (hb2 : bl s2 ≤ 60) (hx1 : -1100 ≤ x1) (hx1' : x1 ≤ 1100) (hx2 : -1100 ≤ x2) (hx2' : x2 ≤ 1100) (hr : r = ((decide (X < Y) && !g1) || (decide (Y < X) && g1))) :
    Calls Tryd.prog 90 #[SV 0 g1 v1 x1, SV 0 g2 v2 x2] w fun e w' => e = .returned (.bool r) ∧ Below w.heap.size w w' := by
  have bX : bl X ≤ 3000 := by
    rw [hX]
    have := bl_mul2 s1 (2 ^ (x1 - m).toNat)
    have h2 : bl (2 ^ (x1 - m).toNat) ≤ (x1 - m).toNat + 1 := bl_le (by rw [Nat.pow_succ]; have := Nat.two_pow_pos (x1 - m).toNat; omega)
    omega
  have bY : bl Y ≤ 3000 := by
    rw [hY]
    have := bl_mul2 s2 (2 ^ (x2 - m).toNat)
    have h2 : bl (2 ^ (x2 - m).toNat) ≤ (x2 - m).toNat + 1 := bl_le (by rw [Nat.pow_succ]; have := Nat.two_pow_pos (x2 - m).toNat; omega)
    omega
  have K1 : ∀ w n, n = x1 - m → SN w v1 s1 → Hid (Calls Tryd.prog 64 #[v1, .int .i64 n] w fun e w' => (∃ u, e = .returned u ∧ SN w' u X) ∧ Below w.heap.size w w') := fun w n hn hs => by
    subst hn; rw [hX]; exact left_int v1 s1 (x1 - m) w (by omega) (by omega) (by omega) hs
  have K2 : ∀ w n, n = x2 - m → SN w v2 s2 → Hid (Calls Tryd.prog 64 #[v2, .int .i64 n] w fun e w' => (∃ u, e = .returned u ∧ SN w' u Y) ∧ Below w.heap.size w w') := fun w n hn hs => by
    subst hn; rw [hY]; exact left_int v2 s2 (x2 - m) w (by omega) (by omega) (by omega) hs
  obtain ⟨cz, hcz⟩ : ∃ cz, cz = cmpI X Y := ⟨_, rfl⟩
  have hcs : cz = -1 ∨ cz = 0 ∨ cz = 1 := by rw [hcz]; unfold cmpI; split; · simp
                                             · split <;> simp
  have KC : ∀ (u1 u2 : Value) w, SN w u1 X → SN w u2 Y → Hid (Calls Tryd.prog 70 #[u1, u2] w fun e w' => e = .returned (.int .i64 cz) ∧ w = w') := fun u1 u2 w h1 h2 => by
    rw [hcz]; exact compare_any u1 u2 X Y w (by omega) (by omega) h1 h2
  have hr1 : r = ((decide (cz < 0) && !g1) || (decide (0 < cz) && g1)) := by
    rw [hr, hcz]; unfold cmpI
    by_cases h1 : X < Y
    · rw [if_pos h1, decide_eq_true h1, decide_eq_false (show ¬ Y < X by omega)]; simp
    · by_cases h2 : X = Y
      · rw [if_neg h1, if_pos h2, decide_eq_false h1, decide_eq_false (show ¬ Y < X by omega)]; simp
      · rw [if_neg h1, if_neg h2, decide_eq_false h1, decide_eq_true (show Y < X by omega)]; simp
  have HR := Hid.mk' hr1
  have HM := Hid.mk' hm
  clear hX hY hr hr1 hb1 hb2 hcz
  go_enter Tryd.func90, Tryd.ntmps90
  go_upto_region 1 with fail
  refine wp_gen (fun wz => C4 wz w.heap.size (.int .i64 0) (.bool g1) v1 (.int .i64 x1) ∧ C4 wz (w.heap.size + 1) (.int .i64 0) (.bool g2) v2 (.int .i64 x2) ∧ SN wz v1 s1 ∧ SN wz v2 s2 ∧ Below w.heap.size w wz) ⟨c4_new.past, c4_mid, hS1.below (((Below.refl _ _).alloc (Nat.le_refl _) _).alloc (by simp) _), hS2.below (((Below.refl _ _).alloc (Nat.le_refl _) _).alloc (by simp) _), (((Below.refl _ _).alloc (Nat.le_refl _) _).alloc (by simp) _)⟩ ?_
  rintro w1 ⟨ca, cb, hs1, hs2, hb⟩
  have CA := Hid.mk' ca
  have CB := Hid.mk' cb
  have H1 := Hid.mk' hs1
  have H2 := Hid.mk' hs2
  have HB := Hid.mk' hb
  clear ca cb hs1 hs2 hb hS1 hS2
  obtain ⟨a0, a1, a2, a3⟩ := CA.out
  obtain ⟨b0, b1, b2, b3⟩ := CB.out
  go_upto_region 7 with (first | (go_at_call 66; (first | (with_reducible refine (KZ1 _ H1.out).out.mono ?_)); rintro e w6 ⟨rfl, hb⟩; have CA := Hid.mk' (CA.out.keep hb); have CB := Hid.mk' (CB.out.keep hb); have H1 := Hid.mk' (H1.out.below hb); have H2 := Hid.mk' (H2.out.below hb); have HB := Hid.mk' (HB.out.trans (hb.mono HB.out.size)); clear a0 a1 a2 a3 b0 b1 b2 b3; obtain ⟨a0, a1, a2, a3⟩ := CA.out; obtain ⟨b0, b1, b2, b3⟩ := CB.out; clear hb))
  by_cases hx : x2 < x1
  all_goals (
    have hme : (if x2 < x1 then x2 else x1) = m := by rw [hm]; split <;> omega
    first | rw [if_pos hx] at hme | rw [if_neg hx] at hme
    subst hme
    clear hm
    go_upto_region 10 with fail
    go_region_held3 (fun w' => w'.cell? ⟨w.heap.size, 2, none⟩ = some v1 ∧ w'.cell? ⟨w.heap.size, 3, none⟩ = some (.int .i64 x1) ∧ w'.cell? ⟨w.heap.size + 1, 2, none⟩ = some v2 ∧ w'.cell? ⟨w.heap.size + 1, 3, none⟩ = some (.int .i64 x2)) (exact ⟨a2, a3, b2, b3⟩) (first
      | (go_at_call 64; first
          | ((with_reducible refine (K1 _ _ ?_ ?_).out.mono ?_); (first | rfl | (rw [IntKind.wrap_i64]; omega) | (simp only [IntKind.wrap_i64]; omega) | omega); exact H1.out; rintro e w6 ⟨⟨p6, rfl, hp6⟩, hb⟩; (first | have hb := undrew hb | skip); have CA := Hid.mk' (CA.out.keep hb); have CB := Hid.mk' (CB.out.keep hb); have H1 := Hid.mk' (H1.out.below hb); have H2 := Hid.mk' (H2.out.below hb); have HB := Hid.mk' (HB.out.trans (hb.mono HB.out.size)); clear a0 a1 a2 a3 b0 b1 b2 b3; obtain ⟨a0, a1, a2, a3⟩ := CA.out; obtain ⟨b0, b1, b2, b3⟩ := CB.out; (first | have HY := Hid.mk' (HY.out.below hb) | skip); have HX := Hid.mk' hp6; clear hb hp6)
          | ((with_reducible refine (K2 _ _ ?_ ?_).out.mono ?_); (first | rfl | (rw [IntKind.wrap_i64]; omega) | (simp only [IntKind.wrap_i64]; omega) | omega); exact H2.out; rintro e w6 ⟨⟨p6, rfl, hp6⟩, hb⟩; (first | have hb := undrew hb | skip); have CA := Hid.mk' (CA.out.keep hb); have CB := Hid.mk' (CB.out.keep hb); have H1 := Hid.mk' (H1.out.below hb); have H2 := Hid.mk' (H2.out.below hb); have HB := Hid.mk' (HB.out.trans (hb.mono HB.out.size)); clear a0 a1 a2 a3 b0 b1 b2 b3; obtain ⟨a0, a1, a2, a3⟩ := CA.out; obtain ⟨b0, b1, b2, b3⟩ := CB.out; (first | have HX := Hid.mk' (HX.out.below hb) | skip); have HY := Hid.mk' hp6; clear hb hp6))
      | (go_at_call 70; refine (KC _ _ _ ?_ ?_).out.mono ?_; exact HX.out; exact HY.out; rintro e w8 ⟨rfl, rfl⟩))
    all_goals (
      rcases hcs with rfl | rfl | rfl
      all_goals (
        cases g1
        all_goals (
          go_wp2
          go_ret
          exact ⟨by rw [HR.out]; rfl, HB.out⟩))))
set_option maxHeartbeats 8000000 in
set_option maxRecDepth 100000 in
theorem ls_fz (g1 g2 : Bool) (v1 v2 : Value) (x1 x2 : Int) (s1 s2 : Nat) (m : Int) (X Y : Nat) (w : World) (r : Bool) (hS1 : SN w v1 s1) (hS2 : SN w v2 s2) (hg : (g1 == g2) = true) (KZ1 : ∀ w, SN w v1 s1 → Hid (Calls Tryd.prog 66 #[SV 0 g1 v1 x1] w fun e w' => e = .returned (.bool true) ∧ Below w.heap.size w w')) (KZ2 : ∀ w, SN w v2 s2 → Hid (Calls Tryd.prog 66 #[SV 0 g2 v2 x2] w fun e w' => e = .returned (.bool false) ∧ Below w.heap.size w w')) (hm : m = min x1 x2) (hX : X = s1 * 2 ^ (x1 - m).toNat) (hY : Y = s2 * 2 ^ (x2 - m).toNat) (hb1 : bl s1 ≤ 60) (hb2 : bl s2 ≤ 60) (hx1 : -1100 ≤ x1) (hx1' : x1 ≤ 1100) (hx2 : -1100 ≤ x2) (hx2' : x2 ≤ 1100) (hr : r = ((decide (X < Y) && !g1) || (decide (Y < X) && g1))) :
    Calls Tryd.prog 90 #[SV 0 g1 v1 x1, SV 0 g2 v2 x2] w fun e w' => e = .returned (.bool r) ∧ Below w.heap.size w w' := by
  have bX : bl X ≤ 3000 := by
    rw [hX]
    have := bl_mul2 s1 (2 ^ (x1 - m).toNat)
    have h2 : bl (2 ^ (x1 - m).toNat) ≤ (x1 - m).toNat + 1 := bl_le (by rw [Nat.pow_succ]; have := Nat.two_pow_pos (x1 - m).toNat; omega)
    omega
  have bY : bl Y ≤ 3000 := by
    rw [hY]
    have := bl_mul2 s2 (2 ^ (x2 - m).toNat)
    have h2 : bl (2 ^ (x2 - m).toNat) ≤ (x2 - m).toNat + 1 := bl_le (by rw [Nat.pow_succ]; have := Nat.two_pow_pos (x2 - m).toNat; omega)
    omega
  have K1 : ∀ w n, n = x1 - m → SN w v1 s1 → Hid (Calls Tryd.prog 64 #[v1, .int .i64 n] w fun e w' => (∃ u, e = .returned u ∧ SN w' u X) ∧ Below w.heap.size w w') := fun w n hn hs => by
    subst hn; rw [hX]; exact left_int v1 s1 (x1 - m) w (by omega) (by omega) (by omega) hs
  have K2 : ∀ w n, n = x2 - m → SN w v2 s2 → Hid (Calls Tryd.prog 64 #[v2, .int .i64 n] w fun e w' => (∃ u, e = .returned u ∧ SN w' u Y) ∧ Below w.heap.size w w') := fun w n hn hs => by
    subst hn; rw [hY]; exact left_int v2 s2 (x2 - m) w (by omega) (by omega) (by omega) hs
  obtain ⟨cz, hcz⟩ : ∃ cz, cz = cmpI X Y := ⟨_, rfl⟩
  have hcs : cz = -1 ∨ cz = 0 ∨ cz = 1 := by rw [hcz]; unfold cmpI; split; · simp
                                             · split <;> simp
  have KC : ∀ (u1 u2 : Value) w, SN w u1 X → SN w u2 Y → Hid (Calls Tryd.prog 70 #[u1, u2] w fun e w' => e = .returned (.int .i64 cz) ∧ w = w') := fun u1 u2 w h1 h2 => by
    rw [hcz]; exact compare_any u1 u2 X Y w (by omega) (by omega) h1 h2
  have hr1 : r = ((decide (cz < 0) && !g1) || (decide (0 < cz) && g1)) := by
    rw [hr, hcz]; unfold cmpI
    by_cases h1 : X < Y
    · rw [if_pos h1, decide_eq_true h1, decide_eq_false (show ¬ Y < X by omega)]; simp
    · by_cases h2 : X = Y
      · rw [if_neg h1, if_pos h2, decide_eq_false h1, decide_eq_false (show ¬ Y < X by omega)]; simp
      · rw [if_neg h1, if_neg h2, decide_eq_false h1, decide_eq_true (show Y < X by omega)]; simp
  have HR := Hid.mk' hr1
  have HM := Hid.mk' hm
  clear hX hY hr hr1 hb1 hb2 hcz
  go_enter Tryd.func90, Tryd.ntmps90
  go_upto_region 1 with fail
  refine wp_gen (fun wz => C4 wz w.heap.size (.int .i64 0) (.bool g1) v1 (.int .i64 x1) ∧ C4 wz (w.heap.size + 1) (.int .i64 0) (.bool g2) v2 (.int .i64 x2) ∧ SN wz v1 s1 ∧ SN wz v2 s2 ∧ Below w.heap.size w wz) ⟨c4_new.past, c4_mid, hS1.below (((Below.refl _ _).alloc (Nat.le_refl _) _).alloc (by simp) _), hS2.below (((Below.refl _ _).alloc (Nat.le_refl _) _).alloc (by simp) _), (((Below.refl _ _).alloc (Nat.le_refl _) _).alloc (by simp) _)⟩ ?_
  rintro w1 ⟨ca, cb, hs1, hs2, hb⟩
  have CA := Hid.mk' ca
  have CB := Hid.mk' cb
  have H1 := Hid.mk' hs1
  have H2 := Hid.mk' hs2
  have HB := Hid.mk' hb
  clear ca cb hs1 hs2 hb hS1 hS2
  obtain ⟨a0, a1, a2, a3⟩ := CA.out
  obtain ⟨b0, b1, b2, b3⟩ := CB.out
  go_upto_region 7 with (first | (go_at_call 66; (first | (with_reducible refine (KZ1 _ H1.out).out.mono ?_) | (with_reducible refine (KZ2 _ H2.out).out.mono ?_)); rintro e w6 ⟨rfl, hb⟩; have CA := Hid.mk' (CA.out.keep hb); have CB := Hid.mk' (CB.out.keep hb); have H1 := Hid.mk' (H1.out.below hb); have H2 := Hid.mk' (H2.out.below hb); have HB := Hid.mk' (HB.out.trans (hb.mono HB.out.size)); clear a0 a1 a2 a3 b0 b1 b2 b3; obtain ⟨a0, a1, a2, a3⟩ := CA.out; obtain ⟨b0, b1, b2, b3⟩ := CB.out; clear hb))
  by_cases hx : x2 < x1
  all_goals (
    have hme : (if x2 < x1 then x2 else x1) = m := by rw [hm]; split <;> omega
    first | rw [if_pos hx] at hme | rw [if_neg hx] at hme
    subst hme
    clear hm
    go_upto_region 10 with fail
    go_region_held3 (fun w' => w'.cell? ⟨w.heap.size, 2, none⟩ = some v1 ∧ w'.cell? ⟨w.heap.size, 3, none⟩ = some (.int .i64 x1) ∧ w'.cell? ⟨w.heap.size + 1, 2, none⟩ = some v2 ∧ w'.cell? ⟨w.heap.size + 1, 3, none⟩ = some (.int .i64 x2)) (exact ⟨a2, a3, b2, b3⟩) (first
      | (go_at_call 64; first
          | ((with_reducible refine (K1 _ _ ?_ ?_).out.mono ?_); (first | rfl | (rw [IntKind.wrap_i64]; omega) | (simp only [IntKind.wrap_i64]; omega) | omega); exact H1.out; rintro e w6 ⟨⟨p6, rfl, hp6⟩, hb⟩; (first | have hb := undrew hb | skip); have CA := Hid.mk' (CA.out.keep hb); have CB := Hid.mk' (CB.out.keep hb); have H1 := Hid.mk' (H1.out.below hb); have H2 := Hid.mk' (H2.out.below hb); have HB := Hid.mk' (HB.out.trans (hb.mono HB.out.size)); clear a0 a1 a2 a3 b0 b1 b2 b3; obtain ⟨a0, a1, a2, a3⟩ := CA.out; obtain ⟨b0, b1, b2, b3⟩ := CB.out; (first | have HY := Hid.mk' (HY.out.below hb) | skip); have HX := Hid.mk' hp6; clear hb hp6)
          | ((with_reducible refine (K2 _ _ ?_ ?_).out.mono ?_); (first | rfl | (rw [IntKind.wrap_i64]; omega) | (simp only [IntKind.wrap_i64]; omega) | omega); exact H2.out; rintro e w6 ⟨⟨p6, rfl, hp6⟩, hb⟩; (first | have hb := undrew hb | skip); have CA := Hid.mk' (CA.out.keep hb); have CB := Hid.mk' (CB.out.keep hb); have H1 := Hid.mk' (H1.out.below hb); have H2 := Hid.mk' (H2.out.below hb); have HB := Hid.mk' (HB.out.trans (hb.mono HB.out.size)); clear a0 a1 a2 a3 b0 b1 b2 b3; obtain ⟨a0, a1, a2, a3⟩ := CA.out; obtain ⟨b0, b1, b2, b3⟩ := CB.out; (first | have HX := Hid.mk' (HX.out.below hb) | skip); have HY := Hid.mk' hp6; clear hb hp6))
      | (go_at_call 70; refine (KC _ _ _ ?_ ?_).out.mono ?_; exact HX.out; exact HY.out; rintro e w8 ⟨rfl, rfl⟩))
    all_goals (
      rcases hcs with rfl | rfl | rfl
      all_goals (
        cases g1
        all_goals (
          go_wp2
          go_ret
          exact ⟨by rw [HR.out]; rfl, HB.out⟩))))
end Go.Proofs.YthmppcfhbbjhlaaDoor
