import Derived.Test.YthmppcfhbbjhlaaDoorCel
set_option linter.all false
namespace Go.Proofs.YthmppcfhbbjhlaaDoor
open Go.RowKit Go.Sort

set_option maxHeartbeats 2000000 in
theorem cut_same (k : Int) (g : Bool) (x lo hi ex mode : Int) (w : World) (h : ex - x ≤ 0) (hx : -100000 ≤ x) (hx' : x ≤ 100000) (hy : -100000 ≤ ex) :
    Calls Tryd.prog 78 #[NV k g x lo hi, .int .i64 ex, .int .i64 mode] w fun e w' => e = .returned (NV k g x lo hi) ∧ Below w.heap.size w w' := by
  go_enter Tryd.func78, Tryd.ntmps78
  go_wp2
  exact bodyPost_ret (v := NV _ _ _ _ _) (by simp [results, Tryd.results78, go_sem]) rfl ⟨rfl, by repeat (first | exact Below.refl _ _ | refine Below.setCell ?_ (by simp) _ | refine Below.alloc ?_ (by first | (simp; done) | (simp; omega)) _ | refine Below.drew ?_)⟩

set_option maxHeartbeats 2000000 in
theorem cut_key (k : Int) (g b : Bool) (x lo hi ex mode d0 d1 u0 u1 : Int) (w : World) (h : 0 < ex - x) (hx : -100000 ≤ x) (hx' : x ≤ 100000) (hy : -100000 ≤ ex) (hy' : ex ≤ 100000)
    (KD : ∀ w, Hid (Calls Tryd.prog 99 #[WV lo hi, .int .i64 (ex - x)] w fun e w' => e = .returned (WV d0 d1) ∧ Below w.heap.size w w'))
    (KG : ∀ w, Hid (Calls Tryd.prog 100 #[NV k g x lo hi, .int .i64 (ex - x), .int .i64 mode] w fun e w' => e = .returned (.bool b) ∧ Below w.heap.size w w'))
    (KA : ∀ w, Hid (Calls Tryd.prog 101 #[WV d0 d1, WV 1 0] w fun e w' => e = .returned (WV u0 u1) ∧ Below w.heap.size w w')) :
    Calls Tryd.prog 78 #[NV k g x lo hi, .int .i64 ex, .int .i64 mode] w fun e w' => e = .returned (if b then NV k g ex u0 u1 else NV k g ex d0 d1) ∧ Below w.heap.size w w' := by
  have t0 : ¬ ex - x ≤ 0 := by omega
  go_enter Tryd.func78, Tryd.ntmps78
  go_wp2_with fail
  refine (KD _).out.mono ?_
  rintro e w1 ⟨rfl, hb⟩
  have cn := Hid.mk' (c5_new.past.keep hb)
  have cr := Hid.mk' (c5_mid.keep hb)
  have HB1 := Hid.mk' (((Below.refl w.heap.size w).alloc (Nat.le_refl _) _).alloc (by simp) _ |>.trans (hb.mono (by simp; omega)))
  have hz1 := HB1.out.size
  obtain ⟨⟨c0, c1, c2, c3, c4⟩, -⟩ := cn.out
  have hl1 := cn.out.lt
  have hl2 := cr.out.lt
  have hn1 : w.heap.size ≠ w1.heap.size := by omega
  have hn2 : w.heap.size + 1 ≠ w1.heap.size := by omega
  clear hb
  go_wp2_with fail
  refine (KG _).out.mono ?_
  rintro e w2 ⟨rfl, hb⟩
  have cn2 := Hid.mk' (cn.out.past.keep hb)
  have cr2 := Hid.mk' (cr.out.past.keep hb)
  have ck := c2_new.keep hb
  have HB2 := Hid.mk' ((HB1.out.alloc HB1.out.size _).trans (hb.mono (by simp; omega)))
  generalize w1.heap.size = gk at *
  clear hb cn cr HB1 c0 c1 c2 c3 c4
  cases b
  · obtain ⟨⟨c0, c1, c2, c3, c4⟩, f0, f1, f2, f3, f4⟩ := cn2.out
    obtain ⟨⟨k0, k1⟩, y0, y1⟩ := ck
    go_upto_region 8 with fail
    refine wp_gen (fun wz => C5 wz w.heap.size (.int .i64 k) (.bool g) (.int .i64 ex) (.int .u64 d0) (.int .u64 d1) ∧ C5 wz (w.heap.size + 1) (.int .i64 0) (.bool false) (.int .i64 0) (.int .u64 0) (.int .u64 0) ∧ Below w.heap.size w wz) ⟨cn2.out.set3.set4.set2, ((cr2.out.far (by omega)).far (by omega)).far (by omega), ((HB2.out.setCell (Nat.le_refl _) _).setCell (Nat.le_refl _) _).setCell (Nat.le_refl _) _⟩ ?_
    clear cn2 cr2 HB2 c0 c1 c2 c3 c4 f0 f1 f2 f3 f4 k0 k1 y0 y1 KD KG KA
    rintro wz ⟨⟨⟨c0, c1, c2, c3, c4⟩, -⟩, ⟨⟨r0, r1, r2, r3, r4⟩, v0, v1, v2, v3, v4⟩, hz⟩
    go_wp2
    exact bodyPost_ret (v := NV k g ex d0 d1) (by simp [results, Tryd.results78, go_sem, r0, r1, r2, r3, r4]) rfl ⟨rfl, by repeat (first | exact hz | refine Below.setCell ?_ (by first | (simp; done) | (simp; omega) | omega) _)⟩
  · obtain ⟨⟨k0, k1⟩, y0, y1⟩ := ck
    have hlk := World.block_lt_of_cell? w2 _ k0
    go_wp2_with fail
    refine (KA _).out.mono ?_
    rintro e w3 ⟨rfl, hb⟩
    have cn3 := Hid.mk' (cn2.out.keep hb)
    have cr3 := Hid.mk' (cr2.out.keep hb)
    obtain ⟨⟨c0, c1, c2, c3, c4⟩, f0, f1, f2, f3, f4⟩ := cn3.out
    obtain ⟨⟨k0, k1⟩, y0, y1⟩ : C2 w3 gk _ _ := C2.keep ⟨⟨k0, k1⟩, y0, y1⟩ hb
    have HB3 := Hid.mk' (HB2.out.trans (hb.mono HB2.out.size))
    clear cn2 cr2 HB2 hb
    go_upto_region 8 with fail
    refine wp_gen (fun wz => C5 wz w.heap.size (.int .i64 k) (.bool g) (.int .i64 ex) (.int .u64 u0) (.int .u64 u1) ∧ C5 wz (w.heap.size + 1) (.int .i64 0) (.bool false) (.int .i64 0) (.int .u64 0) (.int .u64 0) ∧ Below w.heap.size w wz) ⟨((cn3.out.far (by omega)).far (by omega)).set3.set4.set2, ((((cr3.out.far (by omega)).far (by omega)).far (by omega)).far (by omega)).far (by omega), ((((HB3.out.setCell (by simp; omega) _).setCell (by simp; omega) _).setCell (Nat.le_refl _) _).setCell (Nat.le_refl _) _).setCell (Nat.le_refl _) _⟩ ?_
    clear cn3 cr3 HB3 c0 c1 c2 c3 c4 f0 f1 f2 f3 f4 k0 k1 y0 y1 KD KG KA
    rintro wz ⟨⟨⟨c0, c1, c2, c3, c4⟩, -⟩, ⟨⟨r0, r1, r2, r3, r4⟩, v0, v1, v2, v3, v4⟩, hz⟩
    go_wp2
    exact bodyPost_ret (v := NV k g ex u0 u1) (by simp [results, Tryd.results78, go_sem, r0, r1, r2, r3, r4]) rfl ⟨rfl, by repeat (first | exact hz | refine Below.setCell ?_ (by first | (simp; done) | (simp; omega) | omega) _)⟩
theorem cut_any (k : Int) (g : Bool) (x ex mode : Int) (s : Nat) (w : World) (hs : s < 340282366920938463463374607431768211456) (h : 0 < ex - x) (hx : -10000 ≤ x) (hx' : x ≤ 10000) (hy : -10000 ≤ ex) (hy' : ex ≤ 10000) (hm : 0 ≤ mode) (hm3 : mode ≤ 3) (u : Nat)
    (hu : u = s / 2 ^ (ex - x).toNat + if goes mode g (decide (s / 2 ^ ((ex - x).toNat - 1) % 2 = 1)) (decide (s % 2 ^ ((ex - x).toNat - 1) ≠ 0)) (decide (s / 2 ^ (ex - x).toNat % 2 = 1)) then 1 else 0) :
    Calls Tryd.prog 78 #[N2 k g x s, .int .i64 ex, .int .i64 mode] w fun e w' => e = .returned (N2 k g ex u) ∧ Below w.heap.size w w' := by
  have hd : s / 2 ^ (ex - x).toNat < 340282366920938463463374607431768211456 := Nat.lt_of_le_of_lt (Nat.div_le_self _ _) hs
  have hd2 : s / 2 ^ (ex - x).toNat + 1 < 340282366920938463463374607431768211456 := by
    have h1 : s / 2 ^ (ex - x).toNat ≤ s / 2 := by
      have e : 2 ^ (ex - x).toNat = 2 * 2 ^ ((ex - x).toNat - 1) := by rw [Nat.mul_comm, ← Nat.pow_succ]; congr 1; omega
      rw [e, ← Nat.div_div_eq_div_mul]
      exact Nat.div_le_self _ _
    omega
  have h1 : W2 1 = WV 1 0 := rfl
  have KA : ∀ w, Hid (Calls Tryd.prog 101 #[W2 (s / 2 ^ (ex - x).toNat), WV 1 0] w fun e w' => e = .returned (W2 (s / 2 ^ (ex - x).toNat + 1)) ∧ Below w.heap.size w w') := fun w => by
    have := add_any (s / 2 ^ (ex - x).toNat) 1 w hd (by decide)
    rw [h1, Nat.mod_eq_of_lt hd2] at this
    exact this
  refine (cut_key k g _ x _ _ ex mode _ _ _ _ w h (by omega) (by omega) (by omega) (by omega) (fun w => down_any s (ex - x) w hs (by omega) (by omega)) (fun w => goes_any mode k g x (ex - x) s w hs hm hm3 (by omega) (by omega)) KA).mono ?_
  rintro e w' ⟨rfl, hb⟩
  refine ⟨?_, hb⟩
  subst hu
  split <;> rfl
end Go.Proofs.YthmppcfhbbjhlaaDoor
