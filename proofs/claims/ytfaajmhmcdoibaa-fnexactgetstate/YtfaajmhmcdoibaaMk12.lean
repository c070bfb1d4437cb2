import Derived.Test.YtfaajmhmcdoibaaSq
import Derived.Test.YtfaajmhmcdoibaaEq12
set_option linter.all false
set_option linter.unusedVariables false
namespace Go.Proofs.Ytfaajmhmcdoibaa
open Go.RowKit Go.Sort
set_option maxRecDepth 100000
/-- How the copy of a module stands while it is marked: W0 is the world that it was made in. -/
structure Mk (B : Nat) (W0 V : World) : Prop where
  sl : ∀ b o a n c, W0.cell? ⟨b, o, none⟩ = some (.slice a n c) → V.cell? ⟨b, o, none⟩ = some (.slice a n c)
  ex : ∀ b o v, W0.cell? ⟨b, o, none⟩ = some v → ∃ u, V.cell? ⟨b, o, none⟩ = some u
  fz : ∀ b o, B ≤ b → b < W0.heap.size → V.frozen? ⟨b, o, none⟩ = false
  size : W0.heap.size ≤ V.heap.size
  lb : B ≤ W0.heap.size
/-- .. and what a call leaves alone. -/
structure MB (B : Nat) (W0 V V' : World) : Prop where
  mm : Mk B W0 V'
  bt : Bet B W0.heap.size V V'
theorem MB.refl {B : Nat} {W0 V : World} (h : Mk B W0 V) : MB B W0 V V := ⟨h, ⟨rfl, rfl, rfl, Nat.le_refl _, fun _ _ => rfl⟩⟩
theorem MB.trans {B : Nat} {W0 V V1 V2 : World} (h : MB B W0 V V1) (k : MB B W0 V1 V2) : MB B W0 V V2 :=
  ⟨k.mm, ⟨k.bt.os.trans h.bt.os, k.bt.tape.trans h.bt.tape, k.bt.output.trans h.bt.output, Nat.le_trans h.bt.size k.bt.size, fun j hj => (k.bt.block j (hj.imp id (fun hj => ⟨hj.1, Nat.lt_of_lt_of_le hj.2 h.bt.size⟩))).trans (h.bt.block j hj)⟩⟩
theorem MB.below {B : Nat} {W0 V V1 V2 : World} (h : MB B W0 V V1) (hb : Below V1.heap.size V1 V2) : MB B W0 V V2 := by
  have lt : ∀ b o v, V1.cell? ⟨b, o, none⟩ = some v → V2.cell? ⟨b, o, none⟩ = some v := fun b o v hv => (hb.cell (p := ⟨b, o, none⟩) (World.block_lt_of_cell? V1 _ hv)).trans hv
  refine ⟨⟨fun b o a n c hc => lt _ _ _ (h.mm.sl b o a n c hc), fun b o v hc => ?_, fun b o hB hl => ?_, Nat.le_trans h.mm.size hb.size, h.mm.lb⟩, ⟨hb.os.trans h.bt.os, hb.tape.trans h.bt.tape, hb.output.trans h.bt.output, Nat.le_trans h.bt.size hb.size, fun j hj => (hb.block j ?_).trans (h.bt.block j hj)⟩⟩
  · obtain ⟨u, hu⟩ := h.mm.ex b o v hc
    exact ⟨u, lt _ _ _ hu⟩
  · rw [hb.frozen (p := ⟨b, o, none⟩) (Nat.lt_of_lt_of_le hl h.mm.size)]
    exact h.mm.fz b o hB hl
  · have := h.mm.size
    have := h.bt.size
    have := h.mm.lb
    rcases hj with hj | hj <;> omega
theorem MB.set {B : Nat} {W0 V V1 : World} (h : MB B W0 V V1) {b o : Nat} {u : Value} (v : Value) (hB : B ≤ b) (hc : W0.cell? ⟨b, o, none⟩ = some u) (hns : ∀ a n c, u ≠ .slice a n c) : MB B W0 V (V1.setCell ⟨b, o, none⟩ v) := by
  have hb : b < W0.heap.size := World.block_lt_of_cell? W0 _ hc
  have oth : ∀ b' o' x, (b', o') ≠ (b, o) → V1.cell? ⟨b', o', none⟩ = some x → (V1.setCell ⟨b, o, none⟩ v).cell? ⟨b', o', none⟩ = some x := fun b' o' x hne hx => by
    rw [World.cell?_setCell_other _ _ _ _ (fun e => hne (by injection e with e1 e2; rw [← e1, ← e2]))]; exact hx
  refine ⟨⟨fun b' o' a n c hc' => ?_, fun b' o' x hc' => ?_, fun b' o' h1 h2 => by rw [World.frozen?_setCell]; exact h.mm.fz b' o' h1 h2, by simpa using h.mm.size, h.mm.lb⟩, ⟨h.bt.os, h.bt.tape, h.bt.output, by simpa using h.bt.size, fun j hj => (Below.heap_setCell _ _ _ _ (fun e => by have e' : j = b := e; omega)).trans (h.bt.block j hj)⟩⟩
  · refine oth b' o' _ (fun e => ?_) (h.mm.sl b' o' a n c hc')
    simp only [Prod.mk.injEq] at e
    obtain ⟨rfl, rfl⟩ := e
    rw [hc] at hc'
    cases hc'
    exact hns a n c rfl
  · obtain ⟨y, hy⟩ := h.mm.ex b' o' x hc'
    by_cases e : (b', o') = (b, o)
    · simp only [Prod.mk.injEq] at e
      obtain ⟨rfl, rfl⟩ := e
      exact ⟨v, set_same hy⟩
    · exact ⟨y, oth b' o' y e hy⟩
theorem sumk_le {α : Type} (f : α → Nat) (l : List α) (k : Nat) : ((l.take k).map f).sum ≤ (l.map f).sum := by
  conv => rhs; rw [← List.take_append_drop k l]
  rw [List.map_append, List.sum_append]; omega
set_option maxHeartbeats 2000000 in
theorem mkWords_c (a : Option Addr) (c : Nat) (xs : List Int) (k0 : Int) (B : Nat) (W0 V : World) (hH : HI .u64 B W0 a xs) (hm : Mk B W0 V) (h0 : 0 ≤ k0) (h1 : k0 + xs.length ≤ 100000000) :
    Calls Try.prog 31 #[.slice a xs.length c, .int .i64 k0] V fun e V' => e = .returned (.int .i64 (k0 + xs.length)) ∧ MB B W0 V V' := by
  have HH := Hid.mk' hH
  have HM := Hid.mk' hm
  clear hH hm
  go_enter Try.func31, Try.ntmps31
  go_wp2
  go_loopw [1, 5] (fun q i wr => ∃ j : Nat, j ≤ xs.length ∧ i = .int .i64 j ∧ q = .int .i64 (k0 + j) ∧ MB B W0 V wr) (fun _ i _ => xs.length - (intOf i).toNat)
  case atStart => exact ⟨0, Nat.zero_le _, rfl, by simp, MB.refl HM.out⟩
  case round =>
    obtain ⟨j, hj, rfl, rfl, hmb⟩ := hrel
    by_cases hlt : j < xs.length
    · have hji : (j : Int) < (xs.length : Int) := by omega
      rcases HH.out with hx | ⟨b, off, ea, hB, hc⟩
      · rw [hx] at hlt; simp at hlt
      have hcj := hc j hlt
      obtain ⟨u, hu⟩ := hmb.mm.ex b (off + j) _ hcj
      have hz := hmb.mm.fz b (off + j) hB (World.block_lt_of_cell? W0 _ hcj)
      have HS := Hid.mk' (fun v => hmb.set v hB hcj (by intro a n c h; cases h))
      have hw : IntKind.i64.wrap (k0 + j + 1) = k0 + j + 1 := by rw [IntKind.wrap_i64]; omega
      have hwu : IntKind.u64.wrap (k0 + j) = k0 + j := by rw [IntKind.wrap_u64]; omega
      subst ea
      clear hc hcj hmb HM HH
      go_wp2
      go_roundw
      case rel => exact ⟨j + 1, by omega, by go_num, by go_num, HS.out _⟩
      case measure => simp [intOf]; omega
    · have e : j = xs.length := by omega
      subst e
      go_wp2
      go_ret
      exact ⟨rfl, hmb⟩
def Lab.sz (x : Lab) : Nat := 0
theorem sum_zero (l : List Lab) : (l.map Lab.sz).sum = 0 := by
  induction l with
  | nil => rfl
  | cons x l ih => simp [Lab.sz, ih]
set_option maxHeartbeats 4000000 in
theorem mkLabs_c (a : Option Addr) (c : Nat) (xs : List Lab) (k0 : Int) (B : Nat) (W0 V : World) (hL : Lab.Ls B W0 a xs) (hm : Mk B W0 V) (h0 : 0 ≤ k0) (h1 : k0 + 10 * ((xs.length + (xs.map Lab.sz).sum) : Nat) ≤ 100000000) :
    Calls Try.prog 46 #[.slice a xs.length c, .int .i64 k0] V fun e V' => ∃ k1 : Int, e = .returned (.int .i64 k1) ∧ k0 ≤ k1 ∧ k1 ≤ k0 + 10 * ((xs.length + (xs.map Lab.sz).sum) : Nat) ∧ MB B W0 V V' := by
  have HL := Hid.mk' hL
  have HM := Hid.mk' hm
  have H1 := Hid.mk' h1
  have hxl : xs.length ≤ 100000000 := by omega
  clear hL hm h1
  go_enter Try.func46, Try.ntmps46
  go_wp2
  go_loopw [1, 5] (fun q i wr => ∃ (j : Nat) (kk : Int), j ≤ xs.length ∧ i = .int .i64 j ∧ q = .int .i64 kk ∧ k0 ≤ kk ∧ kk ≤ k0 + 10 * ((j + ((xs.take j).map Lab.sz).sum : Nat) : Int) ∧ MB B W0 V wr) (fun _ i _ => xs.length - (intOf i).toNat)
  case atStart => exact ⟨0, k0, Nat.zero_le _, rfl, rfl, Int.le_refl _, by simp, MB.refl HM.out⟩
  case round =>
    obtain ⟨j, kk, hj, rfl, rfl, hk0, hk1, hmb⟩ := hrel
    clear HM
    by_cases hlt : j < xs.length
    · have hji : (j : Int) < (xs.length : Int) := by omega
      rcases HL.out with hx | ⟨b, off, ea, hB, hc⟩
      · rw [hx] at hlt; simp at hlt
      have hr := hc j hlt
      have st := sum_step (f := Lab.sz) Lab.z xs j hlt
      have sle := sumk_le Lab.sz xs (j + 1)
      have hH1 := H1.out
      obtain ⟨⟨d0, d1, d2, d3⟩, hi⟩ := hr
      generalize xs.getD j Lab.z = y at *
      have lb : b < W0.heap.size := World.block_lt_of_cell? W0 _ d0
      have HST : Hid (j + 1 + ((xs.take (j + 1)).map Lab.sz).sum = (j + ((xs.take j).map Lab.sz).sum) + (1 + Lab.sz y)) := by show _ = _; rw [st]; omega
      have hbd : kk + 10 * ((1 + Lab.sz y : Nat) : Int) ≤ 100000000 := by rw [st] at sle; omega
      subst ea
      clear st sle hH1 hc HL H1
      simp only [Lab.sz] at hbd HST
      have hkp : 0 ≤ kk := by omega
      go_upto_region 4 with fail
      obtain ⟨u, hu⟩ := hmb.mm.ex b (off + j * 4) _ d0
      have hz := hmb.mm.fz b (off + j * 4) hB lb
      have hw : IntKind.i64.wrap (kk + 1) = kk + 1 := by rw [IntKind.wrap_i64]; omega
      have HS := Hid.mk' (fun v => hmb.set v hB d0 (by intro a n c h; cases h))
      clear hmb
      go_upto_region 5 with fail
      refine wp_gen (fun W => MB B W0 V W) (HS.out _) ?_
      rintro V1 m0
      clear HS hu hz u
      go_upto_region 6 with fail
      clear hw
      obtain ⟨u, hu⟩ := m0.mm.ex b (off + j * 4 + 1) _ d1
      have hz := m0.mm.fz b (off + j * 4 + 1) hB lb
      have hw : IntKind.i64.wrap ((kk + 1) + 1) = (kk + 1) + 1 := by rw [IntKind.wrap_i64]; omega
      have HS := Hid.mk' (fun v => m0.set v hB d1 (by intro a n c h; cases h))
      clear m0
      go_upto_region 7 with fail
      refine wp_gen (fun W => MB B W0 V W) (HS.out _) ?_
      rintro V2 m1
      clear HS hu hz u
      go_upto_region 8 with fail
      clear hw
      obtain ⟨u, hu⟩ := m1.mm.ex b (off + j * 4 + 2) _ d2
      have hz := m1.mm.fz b (off + j * 4 + 2) hB lb
      have hw : IntKind.i64.wrap (((kk + 1) + 1) + 1) = ((kk + 1) + 1) + 1 := by rw [IntKind.wrap_i64]; omega
      have HS := Hid.mk' (fun v => m1.set v hB d2 (by intro a n c h; cases h))
      clear m1
      go_upto_region 9 with fail
      refine wp_gen (fun W => MB B W0 V W) (HS.out _) ?_
      rintro V3 m2
      clear HS hu hz u
      go_upto_region 10 with fail
      clear hw
      obtain ⟨u, hu⟩ := m2.mm.ex b (off + j * 4 + 3) _ d3
      have hz := m2.mm.fz b (off + j * 4 + 3) hB lb
      have hw : IntKind.i64.wrap ((((kk + 1) + 1) + 1) + 1) = (((kk + 1) + 1) + 1) + 1 := by rw [IntKind.wrap_i64]; omega
      have HS := Hid.mk' (fun v => m2.set v hB d3 (by intro a n c h; cases h))
      clear m2
      go_upto_region 11 with fail
      refine wp_gen (fun W => MB B W0 V W) (HS.out _) ?_
      rintro V4 m3
      clear HS hu hz u
      go_upto_region 3 with fail
      clear hw
      have HMF := Hid.mk' m3
      clear m3
      have HKL : Hid (k0 ≤ ((((kk + 1) + 1) + 1) + 1)) := by show _ ≤ _; omega
      have HKU : Hid (((((kk + 1) + 1) + 1) + 1) ≤ k0 + 10 * ((j + 1 + ((xs.take (j + 1)).map Lab.sz).sum : Nat) : Int)) := by show _ ≤ _; rw [HST.out]; omega
      clear HST hbd hk0 hk1
      go_wp2
      go_roundw
      case rel => exact ⟨j + 1, ((((kk + 1) + 1) + 1) + 1), by omega, by go_num, rfl, HKL.out, HKU.out, HMF.out⟩
      case measure => simp [intOf]; omega
    · have e : j = xs.length := by omega
      subst e
      rw [List.take_length] at hk1
      have HO := Hid.mk' (And.intro hk0 (And.intro hk1 hmb))
      clear hk0 hk1 hmb
      go_wp2
      go_ret
      exact ⟨kk, rfl, HO.out⟩
set_option maxHeartbeats 4000000 in
theorem mkFrms_c (a : Option Addr) (c : Nat) (xs : List Frm) (k0 : Int) (B : Nat) (W0 V : World) (hL : Frm.Ls B W0 a xs) (hm : Mk B W0 V) (h0 : 0 ≤ k0) (h1 : k0 + 10 * ((xs.length + (xs.map Frm.sz).sum) : Nat) ≤ 100000000) :
    Calls Try.prog 32 #[.slice a xs.length c, .int .i64 k0] V fun e V' => ∃ k1 : Int, e = .returned (.int .i64 k1) ∧ k0 ≤ k1 ∧ k1 ≤ k0 + 10 * ((xs.length + (xs.map Frm.sz).sum) : Nat) ∧ MB B W0 V V' := by
  have HL := Hid.mk' hL
  have HM := Hid.mk' hm
  have H1 := Hid.mk' h1
  have hxl : xs.length ≤ 100000000 := by omega
  clear hL hm h1
  go_enter Try.func32, Try.ntmps32
  go_wp2
  go_loopw [1, 5] (fun q i wr => ∃ (j : Nat) (kk : Int), j ≤ xs.length ∧ i = .int .i64 j ∧ q = .int .i64 kk ∧ k0 ≤ kk ∧ kk ≤ k0 + 10 * ((j + ((xs.take j).map Frm.sz).sum : Nat) : Int) ∧ MB B W0 V wr) (fun _ i _ => xs.length - (intOf i).toNat)
  case atStart => exact ⟨0, k0, Nat.zero_le _, rfl, rfl, Int.le_refl _, by simp, MB.refl HM.out⟩
  case round =>
    obtain ⟨j, kk, hj, rfl, rfl, hk0, hk1, hmb⟩ := hrel
    clear HM
    by_cases hlt : j < xs.length
    · have hji : (j : Int) < (xs.length : Int) := by omega
      rcases HL.out with hx | ⟨b, off, ea, hB, hc⟩
      · rw [hx] at hlt; simp at hlt
      have hr := hc j hlt
      have st := sum_step (f := Frm.sz) Frm.z xs j hlt
      have sle := sumk_le Frm.sz xs (j + 1)
      have hH1 := H1.out
      obtain ⟨p1, s1, p2, s2, ⟨d0, d1, d2, d3, d4⟩, hi⟩ := hr
      generalize xs.getD j Frm.z = y at *
      have lb : b < W0.heap.size := World.block_lt_of_cell? W0 _ d0
      have HST : Hid (j + 1 + ((xs.take (j + 1)).map Frm.sz).sum = (j + ((xs.take j).map Frm.sz).sum) + (1 + Frm.sz y)) := by show _ = _; rw [st]; omega
      have hbd : kk + 10 * ((1 + Frm.sz y : Nat) : Int) ≤ 100000000 := by rw [st] at sle; omega
      subst ea
      clear st sle hH1 hc HL H1
      simp only [Frm.sz] at hbd HST
      have hkp : 0 ≤ kk := by omega
      go_upto_region 4 with fail
      obtain ⟨u, hu⟩ := hmb.mm.ex b (off + j * 5) _ d0
      have hz := hmb.mm.fz b (off + j * 5) hB lb
      have hw : IntKind.i64.wrap (kk + 1) = kk + 1 := by rw [IntKind.wrap_i64]; omega
      have HS := Hid.mk' (fun v => hmb.set v hB d0 (by intro a n c h; cases h))
      clear hmb
      go_upto_region 5 with fail
      refine wp_gen (fun W => MB B W0 V W) (HS.out _) ?_
      rintro V1 m0
      clear HS hu hz u
      go_upto_region 6 with fail
      clear hw
      obtain ⟨u, hu⟩ := m0.mm.ex b (off + j * 5 + 1) _ d1
      have hz := m0.mm.fz b (off + j * 5 + 1) hB lb
      have hw : IntKind.i64.wrap ((kk + 1) + 1) = (kk + 1) + 1 := by rw [IntKind.wrap_i64]; omega
      have HS := Hid.mk' (fun v => m0.set v hB d1 (by intro a n c h; cases h))
      clear m0
      go_upto_region 7 with fail
      refine wp_gen (fun W => MB B W0 V W) (HS.out _) ?_
      rintro V2 m1
      clear HS hu hz u
      go_upto_region 8 with fail
      clear hw
      have hs := m1.mm.sl b (off + j * 5 + 2) _ _ _ d2
      have KC := Hid.mk' (mkWords_c p1 s1 y.loc (((kk + 1) + 1)) B W0 V2 (hi.1) m1.mm (by omega) (by omega))
      have HMM := Hid.mk' m1
      clear m1
      go_wp2_with fail
      refine KC.out.mono ?_
      rintro e V3 ⟨rfl, mc⟩
      have m2 := HMM.out.trans mc
      clear mc KC HMM hs
      go_upto_region 9 with fail
      obtain ⟨u, hu⟩ := m2.mm.ex b (off + j * 5 + 3) _ d3
      have hz := m2.mm.fz b (off + j * 5 + 3) hB lb
      have hw : IntKind.i64.wrap ((((kk + 1) + 1) + y.loc.length) + 1) = (((kk + 1) + 1) + y.loc.length) + 1 := by rw [IntKind.wrap_i64]; omega
      have HS := Hid.mk' (fun v => m2.set v hB d3 (by intro a n c h; cases h))
      clear m2
      go_upto_region 10 with fail
      refine wp_gen (fun W => MB B W0 V W) (HS.out _) ?_
      rintro V4 m3
      clear HS hu hz u
      go_upto_region 11 with fail
      clear hw
      have hs := m3.mm.sl b (off + j * 5 + 4) _ _ _ d4
      have KC := Hid.mk' (mkLabs_c p2 s2 y.labs (((((kk + 1) + 1) + y.loc.length) + 1)) B W0 V4 (hi.2) m3.mm (by omega) (by rw [sum_zero]; omega))
      have HMM := Hid.mk' m3
      clear m3
      go_wp2_with fail
      refine KC.out.mono ?_
      rintro e V5 ⟨kn4, rfl, lo4, up4, mc⟩
      have m4 := HMM.out.trans mc
      clear mc KC HMM hs
      rw [sum_zero] at up4
      have HMF := Hid.mk' m4
      clear m4
      have HKL : Hid (k0 ≤ kn4) := by show _ ≤ _; omega
      have HKU : Hid (kn4 ≤ k0 + 10 * ((j + 1 + ((xs.take (j + 1)).map Frm.sz).sum : Nat) : Int)) := by show _ ≤ _; rw [HST.out]; omega
      clear HST hbd hk0 hk1
      go_wp2
      go_roundw
      case rel => exact ⟨j + 1, kn4, by omega, by go_num, rfl, HKL.out, HKU.out, HMF.out⟩
      case measure => simp [intOf]; omega
    · have e : j = xs.length := by omega
      subst e
      rw [List.take_length] at hk1
      have HO := Hid.mk' (And.intro hk0 (And.intro hk1 hmb))
      clear hk0 hk1 hmb
      go_wp2
      go_ret
      exact ⟨kk, rfl, HO.out⟩
theorem bk_bet {V0 V1 : World} {B C g : Nat} {cs : List Value} (h : Bk V0 g cs) (t : Bet B C V0 V1) (hC : C ≤ g) : Bk V1 g cs :=
  ⟨Nat.lt_of_lt_of_le h.1 t.size, fun j v hv => (t.cell (.inr ⟨hC, h.1⟩)).trans (h.2.1 j v hv), fun j => (t.frozen (.inr ⟨hC, h.1⟩)).trans (h.2.2 j)⟩
set_option maxHeartbeats 8000000 in
theorem mkSta_c (x : Sta) (a1 : Option Addr) (c1 : Nat) (a2 : Option Addr) (c2 : Nat) (B : Nat) (W0 V : World) (hI : Sta.Is B W0 x a1 a2) (hm : Mk B W0 V) (hs : x.sz ≤ 1048576) :
    Calls Try.prog 11 #[.agg #[.int .i64 x.st, .int .i64 x.tr, .slice a1 x.stk.length c1, .slice a2 x.frs.length c2], .int .i64 1] V fun e V' => ∃ k : Int, e = .returned (.int .i64 k) ∧ 0 ≤ k ∧ MB B W0 V V' := by
  simp only [Sta.sz] at hs
  obtain ⟨V0, hV0⟩ : ∃ V0, V0 = V.alloc (.cells #[.int .i64 x.st, .int .i64 x.tr, .slice a1 x.stk.length c1, .slice a2 x.frs.length c2] 31) := ⟨_, rfl⟩
  have hBk : Bk V0 V.heap.size [.int .i64 x.st, .int .i64 x.tr, .slice a1 x.stk.length c1, .slice a2 x.frs.length c2] := by rw [hV0]; exact Bk.new
  have m0 : MB B W0 V V0 := (MB.refl hm).below (by rw [hV0]; exact (Below.refl _ _).alloc (Nat.le_refl _) _)
  have hC : W0.heap.size ≤ V.heap.size := hm.size
  have HV0 := Hid.mk' hV0
  clear hV0 hm
  go_enter Try.func11, Try.ntmps11
  go_upto_region 1 with fail
  rw [← HV0.out]
  clear HV0
  have hq : V0.cell? ⟨V.heap.size, 2, none⟩ = some (.slice a1 x.stk.length c1) := hBk.2.1 2 _ rfl
  have KC := Hid.mk' (mkWords_c a1 c1 x.stk 1 B W0 V0 hI.1 m0.mm (by omega) (by omega))
  have HM := Hid.mk' m0
  have HK := Hid.mk' hBk
  clear m0 hBk
  go_wp2_with fail
  refine KC.out.mono ?_
  rintro e V1 ⟨rfl, mc⟩
  have m1 := HM.out.trans mc
  have bk1 := bk_bet HK.out mc.bt hC
  clear mc KC HM HK hq
  have hq : V1.cell? ⟨V.heap.size, 3, none⟩ = some (.slice a2 x.frs.length c2) := bk1.2.1 3 _ rfl
  have KC := Hid.mk' (mkFrms_c a2 c2 x.frs (1 + x.stk.length) B W0 V1 hI.2 m1.mm (by omega) (by omega))
  have HM := Hid.mk' m1
  have HK := Hid.mk' bk1
  clear m1 bk1
  go_wp2_with fail
  refine KC.out.mono ?_
  rintro e V2 ⟨k2, rfl, lo2, up2, mc⟩
  have HM2 := Hid.mk' (HM.out.trans mc)
  have HP : Hid (0 ≤ k2) := by show _ ≤ _; omega
  clear mc KC HM HK hq up2 lo2
  go_wp2
  go_ret
  exact ⟨k2, rfl, HP.out, HM2.out⟩
end Go.Proofs.Ytfaajmhmcdoibaa
