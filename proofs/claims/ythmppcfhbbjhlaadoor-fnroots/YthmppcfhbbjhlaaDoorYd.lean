import Derived.Test.YthmppcfhbbjhlaaDoorSpec1
import Derived.Laws.Bits128
import Derived.OpenShut
import Derived.ProofKit
import Derived.Test.YthmppcfhbbjhlaaDoorSf
set_option linter.all false
set_option linter.unusedVariables false
namespace Go.Proofs.YthmppcfhbbjhlaaDoor
open Go.RowKit
def Has (w : World) (a : Option Addr) (xs : List Int) : Prop :=
  xs = [] ∨ ∃ b off, a = some ⟨b, off, none⟩ ∧ ∀ i, i < xs.length → w.cell? ⟨b, off + i, none⟩ = some (.int .u8 (xs.getD i 0))
def AllB (xs : List Int) : Prop := ∀ i, 0 ≤ xs.getD i 0 ∧ xs.getD i 0 ≤ 255
theorem grown_trans {a b c : World} {row : Option Nat} (h : a.grownBy b row) (k : b.grownBy c row) : a.grownBy c row :=
  ⟨k.os.trans h.os, k.tape.trans h.tape, k.output.trans h.output, Nat.le_trans h.size k.size, fun i hi hne => (k.block i (Nat.lt_of_lt_of_le hi h.size) hne).trans (h.block i hi hne)⟩
theorem Has.below {w w' : World} {a : Option Addr} {xs : List Int} (h : Has w a xs) (hb : Below w.heap.size w w') : Has w' a xs := by
  rcases h with h | ⟨b, o, e, hc⟩
  · exact .inl h
  · exact .inr ⟨b, o, e, fun i hi => (hb.cell (World.block_lt_of_cell? w _ (hc i hi))).trans (hc i hi)⟩

/-- What came in as a slice of bytes. -/
theorem row_has {w : World} {a : Option Addr} {len cap : Nat} {zs : List Int}
    (h : (a = none ∧ len = 0 ∧ cap = 0 ∧ zs = []) ∨ ∃ x, a = some x ∧ len ≤ cap ∧ cap ≤ maxLen ∧ zs.length = cap ∧ (∀ i, i < zs.length → w.cell? (x.add i) = some (.int .u8 (zs.getD i 0))) ∧ ∀ n ∈ zs, (Lit.int .u8 n).wf = true) :
    ∃ xs : List Int, xs.length = len ∧ len ≤ maxLen ∧ Has w a xs ∧ AllB xs := by
  rcases h with ⟨rfl, rfl, rfl, rfl⟩ | ⟨x, rfl, hlc, hcm, hz, hc, hw⟩
  · exact ⟨[], rfl, Nat.zero_le _, .inl rfl, fun i => by simp⟩
  · refine ⟨zs.take len, by simp; omega, by omega, ?_, ?_⟩
    · by_cases h0 : len = 0
      · subst h0; exact .inl (by simp)
      · obtain ⟨b, off, spot⟩ := x
        have h1 := hc 0 (by omega)
        have hspot : spot = none := by simpa [Addr.add] using World.cell?_spot h1
        subst hspot
        refine .inr ⟨b, off, rfl, fun i hi => ?_⟩
        have hi' : i < len := by simp at hi; omega
        have h2 := hc i (by omega)
        have e : (zs.take len).getD i 0 = zs.getD i 0 := by simp [List.getD, hi']
        rw [e]
        rwa [Addr.add_lit] at h2
    · intro i
      by_cases hi : i < (zs.take len).length
      · have hm : (zs.take len)[i] ∈ zs := List.mem_of_mem_take (List.getElem_mem hi)
        have hb := bounds_u8 (hw _ hm)
        simpa [List.getD, List.getElem?_eq_getElem hi] using hb
      · rw [List.getD_eq_getElem?_getD, List.getElem?_eq_none (by omega)]
        simp


theorem and255 (n : Int) : bits .and .i64 n 255 = n % 256 := by
  show IntKind.i64.wrap ((BitVec.ofInt 64 n &&& BitVec.ofInt 64 255).toNat : Int) = _
  have e : (BitVec.ofInt 64 255).toNat = 2 ^ 8 - 1 := by decide
  rw [BitVec.toNat_and, e, Nat.and_two_pow_sub_one_eq_mod, BitVec.toNat_ofInt, IntKind.wrap_i64]
  omega

/-- A cursor over the bytes xs at block g. -/
def Cur (w : World) (g : Nat) (a : Option Addr) (cap : Nat) (xs : List Int) : Prop :=
  ∃ (k : Nat) (h : Int), k ≤ xs.length ∧ w.cell? ⟨g, 0, none⟩ = some (.slice a xs.length cap) ∧ w.cell? ⟨g, 1, none⟩ = some (.int .i64 k) ∧ w.cell? ⟨g, 2, none⟩ = some (.int .i64 h) ∧
    w.frozen? ⟨g, 1, none⟩ = false ∧ w.frozen? ⟨g, 2, none⟩ = false ∧ Has w a xs ∧ (xs = [] ∨ ∃ b o, a = some ⟨b, o, none⟩ ∧ b < g)

theorem Cur.of_heap {w w' : World} {g : Nat} {a : Option Addr} {cap : Nat} {xs : List Int} (h : Cur w g a cap xs) (e : w'.heap = w.heap) : Cur w' g a cap xs := by
  have hc : ∀ p, w'.cell? p = w.cell? p := fun p => World.cell?_of_block (w := w) (by rw [e])
  have hf : ∀ p, w'.frozen? p = w.frozen? p := fun p => World.frozen?_of_block (w := w) (by rw [e])
  obtain ⟨k, v, h0, h1, h2, h3, h4, h5, h6, h7⟩ := h
  refine ⟨k, v, h0, by rw [hc, h1], by rw [hc, h2], by rw [hc, h3], by rw [hf, h4], by rw [hf, h5], ?_, h7⟩
  rcases h6 with h | ⟨b, o, e, hh⟩
  · exact .inl h
  · exact .inr ⟨b, o, e, fun i hi => by rw [hc, hh i hi]⟩

theorem Cur.below {w w' : World} {g B : Nat} {a : Option Addr} {cap : Nat} {xs : List Int} (h : Cur w g a cap xs) (hb : Below B w w') (hg : g < B) : Cur w' g a cap xs := by
  obtain ⟨k, v, h0, h1, h2, h3, h4, h5, h6, h7⟩ := h
  refine ⟨k, v, h0, by rw [hb.cell hg, h1], by rw [hb.cell hg, h2], by rw [hb.cell hg, h3], by rw [hb.frozen hg, h4], by rw [hb.frozen hg, h5], ?_, h7⟩
  rcases h7 with h | ⟨b, o, e, hlt⟩
  · exact .inl h
  · rcases h6 with h | ⟨b', o', e', hh⟩
    · exact .inl h
    · rw [e] at e'
      simp only [Option.some.injEq, Addr.mk.injEq, and_true] at e'
      obtain ⟨rfl, rfl⟩ := e'
      exact .inr ⟨b, o, e, fun i hi => by rw [hb.cell (p := ⟨b, o + i, none⟩) (show b < B by omega), hh i hi]⟩

theorem has_set {w : World} {g j : Nat} {u : Value} {a : Option Addr} {xs : List Int} (h : Has w a xs) (hn : xs = [] ∨ ∃ b o, a = some ⟨b, o, none⟩ ∧ b < g) : Has (w.setCell ⟨g, j, none⟩ u) a xs := by
  rcases hn with h0 | ⟨b, o, e, hlt⟩
  · exact .inl h0
  · rcases h with h0 | ⟨b', o', e', hh⟩
    · exact .inl h0
    · rw [e] at e'
      simp only [Option.some.injEq, Addr.mk.injEq, and_true] at e'
      obtain ⟨rfl, rfl⟩ := e'
      exact .inr ⟨b, o, e, fun i hi => by rw [World.cell?_setCell_other _ _ _ _ (by intro e; simp only [Addr.mk.injEq] at e; omega), hh i hi]⟩

theorem cur_set2 {w : World} {g : Nat} {a : Option Addr} {cap : Nat} {xs : List Int} (h : Cur w g a cap xs) (v : Int) : Cur (w.setCell ⟨g, 2, none⟩ (.int .i64 v)) g a cap xs := by
  obtain ⟨k, x, h0, h1, h2, h3, h4, h5, h6, h7⟩ := h
  exact ⟨k, v, h0, (World.cell?_setCell_other _ _ _ _ (by simp)).trans h1, (World.cell?_setCell_other _ _ _ _ (by simp)).trans h2, World.cell?_setCell_same _ _ _ h3, (World.frozen?_setCell _ _ _ _).trans h4, (World.frozen?_setCell _ _ _ _).trans h5, has_set h6 h7, h7⟩

theorem cur_set1 {w : World} {g : Nat} {a : Option Addr} {cap : Nat} {xs : List Int} (h : Cur w g a cap xs) (k' : Nat) (hk : k' ≤ xs.length) : Cur (w.setCell ⟨g, 1, none⟩ (.int .i64 k')) g a cap xs := by
  obtain ⟨k, x, h0, h1, h2, h3, h4, h5, h6, h7⟩ := h
  exact ⟨k', x, hk, (World.cell?_setCell_other _ _ _ _ (by simp)).trans h1, World.cell?_setCell_same _ _ _ h2, (World.cell?_setCell_other _ _ _ _ (by simp)).trans h3, (World.frozen?_setCell _ _ _ _).trans h4, (World.frozen?_setCell _ _ _ _).trans h5, has_set h6 h7, h7⟩

theorem grown_set {w w' : World} {g j : Nat} {u : Value} (h : w.grownBy w' (some g)) : w.grownBy (w'.setCell ⟨g, j, none⟩ u) (some g) :=
  grown_trans h ⟨rfl, rfl, rfl, by simp, fun k _ hk => heap_setCell_other w' ⟨g, j, none⟩ k u (fun e => hk (by simp [e]))⟩

theorem grown_of {w w' w'' : World} {row : Option Nat} (h : w.grownBy w' row) (h1 : w''.os = w'.os) (h2 : w''.tape = w'.tape) (h3 : w''.output = w'.output) (h4 : w''.heap = w'.heap) : w.grownBy w'' row :=
  ⟨h1.trans h.os, h2.trans h.tape, h3.trans h.output, by rw [h4]; exact h.size, fun k a b => by rw [h4]; exact h.block k a b⟩

set_option maxHeartbeats 1000000 in
theorem byte_any (g : Nat) (a : Option Addr) (cap : Nat) (xs : List Int) (w : World) (hl : xs.length ≤ 1099511627776) (hB : AllB xs) (hC : Cur w g a cap xs) :
    Calls Tryd.prog 97 #[.pointer (some ⟨g, 0, none⟩)] w fun e w' => ∃ x : Int, e = .returned (.int .i64 x) ∧ 0 ≤ x ∧ x ≤ 255 ∧ Cur w' g a cap xs ∧ w.grownBy w' (some g) := by
  have HCC := Hid.mk' hC
  obtain ⟨k, h, h0, h1, h2, h3, h4, h5, h6, h7⟩ := hC
  have hA := and255
  by_cases hk : k < xs.length
  · rcases h7 with e | ⟨b, o, e, hlt⟩
    · subst e; simp at hk
    rcases h6 with e' | ⟨b', o', e', hh⟩
    · subst e'; simp at hk
    rw [e] at e'
    simp only [Option.some.injEq, Addr.mk.injEq, and_true] at e'
    obtain ⟨rfl, rfl⟩ := e'
    subst e
    have d := hh k hk
    have hb := hB k
    obtain ⟨c, hc⟩ : ∃ c, c = xs.getD k 0 := ⟨_, rfl⟩
    rw [← hc] at d hb
    obtain ⟨hb0, hb1⟩ := hb
    have hki : (k : Int) < (xs.length : Int) := by omega
    clear hh hc h0
    go_enter Tryd.func97, Tryd.ntmps97
    go_wp2
    go_quiet (fail)
    go_wp2
    go_quiet (fail)
    go_wp2
    go_quiet (fail)
    go_wp2
    go_ret
    refine ⟨_, rfl, ?_, ?_, (cur_set1 (cur_set2 HCC.out _) (k + 1) hk).of_heap rfl, grown_of (grown_set (grown_set (World.grownBy.refl _ _))) rfl rfl rfl rfl⟩
    · show 0 ≤ _ % 256; omega
    · show _ % 256 ≤ 255; omega
  · have hki : ¬ (k : Int) < (xs.length : Int) := by omega
    clear h6 h7
    go_enter Tryd.func97, Tryd.ntmps97
    go_wp2
    go_quiet (fail)
    go_wp2
    go_quiet (fail)
    go_wp2
    go_ret
    refine ⟨_, rfl, ?_, ?_, (cur_set2 HCC.out _).of_heap rfl, grown_of (grown_set (World.grownBy.refl _ _)) rfl rfl rfl rfl⟩
    · show 0 ≤ _ % 256; omega
    · show _ % 256 ≤ 255; omega

theorem below_any (g : Nat) (a : Option Addr) (cap : Nat) (xs : List Int) (n : Int) (w : World) (hl : xs.length ≤ 1099511627776) (hB : AllB xs) (hC : Cur w g a cap xs) (hn : 1 ≤ n) (hn' : n ≤ 256) :
    Calls Tryd.prog 59 #[.pointer (some ⟨g, 0, none⟩), .int .i64 n] w fun e w' => ∃ x : Int, e = .returned (.int .i64 x) ∧ 0 ≤ x ∧ x < n ∧ Cur w' g a cap xs ∧ w.grownBy w' (some g) := by
  have H := Hid.mk' (byte_any g a cap xs w hl hB hC)
  clear hC hB hl
  go_enter Tryd.func59, Tryd.ntmps59
  go_wp2_with fail
  refine H.out.mono ?_
  rintro e w1 ⟨x, rfl, hx0, hx1, hc, hg⟩
  have hm := Int.emod_lt_of_pos x (show 0 < n by omega)
  have hm' := Int.emod_nonneg x (show n ≠ 0 by omega)
  go_wp2
  go_ret
  exact ⟨_, rfl, hm', hm, hc, hg⟩

set_option maxHeartbeats 1000000 in
theorem new_any (a : Option Addr) (cap : Nat) (xs : List Int) (w : World) (hl : xs.length ≤ 1099511627776) (hB : AllB xs) (ha : Has w a xs) :
    Calls Tryd.prog 58 #[.slice a xs.length cap] w fun e w' => e = .returned (.pointer (some ⟨w.heap.size, 0, none⟩)) ∧ Cur w' w.heap.size a cap xs ∧ Below w.heap.size w w' ∧ w.heap.size < w'.heap.size := by
  have hfin : ∀ v : Int, Cur (w.alloc (.cells #[.slice a xs.length cap, .int .i64 0, .int .i64 v] 124)) w.heap.size a cap xs := fun v =>
    ⟨0, v, Nat.zero_le _, by simp, by simp, by simp, by simp, by simp, ha.below ((Below.refl _ _).alloc (Nat.le_refl _) _), by
      rcases ha with h | ⟨b, o, e, hh⟩
      · exact .inl h
      · by_cases h0 : xs = []
        · exact .inl h0
        · exact .inr ⟨b, o, e, World.block_lt_of_cell? w _ (hh 0 (List.length_pos_iff.2 h0))⟩⟩
  have HF := Hid.mk' hfin
  have HA := Hid.mk' ha
  clear hfin ha
  go_enter Tryd.func58, Tryd.ntmps58
  go_wp2
  go_loop [3, 4] (fun hv i => ∃ (k : Nat) (h : Int), k ≤ xs.length ∧ i = .int .i64 k ∧ hv = .int .i64 h) (fun _ i => xs.length - (intOf i).toNat)
  case atStart => exact ⟨0, _, Nat.zero_le _, rfl, rfl⟩
  case round =>
    obtain ⟨k, h, hk, rfl, rfl⟩ := hrel
    by_cases hlt : k < xs.length
    · rcases HA.out with hx | ⟨b1, o1, ea, hc1⟩
      · subst hx; simp at hlt
      subst ea
      have hki : (k : Int) < (xs.length : Int) := by omega
      have d := hc1 k hlt
      have hb := hB k
      obtain ⟨c, hc⟩ : ∃ c, c = xs.getD k 0 := ⟨_, rfl⟩
      rw [← hc] at d hb
      obtain ⟨hb0, hb1⟩ := hb
      clear hc hc1 HF HA hB
      go_wp2
      go_round
      case rel => exact ⟨k + 1, _, by omega, by go_num, rfl⟩
      case measure => simp [intOf]; omega
    · go_wp2
      go_ret
      exact ⟨rfl, HF.out _, (Below.refl _ _).alloc (Nat.le_refl _) _, by simp⟩
end Go.Proofs.YthmppcfhbbjhlaaDoor
set_option linter.unusedVariables false
namespace Go.Proofs.YthmppcfhbbjhlaaDoor
open Go.RowKit
set_option maxHeartbeats 2000000 in
theorem drawU64_any (g : Nat) (a : Option Addr) (cap : Nat) (xs : List Int) (w : World) (hl : xs.length ≤ 1099511627776) (hB : AllB xs) (hC : Cur w g a cap xs) :
    Calls Tryd.prog 60 #[.pointer (some ⟨g, 0, none⟩)] w fun e w' => ∃ x : Int, e = .returned (.int .u64 x) ∧ 0 ≤ x ∧ x ≤ 18446744073709551615 ∧ Cur w' g a cap xs ∧ w.grownBy w' (some g) := by
  have CB := Hid.mk' (fun W n hC h1 h2 => below_any g a cap xs n W hl hB hC h1 h2)
  clear hB hl
  go_enter Tryd.func60, Tryd.ntmps60
  go_wp2_with fail
  refine (CB.out _ 8 hC (by omega) (by omega)).mono ?_
  rintro e w1 ⟨k, rfl, hk0, hk1, hC1, hg1⟩
  clear hC
  go_wp2_with fail
  refine (CB.out _ 256 hC1 (by omega) (by omega)).mono ?_
  rintro e w2 ⟨x, rfl, hx0, hx1, hC2, hg2⟩
  have hg2 := grown_trans hg1 hg2
  clear hC1 hg1
  go_wp2_with fail
  refine (CB.out _ 64 hC2 (by omega) (by omega)).mono ?_
  rintro e w3 ⟨n, rfl, hn0, hn1, hC3, hg3⟩
  have hg3 := grown_trans hg2 hg3
  clear hC2 hg2
  have hp := P2_pos n
  have hp63 := P2_63 (n := n) (by omega)
  rcases (show k = 0 ∨ k = 1 ∨ k = 2 ∨ k = 3 ∨ k = 4 ∨ k = 5 ∨ (6 ≤ k ∧ k ≤ 7) by omega) with rfl | rfl | rfl | rfl | rfl | rfl | ⟨hk6, hk7⟩
  · go_wp2
    go_ret
    exact ⟨_, rfl, by omega, by omega, hC3, hg3⟩
  · go_wp2_with (go_at_call 25; refine (pow_any _ _ (by omega) (by omega)).mono ?_; rintro e w' ⟨rfl, rfl⟩)
    go_ret
    exact ⟨_, rfl, by omega, by omega, hC3, hg3⟩
  · go_wp2_with (go_at_call 25; refine (pow_any _ _ (by omega) (by omega)).mono ?_; rintro e w' ⟨rfl, rfl⟩)
    go_ret
    exact ⟨_, rfl, by omega, by omega, hC3, hg3⟩
  · go_wp2
    go_ret
    exact ⟨_, rfl, (u64w _).1, (u64w _).2, hC3, hg3⟩
  · go_wp2_with (go_at_call 25; refine (pow_any _ _ (by omega) (by omega)).mono ?_; rintro e w' ⟨rfl, rfl⟩)
    go_ret
    exact ⟨_, rfl, by omega, by omega, hC3, hg3⟩
  · go_wp2
    go_ret
    exact ⟨_, rfl, by omega, by omega, hC3, hg3⟩
  · have e0 : (k == 0) = false := beq_eq_false_iff_ne.2 (by omega)
    have e1 : (k == 1) = false := beq_eq_false_iff_ne.2 (by omega)
    have e2 : (k == 2) = false := beq_eq_false_iff_ne.2 (by omega)
    have e3 : (k == 3) = false := beq_eq_false_iff_ne.2 (by omega)
    have e4 : (k == 4) = false := beq_eq_false_iff_ne.2 (by omega)
    have e5 : (k == 5) = false := beq_eq_false_iff_ne.2 (by omega)
    go_wp2
    go_loopw [6, 7] (fun ov iv wr => ∃ (i : Nat) (o : Int), i ≤ 7 ∧ iv = .int .i64 i ∧ ov = .int .u64 o ∧ 0 ≤ o ∧ o ≤ 18446744073709551615 ∧ Cur wr g a cap xs ∧ w.grownBy wr (some g)) (fun _ iv _ => 7 - (intOf iv).toNat)
    case atStart => exact ⟨0, x, by omega, rfl, rfl, by omega, by omega, hC3, hg3⟩
    case round =>
      clear hC3 hg3
      obtain ⟨i, o, hi, rfl, rfl, ho0, ho1, hC, hg⟩ := hrel
      by_cases hlt : i < 7
      · have hlti : (i : Int) < 7 := by omega
        go_wp2_with fail
        refine (CB.out _ 256 hC (by omega) (by omega)).mono ?_
        rintro e w4 ⟨y, rfl, hy0, hy1, hC4, hg4⟩
        have hg4 := grown_trans hg hg4
        clear hC hg
        go_wp2
        go_roundw
        case rel => exact ⟨i + 1, _, by omega, by go_num, rfl, (u64w _).1, (u64w _).2, hC4, hg4⟩
        case measure => simp [intOf]; omega
      · have hlti : ¬ (i : Int) < 7 := by omega
        go_wp2
        go_ret
        exact ⟨o, rfl, ho0, ho1, hC, hg⟩


theorem once_any (g : Nat) (a : Option Addr) (cap : Nat) (xs : List Int) (n : Int) (w : World) (hl : xs.length ≤ 1099511627776) (hB : AllB xs) (hC : Cur w g a cap xs) (hn : 1 ≤ n) (hn' : n ≤ 256) :
    Calls Tryd.prog 63 #[.pointer (some ⟨g, 0, none⟩), .int .i64 n] w fun e w' => ∃ r : Bool, e = .returned (.bool r) ∧ Cur w' g a cap xs ∧ w.grownBy w' (some g) := by
  have H := Hid.mk' (below_any g a cap xs n w hl hB hC hn hn')
  clear hC hB hl
  go_enter Tryd.func63, Tryd.ntmps63
  go_wp2_with fail
  refine H.out.mono ?_
  rintro e w1 ⟨k, rfl, hk0, hk1, hC1, hg1⟩
  clear H
  go_wp2
  go_ret
  exact ⟨_, rfl, hC1, hg1⟩

end Go.Proofs.YthmppcfhbbjhlaaDoor
set_option linter.unusedVariables false
namespace Go.Proofs.YthmppcfhbbjhlaaDoor
open Go.RowKit
theorem sn_heap {w w' : World} {v : Value} {x : Nat} (h : SN w v x) (e : w'.heap = w.heap) : SN w' v x := by
  obtain ⟨a, cap, e1, hh⟩ := h
  refine ⟨a, cap, e1, ?_⟩
  rcases hh with hh | ⟨b, off, ea, hc⟩
  · exact .inl hh
  · exact .inr ⟨b, off, ea, fun j hj => (World.cell?_of_block (w := w) (by rw [e])).trans (hc j hj)⟩
set_option maxHeartbeats 1000000 in
theorem byte_sn (g : Nat) (a : Option Addr) (cap : Nat) (xs : List Int) (w : World) (hl : xs.length ≤ 1099511627776) (hB : AllB xs) (hC : Cur w g a cap xs) :
    Calls Tryd.prog 97 #[.pointer (some ⟨g, 0, none⟩)] w fun e w' => ∃ x : Int, e = .returned (.int .i64 x) ∧ 0 ≤ x ∧ x ≤ 255 ∧ Cur w' g a cap xs ∧ w.grownBy w' (some g) ∧ ∀ v n, SN w v n → SN w' v n := by
  have HCC := Hid.mk' hC
  obtain ⟨k, h, h0, h1, h2, h3, h4, h5, h6, h7⟩ := hC
  have hA := and255
  by_cases hk : k < xs.length
  · rcases h7 with e | ⟨b, o, e, hlt⟩
    · subst e; simp at hk
    rcases h6 with e' | ⟨b', o', e', hh⟩
    · subst e'; simp at hk
    rw [e] at e'
    simp only [Option.some.injEq, Addr.mk.injEq, and_true] at e'
    obtain ⟨rfl, rfl⟩ := e'
    subst e
    have d := hh k hk
    have hb := hB k
    obtain ⟨c, hc⟩ : ∃ c, c = xs.getD k 0 := ⟨_, rfl⟩
    rw [← hc] at d hb
    obtain ⟨hb0, hb1⟩ := hb
    have hki : (k : Int) < (xs.length : Int) := by omega
    clear hh hc h0
    go_enter Tryd.func97, Tryd.ntmps97
    go_wp2
    go_quiet (fail)
    go_wp2
    go_quiet (fail)
    go_wp2
    go_quiet (fail)
    go_wp2
    go_ret
    refine ⟨_, rfl, ?_, ?_, (cur_set1 (cur_set2 HCC.out _) (k + 1) hk).of_heap rfl, grown_of (grown_set (grown_set (World.grownBy.refl _ _))) rfl rfl rfl rfl, fun v n hS => sn_heap (sn_set (sn_set hS h3 (by intro d hd; cases hd)) ((World.cell?_setCell_other _ _ _ _ (by simp)).trans h2) (by intro d hd; cases hd)) rfl⟩
    · show 0 ≤ _ % 256; omega
    · show _ % 256 ≤ 255; omega
  · have hki : ¬ (k : Int) < (xs.length : Int) := by omega
    clear h6 h7
    go_enter Tryd.func97, Tryd.ntmps97
    go_wp2
    go_quiet (fail)
    go_wp2
    go_quiet (fail)
    go_wp2
    go_ret
    refine ⟨_, rfl, ?_, ?_, (cur_set2 HCC.out _).of_heap rfl, grown_of (grown_set (World.grownBy.refl _ _)) rfl rfl rfl rfl, fun v n hS => sn_heap (sn_set hS h3 (by intro d hd; cases hd)) rfl⟩
    · show 0 ≤ _ % 256; omega
    · show _ % 256 ≤ 255; omega

theorem below_sn (g : Nat) (a : Option Addr) (cap : Nat) (xs : List Int) (n : Int) (w : World) (hl : xs.length ≤ 1099511627776) (hB : AllB xs) (hC : Cur w g a cap xs) (hn : 1 ≤ n) (hn' : n ≤ 256) :
    Calls Tryd.prog 59 #[.pointer (some ⟨g, 0, none⟩), .int .i64 n] w fun e w' => ∃ x : Int, e = .returned (.int .i64 x) ∧ 0 ≤ x ∧ x < n ∧ Cur w' g a cap xs ∧ w.grownBy w' (some g) ∧ ∀ v n, SN w v n → SN w' v n := by
  have H := Hid.mk' (byte_sn g a cap xs w hl hB hC)
  clear hC hB hl
  go_enter Tryd.func59, Tryd.ntmps59
  go_wp2_with fail
  refine H.out.mono ?_
  rintro e w1 ⟨x, rfl, hx0, hx1, hc, hg, hS⟩
  have hm := Int.emod_lt_of_pos x (show 0 < n by omega)
  have hm' := Int.emod_nonneg x (show n ≠ 0 by omega)
  go_wp2
  go_ret
  exact ⟨_, rfl, hm', hm, hc, hg, hS⟩

theorem once_sn (g : Nat) (a : Option Addr) (cap : Nat) (xs : List Int) (n : Int) (w : World) (hl : xs.length ≤ 1099511627776) (hB : AllB xs) (hC : Cur w g a cap xs) (hn : 1 ≤ n) (hn' : n ≤ 256) :
    Calls Tryd.prog 63 #[.pointer (some ⟨g, 0, none⟩), .int .i64 n] w fun e w' => ∃ r : Bool, e = .returned (.bool r) ∧ Cur w' g a cap xs ∧ w.grownBy w' (some g) ∧ ∀ v n, SN w v n → SN w' v n := by
  have H := Hid.mk' (below_sn g a cap xs n w hl hB hC hn hn')
  clear hC hB hl
  go_enter Tryd.func63, Tryd.ntmps63
  go_wp2_with fail
  refine H.out.mono ?_
  rintro e w1 ⟨k, rfl, hk0, hk1, hC1, hg1, hS⟩
  clear H
  go_wp2
  go_ret
  exact ⟨_, rfl, hC1, hg1, hS⟩

end Go.Proofs.YthmppcfhbbjhlaaDoor
set_option linter.unusedVariables false
namespace Go.Proofs.YthmppcfhbbjhlaaDoor
open Go.RowKit
set_option maxRecDepth 100000
set_option maxHeartbeats 1000000 in
theorem lwAt_c (a : Option Addr) (cap : Nat) (xs : List Int) (i : Nat) (w : World) (hi : i ≤ 1000) (hl : xs.length ≤ 1099511627776) (hB : AllB xs) (ha : Has w a xs) :
    Calls Tryd.prog 21 #[.slice a xs.length cap, .int .i64 i] w fun e w' => ∃ x : Int, e = .returned (.int .i64 x) ∧ 0 ≤ x ∧ x ≤ 255 ∧ w = w' := by
  by_cases h : i < xs.length
  · rcases ha with e | ⟨b, o, rfl, hc⟩
    · subst e; simp at h
    have d := hc i h
    have hb := hB i
    have hii : (i : Int) < (xs.length : Int) := by omega
    obtain ⟨c, hcc⟩ : ∃ c, c = xs.getD i 0 := ⟨_, rfl⟩
    rw [← hcc] at d hb
    obtain ⟨hb0, hb1⟩ := hb
    clear hc hcc hB
    have hw : IntKind.i64.wrap c = c := by rw [IntKind.wrap_i64]; omega
    go_enter Tryd.func21, Tryd.ntmps21
    go_wp2
    go_ret
    exact ⟨c, rfl, hb0, hb1, rfl⟩
  · have hii : ¬ (i : Int) < (xs.length : Int) := by omega
    have hw1 : IntKind.i64.wrap ((i : Int) * 61) = (i : Int) * 61 := by rw [IntKind.wrap_i64]; omega
    have hw2 : IntKind.i64.wrap ((i : Int) * 61 + 29) = (i : Int) * 61 + 29 := by rw [IntKind.wrap_i64]; omega
    clear ha hB
    go_enter Tryd.func21, Tryd.ntmps21
    go_wp2
    go_ret
    refine ⟨_, rfl, ?_, ?_, rfl⟩
    · omega
    · omega
set_option maxHeartbeats 1000000 in
theorem lwWord_c (a : Option Addr) (cap : Nat) (xs : List Int) (w : World) (hl : xs.length ≤ 1099511627776) (hB : AllB xs) (ha : Has w a xs) :
    Calls Tryd.prog 16 #[.slice a xs.length cap, .int .i64 0] w fun e w' => ∃ x : Int, e = .returned (.int .u64 x) ∧ 0 ≤ x ∧ x ≤ 18446744073709551615 ∧ w = w' := by
  have KA := Hid.mk' (fun (i : Nat) (hi : i ≤ 1000) => lwAt_c a cap xs i w hi hl hB ha)
  clear hl hB ha
  go_enter Tryd.func16, Tryd.ntmps16
  go_wp2
  go_loop [5, 6] (fun q i => ∃ (k : Nat) (o : Int), k ≤ 8 ∧ i = .int .i64 k ∧ q = .int .u64 o ∧ 0 ≤ o ∧ o ≤ 18446744073709551615) (fun _ i => 8 - (intOf i).toNat)
  case atStart => exact ⟨0, 0, by omega, rfl, rfl, by omega, by omega⟩
  case round =>
    obtain ⟨k, o, hk, rfl, rfl, o0, o1⟩ := hrel
    by_cases hlt : k < 8
    · have hki : (k : Int) < 8 := by omega
      have hw : IntKind.i64.wrap (0 + (k : Int)) = (k : Int) := by rw [IntKind.wrap_i64]; omega
      have hw' : IntKind.i64.wrap (k : Int) = (k : Int) := by rw [IntKind.wrap_i64]; omega
      go_wp2_with fail
      refine (KA.out k (by omega)).mono ?_
      rintro e w1 ⟨x, rfl, x0, x1, rfl⟩
      go_wp2
      go_round
      case rel => exact ⟨k + 1, _, by omega, by go_num, rfl, (u64w _).1, (u64w _).2⟩
      case measure => simp [intOf]; omega
    · have hki : ¬ (k : Int) < 8 := by omega
      go_wp2
      go_ret
      exact ⟨o, rfl, o0, o1, rfl⟩
theorem lwNan_c (x : Int) (w : World) (h0 : 0 ≤ x) (h1 : x ≤ 18446744073709551615) :
    Calls Tryd.prog 17 #[.int .i64 0, .int .u64 x] w fun e w' => e = .returned (.bool (decide (2139095040 < x % 2147483648))) ∧ w = w' := by
  have hm : Int.tmod x 2147483648 = x % 2147483648 := Int.tmod_eq_emod_of_nonneg h0
  go_enter Tryd.func17, Tryd.ntmps17
  go_wp2
  go_ret
  exact ⟨by simp, rfl⟩
end Go.Proofs.YthmppcfhbbjhlaaDoor
