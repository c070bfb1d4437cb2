import Derived.Test.YthmppcfhbbjhlaaDoorSpec1
import Derived.Laws.Bits128
import Derived.OpenShut
import Derived.ProofKit
set_option linter.all false
set_option linter.unusedVariables false
namespace Go.Proofs.YthmppcfhbbjhlaaDoor
open Go.RowKit
def Has (w : World) (a : Option Addr) (xs : List Int) : Prop :=
  xs = [] ∨ ∃ b off, a = some ⟨b, off, none⟩ ∧ ∀ i, i < xs.length → w.cell? ⟨b, off + i, none⟩ = some (.int .u8 (xs.getD i 0))
def AllB (xs : List Int) : Prop := ∀ i, 0 ≤ xs.getD i 0 ∧ xs.getD i 0 ≤ 255
theorem grown_trans {a b c : World} {row : Option Nat} (h : a.grownBy b row) (k : b.grownBy c row) : a.grownBy c row :=
  ⟨k.os.trans h.os, k.tape.trans h.tape, k.output.trans h.output, Nat.le_trans h.size k.size, fun i hi hne => (k.block i (Nat.lt_of_lt_of_le hi h.size) hne).trans (h.block i hi hne)⟩
theorem Has.below {w w' : World} {a : Option Addr} {xs : List Int} (h : Has w a xs) (hb : Below w.heap.size w w') : Has w' a xs := by
  rcases h with h | ⟨b, o, e, hc⟩
  · exact .inl h
  · exact .inr ⟨b, o, e, fun i hi => (hb.cell (World.block_lt_of_cell? w _ (hc i hi))).trans (hc i hi)⟩

/-- What came in as a slice of bytes. -/
theorem row_has {w : World} {a : Option Addr} {len cap : Nat} {zs : List Int}
    (h : (a = none ∧ len = 0 ∧ cap = 0 ∧ zs = []) ∨ ∃ x, a = some x ∧ len ≤ cap ∧ cap ≤ maxLen ∧ zs.length = cap ∧ (∀ i, i < zs.length → w.cell? (x.add i) = some (.int .u8 (zs.getD i 0))) ∧ ∀ n ∈ zs, (Lit.int .u8 n).wf = true) :
    ∃ xs : List Int, xs.length = len ∧ len ≤ maxLen ∧ Has w a xs ∧ AllB xs := by
  rcases h with ⟨rfl, rfl, rfl, rfl⟩ | ⟨x, rfl, hlc, hcm, hz, hc, hw⟩
  · exact ⟨[], rfl, Nat.zero_le _, .inl rfl, fun i => by simp⟩
  · refine ⟨zs.take len, by simp; omega, by omega, ?_, ?_⟩
    · by_cases h0 : len = 0
      · subst h0; exact .inl (by simp)
      · obtain ⟨b, off, spot⟩ := x
        have h1 := hc 0 (by omega)
        have hspot : spot = none := by simpa [Addr.add] using World.cell?_spot h1
        subst hspot
        refine .inr ⟨b, off, rfl, fun i hi => ?_⟩
        have hi' : i < len := by simp at hi; omega
        have h2 := hc i (by omega)
        have e : (zs.take len).getD i 0 = zs.getD i 0 := by simp [List.getD, hi']
        rw [e]
        rwa [Addr.add_lit] at h2
    · intro i
      by_cases hi : i < (zs.take len).length
      · have hm : (zs.take len)[i] ∈ zs := List.mem_of_mem_take (List.getElem_mem hi)
        have hb := bounds_u8 (hw _ hm)
        simpa [List.getD, List.getElem?_eq_getElem hi] using hb
      · rw [List.getD_eq_getElem?_getD, List.getElem?_eq_none (by omega)]
        simp


theorem and255 (n : Int) : bits .and .i64 n 255 = n % 256 := by
  show IntKind.i64.wrap ((BitVec.ofInt 64 n &&& BitVec.ofInt 64 255).toNat : Int) = _
  have e : (BitVec.ofInt 64 255).toNat = 2 ^ 8 - 1 := by decide
  rw [BitVec.toNat_and, e, Nat.and_two_pow_sub_one_eq_mod, BitVec.toNat_ofInt, IntKind.wrap_i64]
  omega

/-- A cursor over the bytes xs at block g. -/
def Cur (w : World) (g : Nat) (a : Option Addr) (cap : Nat) (xs : List Int) : Prop :=
  ∃ (k : Nat) (h : Int), k ≤ xs.length ∧ w.cell? ⟨g, 0, none⟩ = some (.slice a xs.length cap) ∧ w.cell? ⟨g, 1, none⟩ = some (.int .i64 k) ∧ w.cell? ⟨g, 2, none⟩ = some (.int .i64 h) ∧
    w.frozen? ⟨g, 1, none⟩ = false ∧ w.frozen? ⟨g, 2, none⟩ = false ∧ Has w a xs ∧ (xs = [] ∨ ∃ b o, a = some ⟨b, o, none⟩ ∧ b < g)

theorem Cur.of_heap {w w' : World} {g : Nat} {a : Option Addr} {cap : Nat} {xs : List Int} (h : Cur w g a cap xs) (e : w'.heap = w.heap) : Cur w' g a cap xs := by
  have hc : ∀ p, w'.cell? p = w.cell? p := fun p => World.cell?_of_block (w := w) (by rw [e])
  have hf : ∀ p, w'.frozen? p = w.frozen? p := fun p => World.frozen?_of_block (w := w) (by rw [e])
  obtain ⟨k, v, h0, h1, h2, h3, h4, h5, h6, h7⟩ := h
  refine ⟨k, v, h0, by rw [hc, h1], by rw [hc, h2], by rw [hc, h3], by rw [hf, h4], by rw [hf, h5], ?_, h7⟩
  rcases h6 with h | ⟨b, o, e, hh⟩
  · exact .inl h
  · exact .inr ⟨b, o, e, fun i hi => by rw [hc, hh i hi]⟩

theorem Cur.below {w w' : World} {g B : Nat} {a : Option Addr} {cap : Nat} {xs : List Int} (h : Cur w g a cap xs) (hb : Below B w w') (hg : g < B) : Cur w' g a cap xs := by
  obtain ⟨k, v, h0, h1, h2, h3, h4, h5, h6, h7⟩ := h
  refine ⟨k, v, h0, by rw [hb.cell hg, h1], by rw [hb.cell hg, h2], by rw [hb.cell hg, h3], by rw [hb.frozen hg, h4], by rw [hb.frozen hg, h5], ?_, h7⟩
  rcases h7 with h | ⟨b, o, e, hlt⟩
  · exact .inl h
  · rcases h6 with h | ⟨b', o', e', hh⟩
    · exact .inl h
    · rw [e] at e'
      simp only [Option.some.injEq, Addr.mk.injEq, and_true] at e'
      obtain ⟨rfl, rfl⟩ := e'
      exact .inr ⟨b, o, e, fun i hi => by rw [hb.cell (p := ⟨b, o + i, none⟩) (show b < B by omega), hh i hi]⟩

theorem has_set {w : World} {g j : Nat} {u : Value} {a : Option Addr} {xs : List Int} (h : Has w a xs) (hn : xs = [] ∨ ∃ b o, a = some ⟨b, o, none⟩ ∧ b < g) : Has (w.setCell ⟨g, j, none⟩ u) a xs := by
  rcases hn with h0 | ⟨b, o, e, hlt⟩
  · exact .inl h0
  · rcases h with h0 | ⟨b', o', e', hh⟩
    · exact .inl h0
    · rw [e] at e'
      simp only [Option.some.injEq, Addr.mk.injEq, and_true] at e'
      obtain ⟨rfl, rfl⟩ := e'
      exact .inr ⟨b, o, e, fun i hi => by rw [World.cell?_setCell_other _ _ _ _ (by intro e; simp only [Addr.mk.injEq] at e; omega), hh i hi]⟩

theorem cur_set2 {w : World} {g : Nat} {a : Option Addr} {cap : Nat} {xs : List Int} (h : Cur w g a cap xs) (v : Int) : Cur (w.setCell ⟨g, 2, none⟩ (.int .i64 v)) g a cap xs := by
  obtain ⟨k, x, h0, h1, h2, h3, h4, h5, h6, h7⟩ := h
  exact ⟨k, v, h0, (World.cell?_setCell_other _ _ _ _ (by simp)).trans h1, (World.cell?_setCell_other _ _ _ _ (by simp)).trans h2, World.cell?_setCell_same _ _ _ h3, (World.frozen?_setCell _ _ _ _).trans h4, (World.frozen?_setCell _ _ _ _).trans h5, has_set h6 h7, h7⟩

theorem cur_set1 {w : World} {g : Nat} {a : Option Addr} {cap : Nat} {xs : List Int} (h : Cur w g a cap xs) (k' : Nat) (hk : k' ≤ xs.length) : Cur (w.setCell ⟨g, 1, none⟩ (.int .i64 k')) g a cap xs := by
  obtain ⟨k, x, h0, h1, h2, h3, h4, h5, h6, h7⟩ := h
  exact ⟨k', x, hk, (World.cell?_setCell_other _ _ _ _ (by simp)).trans h1, World.cell?_setCell_same _ _ _ h2, (World.cell?_setCell_other _ _ _ _ (by simp)).trans h3, (World.frozen?_setCell _ _ _ _).trans h4, (World.frozen?_setCell _ _ _ _).trans h5, has_set h6 h7, h7⟩

theorem grown_set {w w' : World} {g j : Nat} {u : Value} (h : w.grownBy w' (some g)) : w.grownBy (w'.setCell ⟨g, j, none⟩ u) (some g) :=
  grown_trans h ⟨rfl, rfl, rfl, by simp, fun k _ hk => heap_setCell_other w' ⟨g, j, none⟩ k u (fun e => hk (by simp [e]))⟩

theorem grown_of {w w' w'' : World} {row : Option Nat} (h : w.grownBy w' row) (h1 : w''.os = w'.os) (h2 : w''.tape = w'.tape) (h3 : w''.output = w'.output) (h4 : w''.heap = w'.heap) : w.grownBy w'' row :=
  ⟨h1.trans h.os, h2.trans h.tape, h3.trans h.output, by rw [h4]; exact h.size, fun k a b => by rw [h4]; exact h.block k a b⟩

set_option maxHeartbeats 1000000 in
theorem byte_any (g : Nat) (a : Option Addr) (cap : Nat) (xs : List Int) (w : World) (hl : xs.length ≤ 1099511627776) (hB : AllB xs) (hC : Cur w g a cap xs) :
    Calls Tryd.prog 97 #[.pointer (some ⟨g, 0, none⟩)] w fun e w' => ∃ x : Int, e = .returned (.int .i64 x) ∧ 0 ≤ x ∧ x ≤ 255 ∧ Cur w' g a cap xs ∧ w.grownBy w' (some g) := by
  have HCC := Hid.mk' hC
  obtain ⟨k, h, h0, h1, h2, h3, h4, h5, h6, h7⟩ := hC
  have hA := and255
  by_cases hk : k < xs.length
  · rcases h7 with e | ⟨b, o, e, hlt⟩
    · subst e; simp at hk
    rcases h6 with e' | ⟨b', o', e', hh⟩
    · subst e'; simp at hk
    rw [e] at e'
    simp only [Option.some.injEq, Addr.mk.injEq, and_true] at e'
    obtain ⟨rfl, rfl⟩ := e'
    subst e
    have d := hh k hk
    have hb := hB k
    obtain ⟨c, hc⟩ : ∃ c, c = xs.getD k 0 := ⟨_, rfl⟩
    rw [← hc] at d hb
    obtain ⟨hb0, hb1⟩ := hb
    have hki : (k : Int) < (xs.length : Int) := by omega
    clear hh hc h0
    go_enter Tryd.func97, Tryd.ntmps97
    go_wp2
    go_quiet (fail)
    go_wp2
    go_quiet (fail)
    go_wp2
    go_quiet (fail)
    go_wp2
    go_ret
    refine ⟨_, rfl, ?_, ?_, (cur_set1 (cur_set2 HCC.out _) (k + 1) hk).of_heap rfl, grown_of (grown_set (grown_set (World.grownBy.refl _ _))) rfl rfl rfl rfl⟩
    · show 0 ≤ _ % 256; omega
    · show _ % 256 ≤ 255; omega
  · have hki : ¬ (k : Int) < (xs.length : Int) := by omega
    clear h6 h7
    go_enter Tryd.func97, Tryd.ntmps97
    go_wp2
    go_quiet (fail)
    go_wp2
    go_quiet (fail)
    go_wp2
    go_ret
    refine ⟨_, rfl, ?_, ?_, (cur_set2 HCC.out _).of_heap rfl, grown_of (grown_set (World.grownBy.refl _ _)) rfl rfl rfl rfl⟩
    · show 0 ≤ _ % 256; omega
    · show _ % 256 ≤ 255; omega

theorem below_any (g : Nat) (a : Option Addr) (cap : Nat) (xs : List Int) (n : Int) (w : World) (hl : xs.length ≤ 1099511627776) (hB : AllB xs) (hC : Cur w g a cap xs) (hn : 1 ≤ n) (hn' : n ≤ 256) :
    Calls Tryd.prog 59 #[.pointer (some ⟨g, 0, none⟩), .int .i64 n] w fun e w' => ∃ x : Int, e = .returned (.int .i64 x) ∧ 0 ≤ x ∧ x < n ∧ Cur w' g a cap xs ∧ w.grownBy w' (some g) := by
  have H := Hid.mk' (byte_any g a cap xs w hl hB hC)
  clear hC hB hl
  go_enter Tryd.func59, Tryd.ntmps59
  go_wp2_with fail
  refine H.out.mono ?_
  rintro e w1 ⟨x, rfl, hx0, hx1, hc, hg⟩
  have hm := Int.emod_lt_of_pos x (show 0 < n by omega)
  have hm' := Int.emod_nonneg x (show n ≠ 0 by omega)
  go_wp2
  go_ret
  exact ⟨_, rfl, hm', hm, hc, hg⟩

set_option maxHeartbeats 1000000 in
theorem new_any (a : Option Addr) (cap : Nat) (xs : List Int) (w : World) (hl : xs.length ≤ 1099511627776) (hB : AllB xs) (ha : Has w a xs) :
    Calls Tryd.prog 58 #[.slice a xs.length cap] w fun e w' => e = .returned (.pointer (some ⟨w.heap.size, 0, none⟩)) ∧ Cur w' w.heap.size a cap xs ∧ Below w.heap.size w w' ∧ w.heap.size < w'.heap.size := by
  have hfin : ∀ v : Int, Cur (w.alloc (.cells #[.slice a xs.length cap, .int .i64 0, .int .i64 v] 124)) w.heap.size a cap xs := fun v =>
    ⟨0, v, Nat.zero_le _, by simp, by simp, by simp, by simp, by simp, ha.below ((Below.refl _ _).alloc (Nat.le_refl _) _), by
      rcases ha with h | ⟨b, o, e, hh⟩
      · exact .inl h
      · by_cases h0 : xs = []
        · exact .inl h0
        · exact .inr ⟨b, o, e, World.block_lt_of_cell? w _ (hh 0 (List.length_pos_iff.2 h0))⟩⟩
  have HF := Hid.mk' hfin
  have HA := Hid.mk' ha
  clear hfin ha
  go_enter Tryd.func58, Tryd.ntmps58
  go_wp2
  go_loop [3, 4] (fun hv i => ∃ (k : Nat) (h : Int), k ≤ xs.length ∧ i = .int .i64 k ∧ hv = .int .i64 h) (fun _ i => xs.length - (intOf i).toNat)
  case atStart => exact ⟨0, _, Nat.zero_le _, rfl, rfl⟩
  case round =>
    obtain ⟨k, h, hk, rfl, rfl⟩ := hrel
    by_cases hlt : k < xs.length
    · rcases HA.out with hx | ⟨b1, o1, ea, hc1⟩
      · subst hx; simp at hlt
      subst ea
      have hki : (k : Int) < (xs.length : Int) := by omega
      have d := hc1 k hlt
      have hb := hB k
      obtain ⟨c, hc⟩ : ∃ c, c = xs.getD k 0 := ⟨_, rfl⟩
      rw [← hc] at d hb
      obtain ⟨hb0, hb1⟩ := hb
      clear hc hc1 HF HA hB
      go_wp2
      go_round
      case rel => exact ⟨k + 1, _, by omega, by go_num, rfl⟩
      case measure => simp [intOf]; omega
    · go_wp2
      go_ret
      exact ⟨rfl, HF.out _, (Below.refl _ _).alloc (Nat.le_refl _) _, by simp⟩
end Go.Proofs.YthmppcfhbbjhlaaDoor
