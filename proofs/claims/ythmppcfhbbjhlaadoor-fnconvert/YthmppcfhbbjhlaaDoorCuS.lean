import Derived.Test.YthmppcfhbbjhlaaDoorDrD
import Derived.Test.YthmppcfhbbjhlaaDoorSf
set_option linter.all false
set_option linter.unusedVariables false
namespace Go.Proofs.YthmppcfhbbjhlaaDoor
open Go.RowKit
theorem sn_heap {w w' : World} {v : Value} {x : Nat} (h : SN w v x) (e : w'.heap = w.heap) : SN w' v x := by
  obtain ⟨a, cap, e1, hh⟩ := h
  refine ⟨a, cap, e1, ?_⟩
  rcases hh with hh | ⟨b, off, ea, hc⟩
  · exact .inl hh
  · exact .inr ⟨b, off, ea, fun j hj => (World.cell?_of_block (w := w) (by rw [e])).trans (hc j hj)⟩
set_option maxHeartbeats 1000000 in
theorem byte_sn (g : Nat) (a : Option Addr) (cap : Nat) (xs : List Int) (w : World) (hl : xs.length ≤ 1099511627776) (hB : AllB xs) (hC : Cur w g a cap xs) :
    Calls Tryd.prog 97 #[.pointer (some ⟨g, 0, none⟩)] w fun e w' => ∃ x : Int, e = .returned (.int .i64 x) ∧ 0 ≤ x ∧ x ≤ 255 ∧ Cur w' g a cap xs ∧ w.grownBy w' (some g) ∧ ∀ v n, SN w v n → SN w' v n := by
  have HCC := Hid.mk' hC
  obtain ⟨k, h, h0, h1, h2, h3, h4, h5, h6, h7⟩ := hC
  have hA := and255
  by_cases hk : k < xs.length
  · rcases h7 with e | ⟨b, o, e, hlt⟩
    · subst e; simp at hk
    rcases h6 with e' | ⟨b', o', e', hh⟩
    · subst e'; simp at hk
    rw [e] at e'
    simp only [Option.some.injEq, Addr.mk.injEq, and_true] at e'
    obtain ⟨rfl, rfl⟩ := e'
    subst e
    have d := hh k hk
    have hb := hB k
    obtain ⟨c, hc⟩ : ∃ c, c = xs.getD k 0 := ⟨_, rfl⟩
    rw [← hc] at d hb
    obtain ⟨hb0, hb1⟩ := hb
    have hki : (k : Int) < (xs.length : Int) := by omega
    clear hh hc h0
    go_enter Tryd.func97, Tryd.ntmps97
    go_wp2
    go_quiet (fail)
    go_wp2
    go_quiet (fail)
    go_wp2
    go_quiet (fail)
    go_wp2
    go_ret
    refine ⟨_, rfl, ?_, ?_, (cur_set1 (cur_set2 HCC.out _) (k + 1) hk).of_heap rfl, grown_of (grown_set (grown_set (World.grownBy.refl _ _))) rfl rfl rfl rfl, fun v n hS => sn_heap (sn_set (sn_set hS h3 (by intro d hd; cases hd)) ((World.cell?_setCell_other _ _ _ _ (by simp)).trans h2) (by intro d hd; cases hd)) rfl⟩
    · show 0 ≤ _ % 256; omega
    · show _ % 256 ≤ 255; omega
  · have hki : ¬ (k : Int) < (xs.length : Int) := by omega
    clear h6 h7
    go_enter Tryd.func97, Tryd.ntmps97
    go_wp2
    go_quiet (fail)
    go_wp2
    go_quiet (fail)
    go_wp2
    go_ret
    refine ⟨_, rfl, ?_, ?_, (cur_set2 HCC.out _).of_heap rfl, grown_of (grown_set (World.grownBy.refl _ _)) rfl rfl rfl rfl, fun v n hS => sn_heap (sn_set hS h3 (by intro d hd; cases hd)) rfl⟩
    · show 0 ≤ _ % 256; omega
    · show _ % 256 ≤ 255; omega

theorem below_sn (g : Nat) (a : Option Addr) (cap : Nat) (xs : List Int) (n : Int) (w : World) (hl : xs.length ≤ 1099511627776) (hB : AllB xs) (hC : Cur w g a cap xs) (hn : 1 ≤ n) (hn' : n ≤ 256) :
    Calls Tryd.prog 59 #[.pointer (some ⟨g, 0, none⟩), .int .i64 n] w fun e w' => ∃ x : Int, e = .returned (.int .i64 x) ∧ 0 ≤ x ∧ x < n ∧ Cur w' g a cap xs ∧ w.grownBy w' (some g) ∧ ∀ v n, SN w v n → SN w' v n := by
  have H := Hid.mk' (byte_sn g a cap xs w hl hB hC)
  clear hC hB hl
  go_enter Tryd.func59, Tryd.ntmps59
  go_wp2_with fail
  refine H.out.mono ?_
  rintro e w1 ⟨x, rfl, hx0, hx1, hc, hg, hS⟩
  have hm := Int.emod_lt_of_pos x (show 0 < n by omega)
  have hm' := Int.emod_nonneg x (show n ≠ 0 by omega)
  go_wp2
  go_ret
  exact ⟨_, rfl, hm', hm, hc, hg, hS⟩

theorem once_sn (g : Nat) (a : Option Addr) (cap : Nat) (xs : List Int) (n : Int) (w : World) (hl : xs.length ≤ 1099511627776) (hB : AllB xs) (hC : Cur w g a cap xs) (hn : 1 ≤ n) (hn' : n ≤ 256) :
    Calls Tryd.prog 63 #[.pointer (some ⟨g, 0, none⟩), .int .i64 n] w fun e w' => ∃ r : Bool, e = .returned (.bool r) ∧ Cur w' g a cap xs ∧ w.grownBy w' (some g) ∧ ∀ v n, SN w v n → SN w' v n := by
  have H := Hid.mk' (below_sn g a cap xs n w hl hB hC hn hn')
  clear hC hB hl
  go_enter Tryd.func63, Tryd.ntmps63
  go_wp2_with fail
  refine H.out.mono ?_
  rintro e w1 ⟨k, rfl, hk0, hk1, hC1, hg1, hS⟩
  clear H
  go_wp2
  go_ret
  exact ⟨_, rfl, hC1, hg1, hS⟩

end Go.Proofs.YthmppcfhbbjhlaaDoor
