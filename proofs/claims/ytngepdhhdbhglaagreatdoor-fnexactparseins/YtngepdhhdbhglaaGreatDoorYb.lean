import Derived.Test.YtngepdhhdbhglaaGreatDoorPfu
import Derived.Test.YtngepdhhdbhglaaGreatDoorK4
set_option linter.all false
set_option linter.unusedVariables false
namespace Go.Proofs.YtngepdhhdbhglaaGreatDoor
open Go.RowKit Go.Sort
set_option maxRecDepth 100000
abbrev Wd := List UInt8
/-- The words of a line that are still to be read, in the block q. -/
structure Tw (w : World) (q : Nat) (ws : List Wd) (bad : Bool) : Prop where
  c0 : ∃ a c, w.cell? ⟨q, 0, none⟩ = some (.slice a ws.length c) ∧ (ws = [] ∨ ∃ b o, a = some ⟨b, o, none⟩ ∧ b < q ∧ ws.length ≤ c ∧ ∀ i, i < ws.length → w.cell? ⟨b, o + i, none⟩ = some (.string (S (ws.getD i []))))
  c1 : w.cell? ⟨q, 1, none⟩ = some (.bool bad)
  fz : ∀ i, w.frozen? ⟨q, i, none⟩ = false
  le : ws.length ≤ 1099511627776
theorem Tw.lt {w : World} {q : Nat} {ws : List Wd} {bad : Bool} (h : Tw w q ws bad) : q < w.heap.size := World.block_lt_of_cell? w _ h.c1
theorem Tw.keep {w w1 : World} {q : Nat} {ws : List Wd} {bad : Bool} (h : Tw w q ws bad) (hb : Below w.heap.size w w1) : Tw w1 q ws bad := by
  have hl := h.lt
  obtain ⟨a, c, h0, h1⟩ := h.c0
  refine ⟨⟨a, c, (hb.cell (p := ⟨q, 0, none⟩) hl).trans h0, ?_⟩, (hb.cell (p := ⟨q, 1, none⟩) hl).trans h.c1, fun i => (hb.frozen (p := ⟨q, i, none⟩) hl).trans (h.fz i), h.le⟩
  rcases h1 with h1 | ⟨b, o, e, hne, hc, hw⟩
  · exact .inl h1
  · exact .inr ⟨b, o, e, hne, hc, fun i hi => (hb.cell (p := ⟨b, o + i, none⟩) (World.block_lt_of_cell? w _ (hw i hi))).trans (hw i hi)⟩
/-- The flag set. -/
theorem Tw.flag {w : World} {q : Nat} {ws : List Wd} {bad : Bool} (h : Tw w q ws bad) (z : Bool) : Tw (w.setCell ⟨q, 1, none⟩ (.bool z)) q ws z := by
  obtain ⟨a, c, h0, h1⟩ := h.c0
  refine ⟨⟨a, c, set_off h0 (by decide), ?_⟩, set_same h.c1, fun i => by rw [World.frozen?_setCell]; exact h.fz i, h.le⟩
  rcases h1 with h1 | ⟨b, o, e, hne, hc, hw⟩
  · exact .inl h1
  · refine .inr ⟨b, o, e, hne, hc, fun i hi => ?_⟩
    rw [World.cell?_setCell_other _ _ _ _ (fun e' => by have e2 : q = b := congrArg Addr.block e'; omega)]; exact hw i hi
theorem Tw.drop {w : World} {q b o c : Nat} {x : Wd} {ws : List Wd} {bad : Bool} (h : Tw w q (x :: ws) bad) (h0 : w.cell? ⟨q, 0, none⟩ = some (.slice (some ⟨b, o, none⟩) (x :: ws).length c)) (hne : b < q) (hc : ws.length + 1 ≤ c) (hw : ∀ i, i < (x :: ws).length → w.cell? ⟨b, o + i, none⟩ = some (.string (S ((x :: ws).getD i [])))) (a' : Option Addr) (c' : Nat) (ha : ws = [] ∨ (a' = some ⟨b, o + 1, none⟩ ∧ ws.length ≤ c')) : Tw (w.setCell ⟨q, 0, none⟩ (.slice a' ws.length c')) q ws bad := by
  refine ⟨⟨a', c', set_same h0, ?_⟩, set_off h.c1 (by decide), fun i => by rw [World.frozen?_setCell]; exact h.fz i, by have := h.le; simp at this; omega⟩
  rcases ha with ha | ⟨rfl, hc'⟩
  · exact .inl ha
  · refine .inr ⟨b, o + 1, rfl, hne, hc', fun i hi => ?_⟩
    rw [World.cell?_setCell_other _ _ _ _ (fun e' => by have e2 : q = b := congrArg Addr.block e'; omega)]
    have := hw (i + 1) (by simp; omega)
    rw [show o + 1 + i = o + (i + 1) by omega, this]
    simp
theorem more_c (q : Nat) (ws : List Wd) (bad : Bool) (w : World) (h : Tw w q ws bad) :
    Calls Tryz.prog 31 #[.pointer (some ⟨q, 0, none⟩)] w fun e w' => e = .returned (.bool (!ws.isEmpty)) ∧ w = w' := by
  obtain ⟨a, c, h0, -⟩ := h.c0
  clear h
  cases ws with
  | nil =>
    simp only [List.length_nil] at h0
    go_enter Tryz.func31, Tryz.ntmps31
    go_wp2
    go_ret
    exact ⟨rfl, rfl⟩
  | cons x ws =>
    simp only [List.length_cons] at h0
    have hp : (0 : Int) < (ws.length : Int) + 1 := by omega
    go_enter Tryz.func31, Tryz.ntmps31
    go_wp2
    go_ret
    exact ⟨rfl, rfl⟩
theorem grown_set' (w : World) (q o : Nat) (v : Value) : w.grownBy (w.setCell ⟨q, o, none⟩ v) (some q) :=
  ⟨rfl, rfl, rfl, by simp [World.setCell], fun k hk hne => Below.heap_setCell w ⟨q, o, none⟩ v k (by simpa using hne)⟩
theorem grown_below {w w' : World} {q : Nat} (h : w.grownBy w' (some q)) (hq : q < w.heap.size) : Below q w w' := ⟨h.os, h.tape, h.output, h.size, fun k hk => h.block k (by omega) (by simp; omega)⟩
theorem below_gr {w w1 : World} {r : Option Nat} (h : Below w.heap.size w w1) : w.grownBy w1 r := ⟨h.os, h.tape, h.output, h.size, fun k hk _ => h.block k hk⟩
theorem ask_c (q : Nat) (ws : List Wd) (bad z : Bool) (w : World) (h : Tw w q ws bad) :
    Calls Tryz.prog 55 #[.pointer (some ⟨q, 0, none⟩), .bool z] w fun e w' => e = .returned (.tuple #[]) ∧ Tw w' q ws (bad || !z) ∧ w.grownBy w' (some q) := by
  cases z with
  | true =>
    have H := Hid.mk' h
    clear h
    go_enter Tryz.func55, Tryz.ntmps55
    go_wp2
    go_end0
    exact ⟨rfl, by simpa using H.out, World.grownBy.refl _ _⟩
  | false =>
    have c1 := h.c1
    have f1 := h.fz 1
    have H := Hid.mk' (h.flag true)
    clear h
    go_enter Tryz.func55, Tryz.ntmps55
    go_wp2
    go_end0
    exact ⟨rfl, by simpa using H.out, grown_set' _ _ _ _⟩
set_option maxHeartbeats 1000000 in
theorem next_g (q : Nat) (ws : List Wd) (bad : Bool) (w : World) (h : Tw w q ws bad) :
    Calls Tryz.prog 16 #[.pointer (some ⟨q, 0, none⟩)] w fun e w' => e = .returned (.string (S (ws.headD []))) ∧ Tw w' q ws.tail (bad || ws.isEmpty) ∧ w.grownBy w' (some q) := by
  have KM := Hid.mk' (more_c q ws bad w h)
  cases ws with
  | nil =>
    have c1 := h.c1
    have f1 := h.fz 1
    have H := Hid.mk' (h.flag true)
    clear h
    go_enter Tryz.func16, Tryz.ntmps16
    go_wp2_with fail
    refine KM.out.mono ?_
    rintro e w1 ⟨rfl, rfl⟩
    go_wp2
    go_ret
    exact ⟨rfl, by simpa using H.out, grown_set' _ _ _ _⟩
  | cons x ws =>
    obtain ⟨a, c, h0, h1⟩ := h.c0
    rcases h1 with h1 | ⟨b, o, rfl, hne, hc, hw⟩
    · cases h1
    have cx := hw 0 (by simp)
    simp only [Nat.add_zero, List.getD_cons_zero] at cx
    have f0 := h.fz 0
    have HD := Hid.mk' (fun a' c' ha => h.drop h0 hne (by simpa using hc) hw a' c' ha)
    have hc1 : ¬ ((c : Int) < (ws.length : Int) + 1) := by simp at hc; omega
    have hc2 : ws.length + 1 ≤ c := by simpa using hc
    simp only [List.length_cons] at h0
    have hp : (0 : Int) < (ws.length : Int) + 1 := by omega
    clear h hw hc hne
    go_enter Tryz.func16, Tryz.ntmps16
    go_wp2_with fail
    refine KM.out.mono ?_
    rintro e w1 ⟨rfl, rfl⟩
    go_wp2
    all_goals
      go_ret
      refine ⟨rfl, ?_, grown_set' _ _ _ _⟩
      first
        | exact HD.out _ _ (.inr ⟨rfl, by omega⟩)
        | exact HD.out _ _ (.inl (List.eq_nil_of_length_eq_zero (by omega)))
theorem next_c (q : Nat) (ws : List Wd) (bad : Bool) (w : World) (h : Tw w q ws bad) :
    Calls Tryz.prog 16 #[.pointer (some ⟨q, 0, none⟩)] w fun e w' => e = .returned (.string (S (ws.headD []))) ∧ Tw w' q ws.tail (bad || ws.isEmpty) ∧ Below q w w' :=
  (next_g q ws bad w h).mono fun e w' ⟨a, b, c⟩ => ⟨a, b, grown_below c h.lt⟩
end Go.Proofs.YtngepdhhdbhglaaGreatDoor
