import Derived.Test.YtnbplhlpcojlhaaGetA
namespace Go.Proofs.Ytnbplhlpcojlhaa
open Go.RowKit

theorem bcell {W w1 : World} (hb : Below W.heap.size W w1) : (∀ b o, b < W.heap.size → w1.cell? ⟨b, o, none⟩ = W.cell? ⟨b, o, none⟩) ∧ (∀ b o, b < W.heap.size → w1.frozen? ⟨b, o, none⟩ = W.frozen? ⟨b, o, none⟩) :=
  ⟨fun b o h => hb.cell (p := ⟨b, o, none⟩) h, fun b o h => hb.frozen (p := ⟨b, o, none⟩) h⟩

theorem below_three {w w1 : World} {o : Obj} {x y z : Value} (hb : Below (w.alloc o).heap.size (w.alloc o) w1) :
    Below w.heap.size w (((w1.setCell ⟨w.heap.size, 0, none⟩ x).setCell ⟨w.heap.size, 1, none⟩ y).setCell ⟨w.heap.size, 2, none⟩ z) :=
  (((((Below.refl _ _).alloc (Nat.le_refl _) o).trans (hb.mono (by simp))).setCell (Nat.le_refl _) _).setCell (Nat.le_refl _) _).setCell (Nat.le_refl _) _

set_option maxHeartbeats 400000 in
theorem eqRes_any (r1 r2 r3 : Int) (w : World) :
    Calls Try.prog 23 #[.agg #[.int .i64 r1, .int .u64 r2, .int .i64 r3], .agg #[.int .i64 r1, .int .u64 r2, .int .i64 r3]] w fun e w' => e = .returned (.bool true) ∧ Below w.heap.size w w' := by
  go_enter Try.func23, Try.ntmps23
  go_wp2
  all_goals (try go_quiet (fail))
  all_goals (try go_wp2)
  go_ret
  exact ⟨rfl, by repeat (first | exact Below.refl _ _ | apply Below.drew | (refine Below.alloc ?_ (by simp) _))⟩

set_option maxHeartbeats 400000 in
theorem specGetU_any (a : Option Addr) (cap : Nat) (bs : List Int) (p b : Int) (w : World) (hl : bs.length ≤ 1099511627776) (ha : Has w a bs) (hB : AllB bs) :
    Calls Try.prog 21 #[.slice a bs.length cap, .int .i64 p, .int .i64 b] w fun e w' => e = .returned (RV (getA false bs p b)) ∧ Below w.heap.size w w' := by
  have C := specGet_any false a cap bs p b (w.alloc (Obj.cells #[Value.int .i64 0, Value.int .u64 0, Value.int .i64 0] 34)) hl (ha.below ((Below.refl _ _).alloc (Nat.le_refl _) _)) hB
  obtain ⟨⟨r1, r2, r3⟩, hR⟩ : ∃ r, r = getA false bs p b := ⟨_, rfl⟩
  rw [← hR] at C ⊢
  have HC := Hid.mk' C
  clear C hR ha hB hl
  go_enter Try.func21, Try.ntmps21
  go_wp2_with fail
  refine HC.out.mono ?_
  rintro e w1 ⟨rfl, hb⟩
  simp only [RV]
  obtain ⟨hc, hf⟩ := bcell hb
  have hz : w.heap.size < w1.heap.size := by have := hb.size; simp at this; omega
  clear HC
  go_wp2
  exact bodyPost_ret (v := .agg #[.int .i64 r1, .int .u64 r2, .int .i64 r3]) (by simp [results, Try.results21, go_sem, hc]) rfl ⟨rfl, below_three hb⟩

set_option maxHeartbeats 400000 in
theorem specGetS_any (a : Option Addr) (cap : Nat) (bs : List Int) (p b : Int) (w : World) (hl : bs.length ≤ 1099511627776) (ha : Has w a bs) (hB : AllB bs) :
    Calls Try.prog 24 #[.slice a bs.length cap, .int .i64 p, .int .i64 b] w fun e w' => e = .returned (RV (getA true bs p b)) ∧ Below w.heap.size w w' := by
  have C := specGet_any true a cap bs p b (w.alloc (Obj.cells #[Value.int .i64 0, Value.int .u64 0, Value.int .i64 0] 34)) hl (ha.below ((Below.refl _ _).alloc (Nat.le_refl _) _)) hB
  obtain ⟨⟨r1, r2, r3⟩, hR⟩ : ∃ r, r = getA true bs p b := ⟨_, rfl⟩
  rw [← hR] at C ⊢
  have HC := Hid.mk' C
  clear C hR ha hB hl
  go_enter Try.func24, Try.ntmps24
  go_wp2_with fail
  refine HC.out.mono ?_
  rintro e w1 ⟨rfl, hb⟩
  simp only [RV]
  obtain ⟨hc, hf⟩ := bcell hb
  have hz : w.heap.size < w1.heap.size := by have := hb.size; simp at this; omega
  clear HC
  go_wp2
  exact bodyPost_ret (v := .agg #[.int .i64 r1, .int .u64 r2, .int .i64 r3]) (by simp [results, Try.results24, go_sem, hc]) rfl ⟨rfl, below_three hb⟩

set_option maxHeartbeats 400000 in
theorem implGetU_any (a : Option Addr) (cap : Nat) (bs : List Int) (p b : Int) (w : World) (hl : bs.length ≤ 1099511627776) (ha : Has w a bs) (hB : AllB bs) :
    Calls Try.prog 22 #[.slice a bs.length cap, .int .i64 p, .int .i64 b] w fun e w' => e = .returned (RV (getA false bs p b)) ∧ Below w.heap.size w w' := by
  have C := lebGetU_any a cap bs p b (w.alloc (Obj.cells #[Value.int .i64 0, Value.int .u64 0, Value.int .i64 0] 34)) hl (ha.below ((Below.refl _ _).alloc (Nat.le_refl _) _)) hB
  obtain ⟨⟨r1, r2, r3⟩, hR⟩ : ∃ r, r = getA false bs p b := ⟨_, rfl⟩
  rw [← hR] at C ⊢
  have HC := Hid.mk' C
  clear C hR ha hB hl
  go_enter Try.func22, Try.ntmps22
  go_wp2_with fail
  refine HC.out.mono ?_
  rintro e w1 ⟨rfl, hb⟩
  simp only [RV]
  obtain ⟨hc, hf⟩ := bcell hb
  have hz : w.heap.size < w1.heap.size := by have := hb.size; simp at this; omega
  clear HC
  go_wp2
  exact bodyPost_ret (v := .agg #[.int .i64 r1, .int .u64 r2, .int .i64 r3]) (by simp [results, Try.results22, go_sem, hc]) rfl ⟨rfl, below_three hb⟩

set_option maxHeartbeats 400000 in
theorem implGetS_any (a : Option Addr) (cap : Nat) (bs : List Int) (p b : Int) (w : World) (hl : bs.length ≤ 1099511627776) (ha : Has w a bs) (hB : AllB bs) :
    Calls Try.prog 25 #[.slice a bs.length cap, .int .i64 p, .int .i64 b] w fun e w' => e = .returned (RV (getA true bs p b)) ∧ Below w.heap.size w w' := by
  have C := lebGetS_any a cap bs p b (w.alloc (Obj.cells #[Value.int .i64 0, Value.int .u64 0, Value.int .i64 0] 34)) hl (ha.below ((Below.refl _ _).alloc (Nat.le_refl _) _)) hB
  obtain ⟨⟨r1, r2, r3⟩, hR⟩ : ∃ r, r = getA true bs p b := ⟨_, rfl⟩
  rw [← hR] at C ⊢
  have HC := Hid.mk' C
  clear C hR ha hB hl
  go_enter Try.func25, Try.ntmps25
  go_wp2_with fail
  refine HC.out.mono ?_
  rintro e w1 ⟨rfl, hb⟩
  simp only [RV]
  obtain ⟨hc, hf⟩ := bcell hb
  have hz : w.heap.size < w1.heap.size := by have := hb.size; simp at this; omega
  clear HC
  go_wp2
  exact bodyPost_ret (v := .agg #[.int .i64 r1, .int .u64 r2, .int .i64 r3]) (by simp [results, Try.results25, go_sem, hc]) rfl ⟨rfl, below_three hb⟩
end Go.Proofs.Ytnbplhlpcojlhaa
