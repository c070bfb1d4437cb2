import Derived.Test.YtnbplhlpcojlhaaCur
import Derived.Deep.DeepCutAuto
namespace Go.Proofs.Ytnbplhlpcojlhaa
open Go.RowKit

theorem own_kept {w w' : World} {B g : Nat} {v : Value} {n : Nat} {xs : List Value} (h : w.ownsRow B 5 1 v n xs) (hg : w.grownBy w' (some g)) (hlt : g < B) : w'.ownsRow B 5 1 v n xs :=
  h.kept hg (by
    cases hv : v.ownBlock with
    | none => exact .inl rfl
    | some k => have := (h.lt k hv).1; exact .inr (by simp; omega))

theorem below_kept {w w1 w' : World} {C g : Nat} (h : Below C w w1) (hg : w1.grownBy w' (some g)) (hC : C ≤ w1.heap.size) (hlt : C ≤ g) : Below C w w' :=
  h.grown hg hC (fun k hk => by simp at hk; omega)

theorem wp_gen {P : Program} {c : Code} {Q : Exit → Act → World → Prop} {a : Act} {W : World} (R : World → Prop) (hR : R W) (h : ∀ wc, R wc → c.wp P Q a wc) : c.wp P Q a W := h W hR

/-- A list of eleven lists of bytes. -/
def Tab (wc : World) (gA : Nat) : Prop :=
  ∀ j : Nat, j < 11 → ∃ (gj : Nat) (L : List Int), wc.cell? ⟨gA, j, none⟩ = some (.slice (some ⟨gj, 0, none⟩) L.length L.length) ∧ AllB L ∧ (1 ≤ L.length ∧ L.length ≤ 4) ∧ ∀ i, i < L.length → wc.cell? ⟨gj, i, none⟩ = some (.int .u8 (L.getD i 0))

theorem allB_of {L : List Int} (h : ∀ b ∈ L, 0 ≤ b ∧ b ≤ 255) : AllB L := by
  intro i
  by_cases hi : i < L.length
  · simpa [List.getD, List.getElem?_eq_getElem hi] using h _ (List.getElem_mem hi)
  · rw [List.getD_eq_getElem?_getD, List.getElem?_eq_none (by omega)]; simp

theorem cell_new {w : World} {cs : Array Value} {e : TypeId} {g i : Nat} {u : Value} (hg : g = w.heap.size) (hu : cs[i]? = some u) : (w.alloc (.cells cs e)).cell? ⟨g, i, none⟩ = some u := by
  subst hg
  rw [cell_of_row _ _ _ cs e (0, 0) (heap_alloc_new w _)]
  exact hu

set_option maxHeartbeats 4000000 in
set_option maxRecDepth 100000 in
theorem tab_tower (w4 : World) (x : Int) (hx0 : 0 ≤ x) (hx1 : x < 64) : Tab ((((((((((((w4.alloc (Obj.cells #[Value.int .u8 (x + 32)] 5)).alloc (Obj.cells #[Value.int .u8 (194 + x % 30), Value.int .u8 (128 + x)] 5)).alloc (Obj.cells #[Value.int .u8 224, Value.int .u8 (160 + x % 32), Value.int .u8 128] 5)).alloc (Obj.cells #[Value.int .u8 (225 + x % 12), Value.int .u8 (128 + x), Value.int .u8 191] 5)).alloc (Obj.cells #[Value.int .u8 237, Value.int .u8 (128 + x % 32), Value.int .u8 128] 5)).alloc (Obj.cells #[Value.int .u8 238, Value.int .u8 191, Value.int .u8 191] 5)).alloc (Obj.cells #[Value.int .u8 240, Value.int .u8 (144 + x % 48), Value.int .u8 128, Value.int .u8 128] 5)).alloc (Obj.cells #[Value.int .u8 241, Value.int .u8 128, Value.int .u8 (128 + x), Value.int .u8 128] 5)).alloc (Obj.cells #[Value.int .u8 244, Value.int .u8 (128 + x % 16), Value.int .u8 191, Value.int .u8 191] 5)).alloc (Obj.cells #[Value.int .u8 x] 5)).alloc (Obj.cells #[Value.int .u8 239, Value.int .u8 128, Value.int .u8 128] 5)).alloc (Obj.cells #[Value.slice (some ⟨w4.heap.size, 0, none⟩) 1 1, Value.slice (some ⟨w4.heap.size + 1, 0, none⟩) 2 2, Value.slice (some ⟨w4.heap.size + 1 + 1, 0, none⟩) 3 3, Value.slice (some ⟨w4.heap.size + 1 + 1 + 1, 0, none⟩) 3 3, Value.slice (some ⟨w4.heap.size + 1 + 1 + 1 + 1, 0, none⟩) 3 3, Value.slice (some ⟨w4.heap.size + 1 + 1 + 1 + 1 + 1, 0, none⟩) 3 3, Value.slice (some ⟨w4.heap.size + 1 + 1 + 1 + 1 + 1 + 1, 0, none⟩) 4 4, Value.slice (some ⟨w4.heap.size + 1 + 1 + 1 + 1 + 1 + 1 + 1, 0, none⟩) 4 4, Value.slice (some ⟨w4.heap.size + 1 + 1 + 1 + 1 + 1 + 1 + 1 + 1, 0, none⟩) 4 4, Value.slice (some ⟨w4.heap.size + 1 + 1 + 1 + 1 + 1 + 1 + 1 + 1 + 1, 0, none⟩) 1 1, Value.slice (some ⟨w4.heap.size + 1 + 1 + 1 + 1 + 1 + 1 + 1 + 1 + 1 + 1, 0, none⟩) 3 3] 23)) (w4.heap.size + 1 + 1 + 1 + 1 + 1 + 1 + 1 + 1 + 1 + 1 + 1) := by
  intro j hj
  rcases (show j = 0 ∨ j = 1 ∨ j = 2 ∨ j = 3 ∨ j = 4 ∨ j = 5 ∨ j = 6 ∨ j = 7 ∨ j = 8 ∨ j = 9 ∨ j = 10 by omega) with rfl | rfl | rfl | rfl | rfl | rfl | rfl | rfl | rfl | rfl | rfl
  · refine ⟨w4.heap.size, [(x + 32)], cell_new (by simp) rfl, allB_of (by intro b hb; simp at hb; omega), by simp, ?_⟩
    intro i hi
    rcases (show i = 0 by simp at hi; omega) with rfl
    all_goals repeat (first | (refine cell_new ?_ rfl; (simp; done)) | (rw [World.cell?_alloc_past _ _ _ (by simp; try omega)]))
  · refine ⟨w4.heap.size + 1, [(194 + x % 30), (128 + x)], cell_new (by simp) rfl, allB_of (by intro b hb; simp at hb; omega), by simp, ?_⟩
    intro i hi
    rcases (show i = 0 ∨ i = 1 by simp at hi; omega) with rfl | rfl
    all_goals repeat (first | (refine cell_new ?_ rfl; (simp; done)) | (rw [World.cell?_alloc_past _ _ _ (by simp; try omega)]))
  · refine ⟨w4.heap.size + 1 + 1, [224, (160 + x % 32), 128], cell_new (by simp) rfl, allB_of (by intro b hb; simp at hb; omega), by simp, ?_⟩
    intro i hi
    rcases (show i = 0 ∨ i = 1 ∨ i = 2 by simp at hi; omega) with rfl | rfl | rfl
    all_goals repeat (first | (refine cell_new ?_ rfl; (simp; done)) | (rw [World.cell?_alloc_past _ _ _ (by simp; try omega)]))
  · refine ⟨w4.heap.size + 1 + 1 + 1, [(225 + x % 12), (128 + x), 191], cell_new (by simp) rfl, allB_of (by intro b hb; simp at hb; omega), by simp, ?_⟩
    intro i hi
    rcases (show i = 0 ∨ i = 1 ∨ i = 2 by simp at hi; omega) with rfl | rfl | rfl
    all_goals repeat (first | (refine cell_new ?_ rfl; (simp; done)) | (rw [World.cell?_alloc_past _ _ _ (by simp; try omega)]))
  · refine ⟨w4.heap.size + 1 + 1 + 1 + 1, [237, (128 + x % 32), 128], cell_new (by simp) rfl, allB_of (by intro b hb; simp at hb; omega), by simp, ?_⟩
    intro i hi
    rcases (show i = 0 ∨ i = 1 ∨ i = 2 by simp at hi; omega) with rfl | rfl | rfl
    all_goals repeat (first | (refine cell_new ?_ rfl; (simp; done)) | (rw [World.cell?_alloc_past _ _ _ (by simp; try omega)]))
  · refine ⟨w4.heap.size + 1 + 1 + 1 + 1 + 1, [238, 191, 191], cell_new (by simp) rfl, allB_of (by intro b hb; simp at hb; omega), by simp, ?_⟩
    intro i hi
    rcases (show i = 0 ∨ i = 1 ∨ i = 2 by simp at hi; omega) with rfl | rfl | rfl
    all_goals repeat (first | (refine cell_new ?_ rfl; (simp; done)) | (rw [World.cell?_alloc_past _ _ _ (by simp; try omega)]))
  · refine ⟨w4.heap.size + 1 + 1 + 1 + 1 + 1 + 1, [240, (144 + x % 48), 128, 128], cell_new (by simp) rfl, allB_of (by intro b hb; simp at hb; omega), by simp, ?_⟩
    intro i hi
    rcases (show i = 0 ∨ i = 1 ∨ i = 2 ∨ i = 3 by simp at hi; omega) with rfl | rfl | rfl | rfl
    all_goals repeat (first | (refine cell_new ?_ rfl; (simp; done)) | (rw [World.cell?_alloc_past _ _ _ (by simp; try omega)]))
  · refine ⟨w4.heap.size + 1 + 1 + 1 + 1 + 1 + 1 + 1, [241, 128, (128 + x), 128], cell_new (by simp) rfl, allB_of (by intro b hb; simp at hb; omega), by simp, ?_⟩
    intro i hi
    rcases (show i = 0 ∨ i = 1 ∨ i = 2 ∨ i = 3 by simp at hi; omega) with rfl | rfl | rfl | rfl
    all_goals repeat (first | (refine cell_new ?_ rfl; (simp; done)) | (rw [World.cell?_alloc_past _ _ _ (by simp; try omega)]))
  · refine ⟨w4.heap.size + 1 + 1 + 1 + 1 + 1 + 1 + 1 + 1, [244, (128 + x % 16), 191, 191], cell_new (by simp) rfl, allB_of (by intro b hb; simp at hb; omega), by simp, ?_⟩
    intro i hi
    rcases (show i = 0 ∨ i = 1 ∨ i = 2 ∨ i = 3 by simp at hi; omega) with rfl | rfl | rfl | rfl
    all_goals repeat (first | (refine cell_new ?_ rfl; (simp; done)) | (rw [World.cell?_alloc_past _ _ _ (by simp; try omega)]))
  · refine ⟨w4.heap.size + 1 + 1 + 1 + 1 + 1 + 1 + 1 + 1 + 1, [x], cell_new (by simp) rfl, allB_of (by intro b hb; simp at hb; omega), by simp, ?_⟩
    intro i hi
    rcases (show i = 0 by simp at hi; omega) with rfl
    all_goals repeat (first | (refine cell_new ?_ rfl; (simp; done)) | (rw [World.cell?_alloc_past _ _ _ (by simp; try omega)]))
  · refine ⟨w4.heap.size + 1 + 1 + 1 + 1 + 1 + 1 + 1 + 1 + 1 + 1, [239, 128, 128], cell_new (by simp) rfl, allB_of (by intro b hb; simp at hb; omega), by simp, ?_⟩
    intro i hi
    rcases (show i = 0 ∨ i = 1 ∨ i = 2 by simp at hi; omega) with rfl | rfl | rfl
    all_goals repeat (first | (refine cell_new ?_ rfl; (simp; done)) | (rw [World.cell?_alloc_past _ _ _ (by simp; try omega)]))
end Go.Proofs.Ytnbplhlpcojlhaa
