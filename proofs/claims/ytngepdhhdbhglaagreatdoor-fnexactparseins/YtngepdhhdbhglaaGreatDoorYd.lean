import Derived.Test.YtngepdhhdbhglaaGreatDoorYc
import Derived.Lib.Bytealg
import Derived.Lib.IndexLaws
set_option linter.all false
set_option linter.unusedVariables false
namespace Go.Proofs.YtngepdhhdbhglaaGreatDoor
open Go.RowKit Go.Sort
set_option maxRecDepth 100000
def tyW (i : Nat) : Wd := if i = 0 then [105, 51, 50] else if i = 1 then [105, 54, 52] else if i = 2 then [102, 51, 50] else [102, 54, 52]
def tyN (s : Wd) : Int := if s = tyW 0 then 127 else if s = tyW 1 then 126 else if s = tyW 2 then 125 else if s = tyW 3 then 124 else 0
theorem types_c (w : World) : Calls Tryz.prog 53 #[] w fun e w' => e = .returned (.slice (some ⟨w.heap.size, 0, none⟩) 4 4) ∧ w' = w.alloc (.cells #[.string ⟨#[105, 51, 50]⟩, .int .i64 127, .string ⟨#[105, 54, 52]⟩, .int .i64 126, .string ⟨#[102, 51, 50]⟩, .int .i64 125, .string ⟨#[102, 54, 52]⟩, .int .i64 124] 112) := by
  go_enter Tryz.func53, Tryz.ntmps53
  go_wp2
  go_ret
  exact ⟨rfl, rfl⟩
def TyT (w : World) (g : Nat) : Prop := ∀ i, i < 4 → w.cell? ⟨g, i * 2, none⟩ = some (.string (S (tyW i))) ∧ w.cell? ⟨g, i * 2 + 1, none⟩ = some (.int .i64 (127 - (i : Int)))
theorem tyt_new (w : World) : TyT (w.alloc (.cells #[.string ⟨#[105, 51, 50]⟩, .int .i64 127, .string ⟨#[105, 54, 52]⟩, .int .i64 126, .string ⟨#[102, 51, 50]⟩, .int .i64 125, .string ⟨#[102, 54, 52]⟩, .int .i64 124] 112)) w.heap.size := by
  intro i hi
  match i, hi with
  | 0, _ => exact ⟨cell_new rfl rfl, cell_new rfl rfl⟩
  | 1, _ => exact ⟨cell_new rfl rfl, cell_new rfl rfl⟩
  | 2, _ => exact ⟨cell_new rfl rfl, cell_new rfl rfl⟩
  | 3, _ => exact ⟨cell_new rfl rfl, cell_new rfl rfl⟩
theorem TyT.keep {w w' : World} {g : Nat} (h : TyT w g) (hk : w'.heap[g]? = w.heap[g]?) : TyT w' g := fun i hi => ⟨(World.cell?_of_block hk).trans (h i hi).1, (World.cell?_of_block hk).trans (h i hi).2⟩
theorem tyN_at {s : Wd} {k : Nat} (hk : k < 4) (h : ∀ i, i < k → s ≠ tyW i) (e : s = tyW k) : tyN s = 127 - (k : Int) := by
  match k, hk with
  | 0, _ => simp [tyN, e]
  | 1, _ => simp only [tyN]; rw [if_neg (h 0 (by omega)), if_pos e]; rfl
  | 2, _ => simp only [tyN]; rw [if_neg (h 0 (by omega)), if_neg (h 1 (by omega)), if_pos e]; rfl
  | 3, _ => simp only [tyN]; rw [if_neg (h 0 (by omega)), if_neg (h 1 (by omega)), if_neg (h 2 (by omega)), if_pos e]; rfl
theorem tyN_no {s : Wd} (h : ∀ i, i < 4 → s ≠ tyW i) : tyN s = 0 := by
  simp only [tyN]; rw [if_neg (h 0 (by omega)), if_neg (h 1 (by omega)), if_neg (h 2 (by omega)), if_neg (h 3 (by omega))]
set_option maxHeartbeats 4000000 in
theorem one_c (q g : Nat) (ws : List Wd) (bad : Bool) (w : World) (h : Tw w q ws bad) (hT : TyT w g) (hg : q < g) :
    Calls Tryz.prog 52 #[.pointer (some ⟨q, 0, none⟩), .slice (some ⟨g, 0, none⟩) 4 4] w fun e w' => e = .returned (.int .i64 (tyN (ws.headD []))) ∧ Tw w' q ws.tail ((bad || ws.isEmpty) || tyN (ws.headD []) == 0) ∧ w.grownBy w' (some q) := by
  have KN := Hid.mk' (next_g q ws bad w h)
  have hq := h.lt
  have hgl : g < w.heap.size := World.block_lt_of_cell? w _ (hT 0 (by omega)).1
  have HT := Hid.mk' hT
  clear h hT
  generalize ws.headD [] = s at *
  generalize ws.tail = r at *
  generalize (bad || ws.isEmpty) = z at *
  go_enter Tryz.func52, Tryz.ntmps52
  go_wp2_with fail
  refine KN.out.mono ?_
  rintro e w1 ⟨rfl, t1, g1⟩
  have T1 := Hid.mk' t1
  have B1 := Hid.mk' g1
  have HT1 := Hid.mk' (HT.out.keep (g1.block g hgl (by simp; omega)))
  have hgl1 : g < w1.heap.size := Nat.lt_of_lt_of_le hgl g1.size
  clear t1 g1 KN HT
  go_wp2
  go_loopw [12] (fun i wr => ∃ k : Nat, k ≤ 4 ∧ i = .int .i64 k ∧ (∀ i, i < k → s ≠ tyW i) ∧ Below w1.heap.size w1 wr) (fun i _ => 4 - (intOf i).toNat)
  case atStart => exact ⟨0, by omega, rfl, fun i hi => by omega, Below.refl _ _⟩
  case round =>
    obtain ⟨k, hk, rfl, hall, hb⟩ := hrel
    have T2 := Hid.mk' (T1.out.keep hb)
    have B2 := Hid.mk' (grown_trans B1.out (below_gr hb))
    have HB := Hid.mk' hb
    have HA := Hid.mk' hall
    have hs1 := hb.size
    by_cases hlt : k < 4
    · have hki : (k : Int) < 4 := by omega
      obtain ⟨c0, c1⟩ := HT1.out k hlt
      have c0 := (hb.cell (p := ⟨g, k * 2, none⟩) hgl1).trans c0
      have c1 := (hb.cell (p := ⟨g, k * 2 + 1, none⟩) hgl1).trans c1
      clear hb hall T1 B1 HT1
      by_cases he : s = tyW k
      · have hse : ((S (tyW k)).toList == (S s).toList) = true := by rw [S_beq]; simp [he]
        have HN := Hid.mk' (tyN_at hlt HA.out he)
        have hz : (tyN s == 0) = false := by rw [HN.out]; simp; omega
        clear he
        go_wp2
        go_ret
        refine ⟨by rw [HN.out]; rfl, by rw [hz]; simpa using T2.out.keep ((Below.refl _ _).alloc (Nat.le_refl _) _), grown_trans B2.out (below_gr ((Below.refl _ _).alloc (Nat.le_refl _) _))⟩
      · have hse : ((S (tyW k)).toList == (S s).toList) = false := by rw [S_beq]; simp [Ne.symm he]
        have HE := Hid.mk' he
        clear he
        go_wp2
        go_roundw
        case rel => exact ⟨k + 1, by omega, by go_num, fun i hi => by
          rcases (by omega : i < k ∨ i = k) with h | h
          · exact HA.out i h
          · subst h; exact HE.out, HB.out.alloc hs1 _⟩
        case measure => simp [intOf]; omega
    · have e : k = 4 := by omega
      subst e
      have HN := Hid.mk' (tyN_no HA.out)
      have c1 := T2.out.c1
      have f1 := T2.out.fz 1
      have T3 := Hid.mk' (T2.out.flag true)
      clear hb hall T1 B1 HT1
      go_wp2
      go_ret
      exact ⟨by rw [HN.out]; rfl, by rw [HN.out]; simpa using T3.out, grown_trans B2.out (grown_set' _ _ _ _)⟩
theorem vty_c (q : Nat) (ws : List Wd) (bad : Bool) (w : World) (h : Tw w q ws bad) :
    Calls Tryz.prog 33 #[.pointer (some ⟨q, 0, none⟩)] w fun e w' => e = .returned (.int .i64 (tyN (ws.headD []))) ∧ Tw w' q ws.tail ((bad || ws.isEmpty) || tyN (ws.headD []) == 0) ∧ w.grownBy w' (some q) := by
  have hq := h.lt
  obtain ⟨W, hW⟩ : ∃ W, W = w.alloc (.cells #[.string ⟨#[105, 51, 50]⟩, .int .i64 127, .string ⟨#[105, 54, 52]⟩, .int .i64 126, .string ⟨#[102, 51, 50]⟩, .int .i64 125, .string ⟨#[102, 54, 52]⟩, .int .i64 124] 112) := ⟨_, rfl⟩
  have bW : Below w.heap.size w W := by rw [hW]; exact (Below.refl _ _).alloc (Nat.le_refl _) _
  have K := Hid.mk' (one_c q w.heap.size ws bad W (h.keep bW) (by rw [hW]; exact tyt_new w) hq)
  have KT := Hid.mk' (types_c w)
  have HB := Hid.mk' bW
  have HW := Hid.mk' hW
  clear h bW hW
  generalize ws.headD [] = s at *
  go_enter Tryz.func33, Tryz.ntmps33
  go_wp2_with fail
  refine KT.out.mono ?_
  rintro e w1 ⟨rfl, hw1⟩
  obtain rfl : w1 = W := hw1.trans HW.out.symm
  clear hw1 HW KT
  go_wp2_with fail
  refine K.out.mono ?_
  rintro e w2 ⟨rfl, t2, b2⟩
  have T2 := Hid.mk' t2
  have B2 := Hid.mk' (grown_trans (below_gr HB.out) b2)
  clear t2 b2 K HB
  go_wp2
  go_ret
  exact ⟨rfl, T2.out, B2.out⟩
end Go.Proofs.YtngepdhhdbhglaaGreatDoor
