import Derived.Test.YtfaajmhmcdoibaaChecked
import Derived.WalkKit
import Derived.ProofKit
import Derived.WalkSpells
import Derived.WalkLawsBesides
import Derived.Below
import Derived.Deep.QuietTactic
import Derived.BigQuiet
set_option linter.all false
namespace Go.Proofs.Ytfaajmhmcdoibaa
open Go.RowKit

theorem Hid.mk' {p : Prop} (h : p) : Hid p := h

theorem setRow_new (W : World) (cs X : Array Value) (t : TypeId) : (W.alloc (.cells cs t)).setRow W.heap.size X = W.alloc (.cells X t) := by
  unfold World.setRow World.alloc
  congr 1
  apply Array.ext
  · simp
  · intro i h1 h2
    simp only [Array.getElem_modify]
    split
    · rename_i hk
      subst hk
      simp
    · rename_i hk
      simp at h2
      rw [Array.getElem_push_lt (by omega), Array.getElem_push_lt (by omega)]

theorem storeNew {P : Program} {W : World} {g : Nat} {cs : Array Value} {t : TypeId} {vs : List Value} (T : List Value) (hv : vs = T) (hg : g = W.heap.size) (hl : T.length = cs.size) (h1 : T.all Value.oneCell' = true) :
    (storeCells ⟨g, 0, none⟩ vs).run P (W.alloc (.cells cs t)) = .ok () (W.alloc (.cells T.toArray t)) := by
  subst hv hg
  rw [run_storeCells_from W.heap.size t vs 0 cs _ (by show (W.heap.push _)[W.heap.size]? = _; simp) (by omega) (by simpa using h1)]
  simp only [List.take_zero, List.nil_append]
  rw [setRow_new]

theorem eqI1 {P : Program} {t : TypeId} {ps rs : Array TypeId} {vd : Bool} (ht : P.underlying t = some (.func ps rs vd)) (d : Nat) (f : Fn) (c1 c2 : Array Value) (w : World) : (Op.equalIn (d + 1) t (.func f c1 c2) .nilFunc).run P w = .ok false w := by
  simp [Op.equalIn, run_underlying ht]
theorem eqI2 {P : Program} {t : TypeId} {ps rs : Array TypeId} {vd : Bool} (ht : P.underlying t = some (.func ps rs vd)) (d : Nat) (w : World) : (Op.equalIn (d + 1) t .nilFunc .nilFunc).run P w = .ok true w := by
  simp [Op.equalIn, run_underlying ht]
theorem eqF1 {P : Program} {t : TypeId} {ps rs : Array TypeId} {vd : Bool} (ht : P.underlying t = some (.func ps rs vd)) (f : Fn) (c1 c2 : Array Value) (w : World) : (binOp .eql t (.func f c1 c2) .nilFunc).run P w = .ok (.bool false) w := by
  have e : (Op.equal t (.func f c1 c2) .nilFunc).run P w = .ok false w := eqI1 ht 9999 f c1 c2 w
  simp [binOp, e]
theorem eqF2 {P : Program} {t : TypeId} {ps rs : Array TypeId} {vd : Bool} (ht : P.underlying t = some (.func ps rs vd)) (w : World) : (binOp .eql t .nilFunc .nilFunc).run P w = .ok (.bool true) w := by
  have e : (Op.equal t .nilFunc .nilFunc).run P w = .ok true w := eqI2 ht 9999 w
  simp [binOp, e]

theorem bcell {W w1 : World} (hb : Below W.heap.size W w1) : (∀ b o, b < W.heap.size → w1.cell? ⟨b, o, none⟩ = W.cell? ⟨b, o, none⟩) ∧ (∀ b o, b < W.heap.size → w1.frozen? ⟨b, o, none⟩ = W.frozen? ⟨b, o, none⟩) :=
  ⟨fun b o h => hb.cell (p := ⟨b, o, none⟩) h, fun b o h => hb.frozen (p := ⟨b, o, none⟩) h⟩

theorem cell_new {w : World} {cs : Array Value} {e : TypeId} {g i : Nat} {u : Value} (hg : g = w.heap.size) (hu : cs[i]? = some u) : (w.alloc (.cells cs e)).cell? ⟨g, i, none⟩ = some u := by
  subst hg
  simp [hu]
theorem cell_mid (w : World) (o1 o2 : Obj) (x : Value) (t : TypeId) : (((w.alloc o1).alloc (.cells #[x] t)).alloc o2).cell? ⟨w.heap.size + 1, 0, none⟩ = some x := by
  rw [World.cell?_alloc_past _ _ _ (by simp)]; exact cell_new (by simp) rfl
theorem cell_low (w : World) (cs : Array Value) (o2 o3 : Obj) (x : Value) (t : TypeId) (i : Nat) (hu : cs[i]? = some x) : (((w.alloc (.cells cs t)).alloc o2).alloc o3).cell? ⟨w.heap.size, i, none⟩ = some x := by
  rw [World.cell?_alloc_past _ _ _ (by simp; omega), World.cell?_alloc_past _ _ _ (by simp)]; exact cell_new (by simp) hu
theorem frozen_low (w : World) (cs : Array Value) (o2 o3 : Obj) (t : TypeId) (i : Nat) : (((w.alloc (.cells cs t)).alloc o2).alloc o3).frozen? ⟨w.heap.size, i, none⟩ = false := by
  rw [World.frozen?_alloc_old _ _ _ (by simp; omega), World.frozen?_alloc_old _ _ _ (by simp)]; exact World.frozen?_alloc_new w cs t i
theorem res_cells {w w1 : World} {o2 o3 : Obj} {t : TypeId} (hb : Below (((w.alloc (.cells #[.bool false, .int .i64 0, .int .u64 0] t)).alloc o2).alloc o3).heap.size (((w.alloc (.cells #[.bool false, .int .i64 0, .int .u64 0] t)).alloc o2).alloc o3) w1) :
    w1.cell? ⟨w.heap.size, 0, none⟩ = some (.bool false) ∧ w1.cell? ⟨w.heap.size, 1, none⟩ = some (.int .i64 0) ∧ w1.cell? ⟨w.heap.size, 2, none⟩ = some (.int .u64 0) ∧
    w1.frozen? ⟨w.heap.size, 0, none⟩ = false ∧ w1.frozen? ⟨w.heap.size, 1, none⟩ = false ∧ w1.frozen? ⟨w.heap.size, 2, none⟩ = false ∧ Below w.heap.size w w1 := by
  have hl : w.heap.size < (((w.alloc (.cells #[.bool false, .int .i64 0, .int .u64 0] t)).alloc o2).alloc o3).heap.size := by simp; omega
  refine ⟨?_, ?_, ?_, ?_, ?_, ?_, ?_⟩
  · rw [hb.cell (p := ⟨w.heap.size, 0, none⟩) hl]; exact cell_low w _ _ _ _ _ _ rfl
  · rw [hb.cell (p := ⟨w.heap.size, 1, none⟩) hl]; exact cell_low w _ _ _ _ _ _ rfl
  · rw [hb.cell (p := ⟨w.heap.size, 2, none⟩) hl]; exact cell_low w _ _ _ _ _ _ rfl
  · rw [hb.frozen (p := ⟨w.heap.size, 0, none⟩) hl]; exact frozen_low w _ _ _ _ _
  · rw [hb.frozen (p := ⟨w.heap.size, 1, none⟩) hl]; exact frozen_low w _ _ _ _ _
  · rw [hb.frozen (p := ⟨w.heap.size, 2, none⟩) hl]; exact frozen_low w _ _ _ _ _
  · exact Below.trans (((((Below.refl _ _).alloc (Nat.le_refl _) _).alloc (by simp) _).alloc (by simp; omega) _)) (hb.mono (by omega))

end Go.Proofs.Ytfaajmhmcdoibaa
