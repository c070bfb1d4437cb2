import Derived.Test.YtngepdhhdbhglaaGreatDoorF3
set_option linter.all false
set_option linter.unusedVariables false
namespace Go.Proofs.YtngepdhhdbhglaaGreatDoor
open Go.RowKit
theorem fieldV (r : Row) (w : World) : (Instr.field 94 (rowV r) 0).run Tryz.prog w = .ok (.string r.nm) w := by kernel_rfl
theorem iname_c (p : Int) (w : World) : Calls Tryz.prog 50 #[.int .i64 p] w fun e w' => e = .returned (.string (rowOf p).nm) ∧ Below w.heap.size w w' := by
  have hc := Hid.mk' (find_c p w)
  generalize rowOf p = r at *
  have hf := fieldV r
  go_enter Tryz.func50, Tryz.ntmps50
  go_wp2_with fail
  refine hc.out.mono ?_
  rintro e w1 ⟨rfl, hb⟩
  go_wp2
  go_ret
  exact ⟨rfl, hb⟩
theorem isE (a : ByteArray) : a.toList.isEmpty = decide (a.size = 0) := by
  rw [ByteArray.toList_eq]
  have : a.size = a.data.toList.length := rfl
  rw [this]
  cases a.data.toList <;> simp
theorem belA {w w1 : World} {o : Obj} (h : Below w.heap.size w w1) : Below w.heap.size w (w1.alloc o) := h.alloc h.size o
theorem iform_c (p : Int) (w : World) : Calls Tryz.prog 32 #[.int .i64 p] w fun e w' => e = .returned (.int .i64 (formR (rowOf p))) ∧ Below w.heap.size w w' := by
  have hc := Hid.mk' (find_c p w)
  generalize rowOf p = r at *
  by_cases hz : r.nm.size = 0
  · have h0 : r.nm.toList.isEmpty = true := by rw [isE]; simpa using hz
    go_enter Tryz.func32, Tryz.ntmps32
    go_wp2_with fail
    refine hc.out.mono ?_
    rintro e w1 ⟨rfl, hb⟩
    go_wp2
    go_ret
    exact ⟨by simp [formR, hz], belA hb⟩
  · have h0 : r.nm.toList.isEmpty = false := by rw [isE]; simpa using hz
    go_enter Tryz.func32, Tryz.ntmps32
    go_wp2_with fail
    refine hc.out.mono ?_
    rintro e w1 ⟨rfl, hb⟩
    go_wp2
    go_ret
    exact ⟨by simp [formR, hz], belA hb⟩
end Go.Proofs.YtngepdhhdbhglaaGreatDoor
