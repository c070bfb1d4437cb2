import Derived.Test.YtdbmolambolmgaaGreatR3a
import Derived.Test.YtdbmolambolmgaaGreatU3
import Derived.Test.YtdbmolambolmgaaGreatU5
import Derived.Laws.IdiomStrings
set_option linter.all false
set_option linter.unusedVariables false
namespace Go.Proofs.YtdbmolambolmgaaGreat
open Go.RowKit Go.Sort
set_option maxRecDepth 100000
def limB (l : Limits) : Bool := u32B l.min && u32B l.max && (l.has || l.max == 0)
def kindB (k : Int) : Bool := decide (0 ≤ k ∧ k ≤ 3)
def grpB (g : Grp) : Bool := u32B g.n && tyB g.ty
def stB (has : Bool) (start : Int) : Bool := u32B start && (has || start == 0)
def bytesOf (s : ByteArray) : List Int := s.data.toList.map fun b => (b.toNat : Int)
def nameB (s : ByteArray) : Bool := decide (uf 0 0 0 0 (bytesOf s) = -1)
theorem uf_ge (l : Nat) (lo hi : Int) (p : Nat) (cs : List Int) : uf l lo hi p cs = -1 ∨ 0 ≤ uf l lo hi p cs := by
  induction cs generalizing l lo hi p with
  | nil => cases l <;> simp [uf]
  | cons c cs ih =>
    cases l with
    | zero => simp only [uf]; split
              · right; omega
              · exact ih _ _ _ _
    | succ l => simp only [uf]; split
                · right; omega
                · exact ih _ _ _ _
theorem ilim_c (l : Limits) (w : World) : Calls Tryz.prog 54 #[.agg #[.int .i64 l.min, .int .i64 l.max, .bool l.has]] w fun e w' => e = .returned (.bool (limB l)) ∧ Below w.heap.size w w' := by
  obtain ⟨mi, ma, h⟩ := l
  cases h
  all_goals
    go_enter Tryz.func54, Tryz.ntmps54
    go_wp2_with (go_at_call 52; refine (iu32_c _ _).mono ?_; rintro e w1 ⟨rfl, rfl⟩)
    all_goals
      go_ret
      refine ⟨?_, (Below.refl _ _).alloc (Nat.le_refl _) _⟩
      simp_all [limB]
theorem slim_c (l : Limits) (w : World) : Calls Tryz.prog 110 #[.agg #[.int .i64 l.min, .int .i64 l.max, .bool l.has]] w fun e w' => e = .returned (.bool (limB l)) ∧ Below w.heap.size w w' := by
  obtain ⟨mi, ma, h⟩ := l
  cases h
  all_goals
    go_enter Tryz.func110, Tryz.ntmps110
    go_wp2_with (go_at_call 31; refine (u32_c _ _).mono ?_; rintro e w1 ⟨rfl, rfl⟩)
    all_goals
      go_ret
      refine ⟨?_, (Below.refl _ _).alloc (Nat.le_refl _) _⟩
      simp_all [limB]
theorem igt_c (g : GType) (w : World) : Calls Tryz.prog 125 #[.agg #[.int .i64 g.ty, .bool g.mu]] w fun e w' => e = .returned (.bool (tyB g.ty)) ∧ Below w.heap.size w w' := by
  go_enter Tryz.func125, Tryz.ntmps125
  go_wp2_with (go_at_call 124; refine (ity_c _ _).mono ?_; rintro e w1 ⟨rfl, rfl⟩)
  go_ret
  exact ⟨rfl, (Below.refl _ _).alloc (Nat.le_refl _) _⟩
theorem ikind_c (x : Int) (w : World) : Calls Tryz.prog 128 #[.int .i64 x] w fun e w' => e = .returned (.bool (kindB x)) ∧ w = w' := by
  go_enter Tryz.func128, Tryz.ntmps128
  go_wp2
  all_goals
    go_ret
    refine ⟨?_, rfl⟩
    simp [kindB, *]
    try omega
theorem igrp_c (g : Grp) (w : World) : Calls Tryz.prog 180 #[.agg #[.int .i64 g.n, .int .i64 g.ty]] w fun e w' => e = .returned (.bool (grpB g)) ∧ Below w.heap.size w w' := by
  go_enter Tryz.func180, Tryz.ntmps180
  go_wp2_with (first | (go_at_call 52; refine (iu32_c _ _).mono ?_; rintro e w1 ⟨rfl, rfl⟩) | (go_at_call 124; refine (ity_c _ _).mono ?_; rintro e w1 ⟨rfl, rfl⟩))
  all_goals
    go_ret
    refine ⟨?_, (Below.refl _ _).alloc (Nat.le_refl _) _⟩
    simp_all [grpB]
theorem istart_c (has : Bool) (x : Int) (w : World) : Calls Tryz.prog 59 #[.bool has, .int .i64 x] w fun e w' => e = .returned (.bool (stB has x)) ∧ w = w' := by
  cases has
  all_goals
    go_enter Tryz.func59, Tryz.ntmps59
    go_wp2_with (go_at_call 52; refine (iu32_c _ _).mono ?_; rintro e w1 ⟨rfl, rfl⟩)
    all_goals
      go_ret
      refine ⟨?_, rfl⟩
      simp_all [stB]
theorem bytes_len (s : ByteArray) : (bytesOf s).length = s.size := by simp [bytesOf]
theorem bytes_at (s : ByteArray) (c i : Nat) (hi : i < (bytesOf s).length) : (bytesRow s c)[i]? = some (.int .u8 ((bytesOf s).getD i 0)) := by
  have hl : i < s.data.size := by simpa [bytesOf] using hi
  unfold bytesRow
  rw [Array.getElem?_append_left (by simpa using hl)]
  have e : s.data[i]? = some s.data[i] := Array.getElem?_eq_getElem hl
  simp [bytesOf, List.getD, e]
theorem bytes_all (s : ByteArray) : AllB (bytesOf s) := by
  intro i
  by_cases hi : i < s.data.toList.length
  · have hl : i < s.data.size := by simpa using hi
    have e : s.data[i]? = some s.data[i] := Array.getElem?_eq_getElem hl
    have : (bytesOf s).getD i 0 = ((s.data.toList[i]'hi).toNat : Int) := by simp [bytesOf, List.getD, e]
    rw [this]
    have := (s.data.toList[i]'hi).toNat_lt
    omega
  · have : (bytesOf s).getD i 0 = 0 := by simp [bytesOf, List.getD]; rw [Array.getElem?_eq_none (by simpa using hi)]; rfl
    rw [this]; omega
theorem bytesRow_cells (s : ByteArray) (c : Nat) (w : World) (e : TypeId) (f : Nat × Nat) : ∀ i, i < (bytesOf s).length → (w.drew.alloc (.cells (bytesRow s c) e f)).cell? ⟨w.heap.size, 0 + i, none⟩ = some (.int .u8 ((bytesOf s).getD i 0)) := by
  intro i hi
  have h : (w.drew.alloc (.cells (bytesRow s c) e f)).heap[w.heap.size]? = some (.cells (bytesRow s c) e f) := heap_new w.drew _
  rw [Nat.zero_add]
  simp only [World.cell?, h]
  exact bytes_at s c i hi
set_option maxHeartbeats 1000000 in
theorem sname_ok (s : ByteArray) (w : World) (hn : s.size ≤ 1048576) : Calls Tryz.prog 36 #[.string s] w fun e w' => e = .returned (.bool (nameB s)) ∧ Below w.heap.size w w' := by
  have hcv := fun w => run_bytes_of_string (P := Tryz.prog) w 9 50 5 s Tryz.underlying9 Tryz.underlying50 Tryz.underlying5
  have hl : (bytesOf s).length ≤ 1099511627776 := by rw [bytes_len]; omega
  have HU := Hid.mk' (fun c f => specUtf8_any (some ⟨w.heap.size, 0, none⟩) c (bytesOf s) (w.drew.alloc (.cells (bytesRow s c) 5 f)) hl (.inr ⟨_, _, rfl, bytesRow_cells s c w 5 f⟩) (bytes_all s))
  rw [bytes_len] at HU
  generalize hu : uf 0 0 0 0 (bytesOf s) = u at HU
  have hne : nameB s = (u == -1) := by simp only [nameB, hu]; by_cases h : u = -1 <;> simp [h]
  rw [hne]
  clear hne hu
  go_enter Tryz.func36, Tryz.ntmps36
  go_wp2_with fail
  refine (HU.out _ _).mono ?_
  rintro e w1 ⟨rfl, rfl⟩
  go_wp2
  go_ret
  exact ⟨rfl, ⟨rfl, rfl, rfl, by simp, fun k hk => heap_old w.drew _ k hk⟩⟩
set_option maxHeartbeats 1000000 in
theorem iname_ok (s : ByteArray) (w : World) (hn : s.size ≤ 1048576) : Calls Tryz.prog 126 #[.string s] w fun e w' => e = .returned (.bool (nameB s)) ∧ Below w.heap.size w w' := by
  have hcv := fun w => run_bytes_of_string (P := Tryz.prog) w 9 50 5 s Tryz.underlying9 Tryz.underlying50 Tryz.underlying5
  have hl : (bytesOf s).length ≤ 1099511627776 := by rw [bytes_len]; omega
  have HU := Hid.mk' (fun c f => implUtf8_row w.heap.size 0 c (bytesOf s) (w.drew.alloc (.cells (bytesRow s c) 5 f)) hl (bytesRow_cells s c w 5 f) (bytes_all s))
  rw [bytes_len] at HU
  have hge := uf_ge 0 0 0 0 (bytesOf s)
  generalize hu : uf 0 0 0 0 (bytesOf s) = u at HU hge
  have hne : nameB s = decide (u < 0) := by simp only [nameB, hu]; rcases hge with h | h <;> simp [h] <;> omega
  rw [hne]
  clear hne hu hge
  go_enter Tryz.func126, Tryz.ntmps126
  go_wp2_with fail
  refine (HU.out _ _).mono ?_
  rintro e w1 ⟨rfl, rfl⟩
  go_wp2
  go_ret
  exact ⟨rfl, ⟨rfl, rfl, rfl, by simp, fun k hk => heap_old w.drew _ k hk⟩⟩
end Go.Proofs.YtdbmolambolmgaaGreat
