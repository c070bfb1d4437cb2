import Derived.Test.YteaegmlnacnofaaR1
set_option linter.all false
set_option linter.unusedVariables false
namespace Go.Proofs.Yteaegmlnacnofaa.NF
open Go.RowKit Go.Sort
set_option maxRecDepth 100000
def unfro : Obj → Bool
  | .cells _ _ (lo, hi) => lo == 0 && hi == 0
  | _ => false
/-- 'Below', and nothing is newly frozen. -/
structure Below (B : Nat) (w w' : World) : Prop where
  to : Go.RowKit.Below B w w'
  nz : ∀ a, w'.frozen? a = true → w.frozen? a = true
theorem Below.size {B : Nat} {w w' : World} (h : Below B w w') : w.heap.size ≤ w'.heap.size := h.to.size
theorem Below.block {B : Nat} {w w' : World} (h : Below B w w') : ∀ k, k < B → w'.heap[k]? = w.heap[k]? := h.to.block
theorem Below.cell {B : Nat} {w w' : World} (h : Below B w w') {p : Addr} (hp : p.block < B) : w'.cell? p = w.cell? p := h.to.cell hp
theorem Below.frozen {B : Nat} {w w' : World} (h : Below B w w') {p : Addr} (hp : p.block < B) : w'.frozen? p = w.frozen? p := h.to.frozen hp
theorem Below.refl (B : Nat) (w : World) : Below B w w := ⟨Go.RowKit.Below.refl _ _, fun _ h => h⟩
theorem Below.trans {B : Nat} {a b c : World} (h : Below B a b) (k : Below B b c) : Below B a c := ⟨h.to.trans k.to, fun p hp => h.nz p (k.nz p hp)⟩
theorem Below.mono {B B' : Nat} {w w' : World} (h : Below B w w') (hB : B' ≤ B) : Below B' w w' := ⟨h.to.mono hB, h.nz⟩
theorem Below.setCell {B : Nat} {w w' : World} (h : Below B w w') {p : Addr} (hp : B ≤ p.block) (v : Value) : Below B w (w'.setCell p v) := ⟨h.to.setCell hp v, fun a ha => h.nz a (by rwa [World.frozen?_setCell] at ha)⟩
theorem Below.alloc {B : Nat} {w w' : World} (h : Below B w w') (hs : B ≤ w'.heap.size) (o : Obj) (ho : unfro o = true := by rfl) : Below B w (w'.alloc o) := by
  refine ⟨h.to.alloc hs o, fun a ha => h.nz a ?_⟩
  by_cases e : a.block = w'.heap.size
  · exfalso
    have hh : (w'.alloc o).heap[a.block]? = some o := by rw [e]; exact heap_new w' o
    unfold World.frozen? at ha
    rw [hh] at ha
    cases o with
    | cells c t r =>
      obtain ⟨lo, hi⟩ := r
      simp only [unfro, Bool.and_eq_true, beq_iff_eq] at ho
      obtain ⟨rfl, rfl⟩ := ho
      simp at ha
    | _ => simp [unfro] at ho
  · have hh : (w'.alloc o).heap[a.block]? = w'.heap[a.block]? := by
      show (w'.heap.push o)[a.block]? = _
      rcases Nat.lt_or_ge a.block w'.heap.size with h' | h'
      · rw [Array.getElem?_push_lt h', Array.getElem?_eq_getElem h']
      · rw [Array.getElem?_eq_none (by simp; omega), Array.getElem?_eq_none h']
    unfold World.frozen? at ha ⊢
    rwa [hh] at ha
theorem Below.heap_setCell (w : World) (p : Addr) (v : Value) (k : Nat) (h : k ≠ p.block) : (w.setCell p v).heap[k]? = w.heap[k]? := Go.RowKit.Below.heap_setCell w p v k h
theorem up_below {B : Nat} {w w' : World} (h : Below w.heap.size w w') : Up B w w' := Go.Proofs.Yteaegmlnacnofaa.up_below h.to
set_option maxHeartbeats 1000000 in
theorem toI_c (a : Option Addr) (c : Nat) (xs : List Int) (w : World) (hn : xs.length ≤ 1048576) (hH : Has w a xs) :
    Calls Try.prog 69 #[.slice a xs.length c] w fun e w' => e = .returned (.slice (some ⟨w.heap.size, 0, none⟩) xs.length xs.length) ∧ w'.ownsRow w.heap.size 2 1 (.slice (some ⟨w.heap.size, 0, none⟩) xs.length xs.length) xs.length (I xs) ∧ Below w.heap.size w w' := by
  have hmk := run_make_row' (P := Try.prog) 24 2 (.int .i64 0) 8 Try.underlying24 Try.info2 rfl .i64 .i64 xs.length (by omega) (by omega)
  have HH := Hid.mk' hH
  clear hH
  have hst : (w.alloc (.cells (madeCells #[.int .i64 0] xs.length) 2)).ownsRow w.heap.size 2 1 (.slice (some ⟨w.heap.size, 0, none⟩) xs.length xs.length) xs.length (I (xs.take 0 ++ (List.replicate xs.length 0).drop 0)) := by
    have := World.ownsRow_lit (base := w.heap.size) (e := 2) (size := 1) w (madeCells #[.int .i64 0] xs.length) xs.length (Nat.le_refl _) (by unfold maxLen; omega) (by simp [madeCells])
    have e : (madeCells #[.int .i64 0] xs.length).toList = I (xs.take 0 ++ (List.replicate xs.length 0).drop 0) := by
      apply List.ext_getElem?
      intro i
      by_cases hi : i < xs.length
      · simp [madeCells, hi, Nat.mod_one]
      · simp [madeCells, hi]
    rw [e] at this
    exact this
  have HS := Hid.mk' hst
  clear hst
  go_enter Try.func69, Try.ntmps69
  go_wp2
  go_loopw [4] (fun i wr => ∃ k : Nat, k ≤ xs.length ∧ i = .int .i64 k ∧ wr.ownsRow w.heap.size 2 1 (.slice (some ⟨w.heap.size, 0, none⟩) xs.length xs.length) xs.length (I (xs.take k ++ (List.replicate xs.length 0).drop k)) ∧ Below w.heap.size w wr) (fun i _ => xs.length - (intOf i).toNat)
  case atStart => exact ⟨0, Nat.zero_le _, rfl, HS.out, (Below.refl _ _).alloc (Nat.le_refl _) _⟩
  case round =>
    obtain ⟨k, hk, rfl, ho, hb⟩ := hrel
    clear HS hmk
    by_cases hlt : k < xs.length
    · have hki : (k : Int) < (xs.length : Int) := by omega
      rcases HH.out with hx | ⟨b, o, ea, hc⟩
      · subst hx; simp at hlt
      have d : wr.cell? ⟨b, o + k, none⟩ = some (.int .i64 (xs.getD k 0)) := (hb.cell (p := ⟨b, o + k, none⟩) (World.block_lt_of_cell? w _ (hc k hlt))).trans (hc k hlt)
      subst ea
      have hcell : ∃ u, wr.cell? ⟨w.heap.size, k, none⟩ = some u := by
        rw [ho.cellAt k (by omega)]
        exact ⟨_, List.getElem?_eq_getElem (by simp; omega)⟩
      obtain ⟨u, hu⟩ := hcell
      have hfz := ho.frozenAt k
      obtain ⟨x, hx⟩ : ∃ x, x = xs.getD k 0 := ⟨_, rfl⟩
      obtain ⟨s1, s2⟩ := ho.stored k (.int .i64 x)
      rw [hx, copy_step k xs hlt, ← hx] at s1
      rw [← hx] at d
      have R := And.intro s1 (hb.setCell (p := ⟨w.heap.size, k, none⟩) (Nat.le_refl _) (.int .i64 x))
      clear s1 s2 ho hb hc hx HH
      go_wp2
      go_roundw
      case rel => exact ⟨k + 1, by omega, by go_num, R.1, R.2⟩
      case measure => simp [intOf]; omega
    · have e : k = xs.length := by omega
      subst e
      rw [List.take_length, List.drop_of_length_le (by simp), List.append_nil] at ho
      go_wp2
      go_ret
      exact ⟨rfl, ho, hb⟩
end Go.Proofs.Yteaegmlnacnofaa.NF
