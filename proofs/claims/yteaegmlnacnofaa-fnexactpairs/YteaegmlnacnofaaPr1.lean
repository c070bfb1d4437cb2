import Derived.Test.YteaegmlnacnofaaPr0
import Derived.Deep.RegionLaw
set_option linter.all false
set_option linter.unusedVariables false
namespace Go.Proofs.Yteaegmlnacnofaa
open Go.RowKit Go.Sort
set_option maxRecDepth 100000
theorem Try.infoPair : (Try.prog.info? 87).map (fun i => (i.zero, i.size, i.bytes)) = some (some (.agg #[.int .i64 0, .int .i64 0]), 2, 16) := by kernel_rfl
theorem Try.infoPair2 : (Try.prog.info? 87).map (·.size) = some 2 := by kernel_rfl
theorem made_pcs (n : Nat) : madeCells #[.int .i64 0, .int .i64 0] (n * 2) = (pcs (List.replicate n (0, 0))).toArray := by
  apply Array.ext
  · simp [madeCells, pcs_len]
  · intro i h1 h2
    have hi : i < n * 2 := by simpa [madeCells] using h1
    have hl : i / 2 < (List.replicate n ((0 : Int), (0 : Int))).length := by simp; omega
    have e : (pcs (List.replicate n (0, 0)))[i]? = some (.int .i64 0) := by
      rcases Nat.mod_two_eq_zero_or_one i with h | h
      · have := pcs_at0 _ _ hl
        rw [show i / 2 * 2 = i by omega] at this
        rw [this]; simp [List.getD, show i / 2 < n by omega]
      · have := pcs_at1 _ _ hl
        rw [show i / 2 * 2 + 1 = i by omega] at this
        rw [this]; simp [List.getD, show i / 2 < n by omega]
    have e2 : (pcs (List.replicate n (0, 0))).toArray[i] = .int .i64 0 := by
      rw [List.getElem?_eq_getElem (by simpa using h2)] at e
      simpa using e
    rw [e2]
    rcases Nat.mod_two_eq_zero_or_one i with h | h <;> simp [madeCells, h]
theorem makePair (n : Nat) (hn : n ≤ 1048576) (w : World) : (Instr.makeSlice 38 (.int .i64 (n : Int)) (.int .i64 (n : Int))).run Try.prog w = .ok (.slice (some ⟨w.heap.size, 0, none⟩) n n) (w.alloc (.cells (pcs (List.replicate n (0, 0))).toArray 87)) := by
  obtain ⟨i, hi, hzz⟩ := Option.map_eq_some_iff.1 Try.infoPair
  simp only [Prod.mk.injEq] at hzz
  obtain ⟨hz, hs, hb⟩ := hzz
  have := run_make (P := Try.prog) w 38 87 i _ Try.underlying38 hi hz .i64 .i64 n n (by omega) (by omega) (by rw [hb]; omega) (by omega)
  rw [hs] at this
  simpa [Value.cells, made_pcs] using this
/-- The row of Repeat of which n entries are done. -/
def repC (N n : Nat) : List Value := pcs (List.replicate n (-1, -1) ++ List.replicate (N - n) (0, 0))
def mns (m : Nat) : List Value := pcs (List.replicate m (-1, -1))
theorem mns_len (m : Nat) : (mns m).length = m * 2 := by simp [mns, pcs_len]
theorem repC_len (N n : Nat) (h : n ≤ N) : (repC N n).length = N * 2 := by simp [repC, pcs_len]; omega
theorem rep_splice (N n m : Nat) (h : n + m ≤ N) : splice (repC N n) (n * 2) (mns m) = repC N (n + m) := by
  have h0 : (pcs (List.replicate n ((-1 : Int), (-1 : Int)))).length = n * 2 := by simp [pcs_len]
  have h1 : (pcs (List.replicate m ((0 : Int), (0 : Int)))).length = m * 2 := by simp [pcs_len]
  have e : List.replicate (N - n) ((0 : Int), (0 : Int)) = List.replicate m (0, 0) ++ List.replicate (N - (n + m)) (0, 0) := by rw [List.replicate_append_replicate]; congr 1; omega
  unfold splice repC mns
  rw [e, pcs_app, pcs_app, pcs_app, ← List.replicate_append_replicate, pcs_app]
  rw [List.take_append_of_le_length (by omega), List.take_of_length_le (by omega)]
  rw [show (pcs (List.replicate m ((-1 : Int), (-1 : Int)))).length = m * 2 by simp [pcs_len]]
  rw [List.drop_append, List.drop_of_length_le (by omega), h0, List.nil_append, List.drop_append, List.drop_of_length_le (by omega), h1, show n * 2 + m * 2 - n * 2 - m * 2 = 0 by omega]
  simp
theorem rep_at (N n m : Nat) (h : m ≤ n) (j : Nat) (v : Value) (hj : (mns m)[j]? = some v) : (repC N n)[j]? = some v := by
  have e : List.replicate n ((-1 : Int), (-1 : Int)) = List.replicate m (-1, -1) ++ List.replicate (n - m) (-1, -1) := by rw [List.replicate_append_replicate]; congr 1; omega
  have hl : j < (mns m).length := by
    rcases Nat.lt_or_ge j (mns m).length with h' | h'
    · exact h'
    · rw [List.getElem?_eq_none h'] at hj; cases hj
  unfold repC
  rw [e, List.append_assoc, pcs_app, show pcs (List.replicate m (-1, -1)) = mns m from rfl, List.getElem?_append_left hl]
  exact hj
theorem cell_row {w : World} {g j : Nat} {cur : List Value} {t : TypeId} {v : Value} (hg : w.heap[g]? = some (.cells cur.toArray t (0, 0))) (hj : cur[j]? = some v) : w.cell? ⟨g, j, none⟩ = some v := by
  simp only [World.cell?, hg]
  simpa using hj
set_option maxHeartbeats 4000000 in
theorem rep_c (b : Nat) (n : Nat) (w : World) (hn : n ≤ 1048576) (h0 : 0 < n) (c0 : w.cell? ⟨b, 0, none⟩ = some (.int .i64 (-1))) (c1 : w.cell? ⟨b, 1, none⟩ = some (.int .i64 (-1))) :
    Calls Try.prog 74 #[.slice (some ⟨b, 0, none⟩) 1 1, .int .i64 n] w fun e w' => e = .returned (.slice (some ⟨w.heap.size, 0, none⟩) n n) ∧ Hid (w'.heap[w.heap.size]? = some (.cells (mns n).toArray 87 (0, 0))) ∧ Below w.heap.size w w' := by
  have HM := Hid.mk' (fun w => mul_one_c n hn w)
  have hmk := makePair n hn
  have hw1 : IntKind.i64.wrap (n : Int) = n := by rw [IntKind.wrap_i64]; omega
  have hw2 : IntKind.u64.wrap (n : Int) = n := by rw [IntKind.wrap_u64]; omega
  have hgt : decide ((9223372036854775807 : Int) < (n : Int)) = false := by rw [decide_eq_false_iff_not]; omega
  have h00 : ¬ (n : Int) < 0 := by omega
  have ct : ∀ (o : Obj) (j : Nat) (v : Value), (mns 1)[j]? = some v → (w.alloc o).cell? (Addr.add ⟨b, 0, none⟩ j) = some v := by
    intro o j v hj
    have hlt := World.block_lt_of_cell? w _ c0
    have hp : ∀ q u, w.cell? ⟨b, q, none⟩ = some u → (w.alloc o).cell? ⟨b, q, none⟩ = some u := fun q u hq => (World.cell?_of_block (heap_old w o b hlt)).trans hq
    match j, hj with
    | 0, hj => simp [mns, pcs] at hj; subst hj; exact hp 0 _ c0
    | 1, hj => simp [mns, pcs] at hj; subst hj; exact hp 1 _ c1
    | j + 2, hj => simp [mns, pcs] at hj
  have CT := Hid.mk' ct
  have HN := Hid.mk' (show (w.alloc (.cells (pcs (List.replicate n (0, 0))).toArray 87)).heap[w.heap.size]? = some (.cells (repC n 0).toArray 87 (0, 0)) by simpa [repC] using heap_new w _)
  have HI1 := Hid.mk' (show Nat.min 1 n = 1 from Nat.min_eq_left h0)
  clear ct c0 c1
  go_enter Try.func74, Try.ntmps74
  go_wp2_with fail
  refine (HM.out _).mono ?_
  rintro e w1 ⟨rfl, rfl⟩
  clear HM
  go_upto_region 7 with fail
  go_wp2_with ((refine wpList_copy2 rfl _ _ 38 38 rfl 87 Try.underlying38 Try.infoPair2 w.heap.size 0 n n ⟨b, 0, none⟩ 1 1 1 rfl rfl (repC n 0) 87 HN.out (mns 1) HI1.out (mns_len 1) (CT.out _) (by rw [mns_len, repC_len _ _ (by omega)]; omega) (pcs_one _) w.heap.size w ((Below.refl _ _).alloc (Nat.le_refl _) _) (Nat.le_refl _) ?_); intro w2 HG hB2)
  go_wp2
  go_loopw [8] (fun q wr => ∃ k : Nat, 0 < k ∧ k ≤ n ∧ q = .int .i64 k ∧ Hid (wr.heap[w.heap.size]? = some (.cells (repC n k).toArray 87 (0, 0))) ∧ Below w.heap.size w wr) (fun q _ => n - (intOf q).toNat)
  case atStart => exact ⟨1, by omega, by omega, rfl, by have := HG.out; rw [show (0 : Nat) = 0 * 2 from rfl, rep_splice n 0 1 (by omega)] at this; exact this, hB2⟩
  case round =>
    obtain ⟨k, hk0, hk1, rfl, hrow, hb⟩ := hrel
    clear HG hB2 CT hmk
    by_cases hlt : k < n
    · have hki : (k : Int) < (n : Int) := by omega
      have hkc : ¬ (n : Int) < (k : Int) := by omega
      obtain ⟨m, hm⟩ : ∃ m, Nat.min k (n - k) = m := ⟨_, rfl⟩
      have hmk : m ≤ k := by rw [← hm]; exact Nat.min_le_left _ _
      have hmn : k + m ≤ n := by have : m ≤ n - k := by rw [← hm]; exact Nat.min_le_right _ _
                                 omega
      have hm0 : 0 < m := by rw [← hm]; simp [Nat.min_def]; split <;> omega
      have hwm : IntKind.i64.wrap ((k : Int) + m) = k + m := by rw [IntKind.wrap_i64]; omega
      have HMm := Hid.mk' hm
      have hnk : ¬ n = k := by omega
      clear hm
      go_wp2
      go_region_law (refine step_copy2 rfl _ _ 38 38 rfl 87 Try.underlying38 Try.infoPair2 w.heap.size (k * 2) (n - k) (n - k) ⟨w.heap.size, 0, none⟩ k n m (by simp [Act.eval, Act.put]) (by simp [Act.eval, Act.put]) (repC n k) 87 hrow.out (mns m) HMm.out (mns_len m) (fun j v hj => by rw [Addr.add_lit, Nat.zero_add]; exact cell_row hrow.out (rep_at n k m hmk j v hj)) (by rw [mns_len, repC_len _ _ hk1]; omega) (pcs_one _) w.heap.size w hb.drew (Nat.le_refl _) ?_; intro w3 HG3 hB3)
      go_simp
      go_wp2
      go_roundw
      case rel => exact ⟨k + m, by omega, hmn, by go_num, by have := HG3.out; rw [rep_splice n k m hmn] at this; exact this, hB3⟩
      case measure => simp [intOf]; omega
    · have e : k = n := by omega
      subst e
      go_wp2
      go_ret
      exact ⟨rfl, by have := hrow.out; show _ = _; simpa [repC, mns] using this, hb⟩
end Go.Proofs.Yteaegmlnacnofaa
