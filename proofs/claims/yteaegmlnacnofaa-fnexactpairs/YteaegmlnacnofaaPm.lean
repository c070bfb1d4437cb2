import Derived.Test.YteaegmlnacnofaaK14
set_option linter.all false
set_option linter.unusedVariables false
namespace Go.Proofs.Yteaegmlnacnofaa
open Go.RowKit Go.Sort
/-- One instruction's step of pairing: the blocks that are open, and the pairs. -/
def pst (k : Nat) (op : Int) (s : List Nat × List (Int × Int)) : List Nat × List (Int × Int) :=
  if op = 2 ∨ op = 3 ∨ op = 4 then (s.1 ++ [k], s.2)
  else if op = 5 then (s.1, s.2.set (s.1.getLastD 0) ((s.2.getD (s.1.getLastD 0) (-1, -1)).1, (k : Int)))
  else if op = 11 then (if s.1 = [] then s else (s.1.dropLast, s.2.set (s.1.getLastD 0) ((k : Int), (s.2.getD (s.1.getLastD 0) (-1, -1)).2)))
  else s
def pat (xs : List In) : Nat → List Nat × List (Int × Int)
  | 0 => ([], List.replicate xs.length (-1, -1))
  | k + 1 => pst k (xs.getD k I0).op (pat xs k)
def nst (xs : List In) : Nat → List Bool
  | 0 => [false]
  | k + 1 => (stepM (nst xs k) (xs.getD k I0).op).getD []
structure PI (xs : List In) (k : Nat) : Prop where
  go : goM (nst xs k) (xs.drop k) = true
  hd : hdF (nst xs k)
  len : nst xs k ≠ [] → (nst xs k).length = (pat xs k).1.length + 1
  nil : nst xs k = [] → k = xs.length
  lt : ∀ j ∈ (pat xs k).1, j < k
  sz : (pat xs k).2.length = xs.length
  tl : ∀ j, k ≤ j → j < xs.length → (pat xs k).2[j]? = some (-1, -1)
theorem last_mem {l : List Nat} (h : l ≠ []) : l.getLastD 0 ∈ l := by
  rw [List.getLastD_eq_getLast?, List.getLast?_eq_some_getLast h]; simp
theorem pst_sz (k : Nat) (op : Int) (s : List Nat × List (Int × Int)) : (pst k op s).2.length = s.2.length := by
  unfold pst; split; rfl; split; simp; split; split; rfl; simp; rfl
theorem pst_len_le (k : Nat) (op : Int) (s : List Nat × List (Int × Int)) : (pst k op s).1.length ≤ s.1.length + 1 := by
  unfold pst; split; simp; split; simp; split; split; simp; simp; omega; simp
theorem stepM_hd {n n' : List Bool} {op : Int} (h : stepM n op = some n') (hd : hdF n) : hdF n' := by
  unfold stepM at h
  rcases hd with rfl | ⟨m, rfl⟩
  · simp at h
  · simp only [List.isEmpty_cons, Bool.false_eq_true, if_false] at h
    split at h
    · cases h; exact .inr ⟨m ++ [false], by simp⟩
    · split at h
      · cases h; exact .inr ⟨m ++ [true], by simp⟩
      · split at h
        · split at h
          · cases h
            cases m with
            | nil => exact .inr ⟨[], by simp⟩
            | cons a m => exact .inr ⟨(a :: m).dropLast ++ [false], by simp⟩
          · cases h
        · split at h
          · cases h
            cases m with
            | nil => exact .inl (by simp)
            | cons a m => exact .inr ⟨(a :: m).dropLast, by simp⟩
          · cases h; exact .inr ⟨m, rfl⟩
/-- What a step of a closed list is. -/
theorem pi_step {xs : List In} {k : Nat} (h : PI xs k) (hk : k < xs.length) : nst xs k ≠ [] ∧ stepM (nst xs k) (xs.getD k I0).op = some (nst xs (k + 1)) ∧ goM (nst xs (k + 1)) (xs.drop (k + 1)) = true := by
  have hn : nst xs k ≠ [] := fun e => by have := h.nil e; omega
  have hg := h.go
  rw [drop_cons xs k hk] at hg
  simp only [goM] at hg
  split at hg
  · cases hs : stepM (nst xs k) (xs.getD k I0).op with
    | none => rw [hs] at hg; simp at hg
    | some n' =>
      rw [hs] at hg
      have e : nst xs (k + 1) = n' := by show (stepM (nst xs k) (xs.getD k I0).op).getD [] = n'; rw [hs]; rfl
      rw [e]
      exact ⟨hn, rfl, hg⟩
  · cases hg
theorem pi_else {xs : List In} {k : Nat} (h : PI xs k) (hk : k < xs.length) (h5 : (xs.getD k I0).op = 5) : (pat xs k).1 ≠ [] := by
  obtain ⟨hn, hs, _⟩ := pi_step h hk
  intro e
  have hl := h.len hn
  rw [e] at hl
  obtain ⟨m, hm⟩ := h.hd.resolve_left hn
  rw [hm] at hl hs
  have : m = [] := List.eq_nil_of_length_eq_zero (by simpa using hl)
  subst this
  rw [h5] at hs
  simp [stepM] at hs
theorem pi_end {xs : List In} {k : Nat} (h : PI xs k) (hk : k + 1 < xs.length) (h11 : (xs.getD k I0).op = 11) : (pat xs k).1 ≠ [] := by
  obtain ⟨hn, hs, hg⟩ := pi_step h (by omega)
  intro e
  have hl := h.len hn
  rw [e] at hl
  obtain ⟨m, hm⟩ := h.hd.resolve_left hn
  rw [hm] at hl hs
  have : m = [] := List.eq_nil_of_length_eq_zero (by simpa using hl)
  subst this
  rw [h11] at hs
  simp [stepM] at hs
  rw [hs] at hg
  rw [drop_cons xs (k + 1) hk] at hg
  simp [goM, stepM] at hg
theorem nst_last {n n' : List Bool} {op : Int} (h : stepM n op = some n') (hd : hdF n) (he : n' = []) : op = 11 ∧ n = [false] := by
  subst he
  rcases hd with rfl | ⟨m, rfl⟩
  · simp [stepM] at h
  · unfold stepM at h
    simp only [List.isEmpty_cons, Bool.false_eq_true, if_false] at h
    split at h
    · simp at h
    · split at h
      · simp at h
      · split at h
        · split at h
          · simp at h
          · cases h
        · split at h
          · rename_i e
            refine ⟨e, ?_⟩
            cases m with
            | nil => rfl
            | cons a m => simp at h
          · simp at h
theorem pi_next {xs : List In} {k : Nat} (h : PI xs k) (hk : k < xs.length) : PI xs (k + 1) := by
  obtain ⟨hn, hs, hg⟩ := pi_step h hk
  have hl := h.len hn
  have hnil : nst xs (k + 1) = [] → k + 1 = xs.length := by
    intro e
    rw [e] at hg
    rcases Nat.lt_or_ge (k + 1) xs.length with hlt | hge
    · rw [drop_cons xs (k + 1) hlt] at hg
      simp [goM, stepM] at hg
    · omega
  refine ⟨hg, stepM_hd hs h.hd, ?_, hnil, ?_, ?_, ?_⟩
  · intro hne
    obtain ⟨m, hm⟩ := h.hd.resolve_left hn
    have hp : pat xs (k + 1) = pst k (xs.getD k I0).op (pat xs k) := rfl
    rw [hp]
    generalize nst xs (k + 1) = nn at hs hne ⊢
    unfold stepM at hs
    unfold pst
    rw [if_neg (by simp [hm])] at hs
    split at hs
    · rename_i e
      rw [if_pos (by omega)]
      cases hs; simp; omega
    · split at hs
      · rename_i e
        rw [if_pos (by omega)]
        cases hs; simp; omega
      · split at hs
        · rename_i e1 e2 e
          rw [if_neg (by omega), if_pos e]
          split at hs
          · cases hs; simp
            have : (nst xs k).length ≠ 0 := by rw [hl]; omega
            omega
          · cases hs
        · split at hs
          · rename_i e1 e2 e3 e
            have hne' : (pat xs k).1 ≠ [] := by
              intro e0
              rw [e0] at hl
              have : m = [] := List.eq_nil_of_length_eq_zero (by rw [hm] at hl; simpa using hl)
              cases hs; rw [hm, this] at hne; simp at hne
            rw [if_neg (by omega), if_neg (by omega), if_pos e, if_neg hne']
            cases hs; simp
            have := List.length_pos_iff.2 hne'
            omega
          · rename_i e1 e2 e3 e4
            rw [if_neg (by omega), if_neg (by omega), if_neg (by omega)]
            cases hs; exact hl
  · intro j hj
    have hp : pat xs (k + 1) = pst k (xs.getD k I0).op (pat xs k) := rfl
    rw [hp] at hj
    unfold pst at hj
    split at hj
    · simp only [List.mem_append, List.mem_singleton] at hj
      rcases hj with hj | hj
      · have := h.lt j hj; omega
      · omega
    · split at hj
      · have := h.lt j hj; omega
      · split at hj
        · split at hj
          · have := h.lt j hj; omega
          · have := h.lt j ((List.dropLast_sublist _).subset hj); omega
        · have := h.lt j hj; omega
  · exact (pst_sz _ _ _).trans h.sz
  · intro j hj hjl
    have hp : pat xs (k + 1) = pst k (xs.getD k I0).op (pat xs k) := rfl
    rw [hp]
    have h0 := h.tl j (by omega) hjl
    have hlast : ∀ (hne : (pat xs k).1 ≠ []), (pat xs k).1.getLastD 0 ≠ j := fun hne => by
      have := h.lt _ (last_mem hne); omega
    unfold pst
    split
    · exact h0
    · split
      · rename_i e
        rw [List.getElem?_set_ne (hlast (pi_else h hk e))]; exact h0
      · split
        · split
          · exact h0
          · rename_i hne
            rw [List.getElem?_set_ne (hlast hne)]; exact h0
        · exact h0
theorem pi_all {xs : List In} (hc : closedM xs = true) : ∀ k, k ≤ xs.length → PI xs k
  | 0, _ => ⟨(by simpa [nst, closedM] using hc), .inr ⟨[], rfl⟩, fun _ => by simp [nst, pat], fun e => by simp [nst] at e, fun j hj => by simp [pat] at hj, by simp [pat], fun j _ hj => by simp [pat, hj]⟩
  | k + 1, h => pi_next (pi_all hc k (by omega)) (by omega)
theorem closed_pos {xs : List In} (hc : closedM xs = true) : 0 < xs.length := by
  cases xs with
  | nil => simp [closedM, goM] at hc
  | cons x l => simp
theorem pi_last {xs : List In} {n : Nat} (hc : closedM xs = true) (hn : xs.length = n + 1) : (xs.getD n I0).op = 11 ∧ (pat xs n).1 = [] ∧ pat xs (n + 1) = pat xs n := by
  have h := pi_all hc n (by omega)
  obtain ⟨hne, hs, hg⟩ := pi_step h (by omega)
  rw [List.drop_of_length_le (by omega)] at hg
  have he : nst xs (n + 1) = [] := by simpa [goM] using hg
  obtain ⟨e, hf⟩ := nst_last hs h.hd he
  have hl := h.len hne
  rw [hf] at hl
  have e0 : (pat xs n).1 = [] := List.eq_nil_of_length_eq_zero (by simpa using hl.symm)
  refine ⟨e, e0, ?_⟩
  show pst n (xs.getD n I0).op (pat xs n) = _
  rw [e]
  simp [pst, e0]
/-- What both answer. -/
def pairsM (xs : List In) : List (Int × Int) := if closedM xs then (pat xs xs.length).2 else []
theorem pat_len {xs : List In} : ∀ k, (pat xs k).1.length ≤ k
  | 0 => by simp [pat]
  | k + 1 => Nat.le_trans (pst_len_le _ _ _) (by have := pat_len (xs := xs) k; omega)
end Go.Proofs.Yteaegmlnacnofaa
