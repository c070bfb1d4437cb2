import Derived.Test.YtfaajmhmcdoibaaGm9
import Derived.Test.YtfaajmhmcdoibaaWq11
import Derived.Laws.BytesArg
import Derived.Lib.Bytes
set_option linter.all false
set_option linter.unusedVariables false
namespace Go.Proofs.Ytfaajmhmcdoibaa
open Go.RowKit Go.Sort
set_option maxRecDepth 100000
/-- An entry of a row of entries of one length. -/
theorem flat_at {α : Type} (f : α → List Value) (n : Nat) (hf : ∀ x, (f x).length = n) (z : α) : ∀ (l : List α) (i j : Nat), i < l.length → j < n → (l.flatMap f)[i * n + j]? = (f (l.getD i z))[j]? := by
  intro l
  induction l with
  | nil => intro i j hi; simp at hi
  | cons x l ih =>
    intro i j hi hj
    rw [List.flatMap_cons]
    cases i with
    | zero => rw [Nat.zero_mul, Nat.zero_add, List.getElem?_append_left (by rw [hf]; exact hj)]; rfl
    | succ i =>
      have e : (i + 1) * n + j = n + (i * n + j) := by rw [Nat.add_mul, Nat.one_mul]; omega
      rw [e, List.getElem?_append_right (by rw [hf]; omega), hf, Nat.add_sub_cancel_left]
      have hi' : i < l.length := by simp at hi; omega
      rw [ih i j hi' hj]
      simp [List.getD]
theorem mul_lt_of' {i n k j : Nat} (hi : i < k) (hj : j < n) : i * n + j < k * n := by
  have : (i + 1) * n ≤ k * n := Nat.mul_le_mul_right _ hi
  rw [Nat.add_mul, Nat.one_mul] at this
  omega
theorem row_at {w : World} {A e n g cap k : Nat} {α : Type} {f : α → List Value} {l : List α} (z : α) (hf : ∀ x, (f x).length = n) (hk : k = l.length) (h : w.ownsRow A e n (.slice (some ⟨g, 0, none⟩) k cap) k (l.flatMap f)) (i j : Nat) (hi : i < l.length) (hj : j < n) : w.cell? ⟨g, i * n + j, none⟩ = (f (l.getD i z))[j]? := by
  subst hk
  rw [h.cellAt (i * n + j) (mul_lt_of' hi hj), flat_at f n hf z l i j hi hj]
theorem row_words {w : World} {A : Nat} {v : Value} {l : List Int} (h : w.ownsRow A 85 1 v l.length (l.flatMap ceW)) : ∃ a c, v = .slice a l.length c ∧ HI .u64 0 w a l := by
  obtain ⟨a, c, rfl⟩ := ownS_slice h
  refine ⟨a, c, rfl, ?_⟩
  rcases h.2 with ⟨_, h0⟩ | ⟨g, cap, cur, hv, _⟩
  · exact .inl (List.eq_nil_of_length_eq_zero h0)
  · injection hv with h1 _ h3
    subst h1 h3
    refine .inr ⟨g, 0, rfl, Nat.zero_le _, fun i hi => ?_⟩
    have := row_at (f := ceW) (n := 1) 0 (fun _ => rfl) rfl h i 0 hi (by omega)
    simpa [ceW] using this
theorem row_labs {w : World} {A : Nat} {v : Value} {l : List Lab} (h : w.ownsRow A 56 4 v l.length (l.flatMap ceL)) : ∃ a c, v = .slice a l.length c ∧ Lab.Ls 0 w a l := by
  obtain ⟨a, c, rfl⟩ := ownS_slice h
  refine ⟨a, c, rfl, ?_⟩
  rcases h.2 with ⟨_, h0⟩ | ⟨g, cap, cur, hv, _⟩
  · exact .inl (List.eq_nil_of_length_eq_zero h0)
  · injection hv with h1 _ h3
    subst h1 h3
    refine .inr ⟨g, 0, rfl, Nat.zero_le _, fun i hi => ?_⟩
    have q := fun j (hj : j < 4) => row_at (f := ceL) (n := 4) Lab.z (fun _ => rfl) rfl h i j hi hj
    rw [Nat.zero_add]
    refine ⟨⟨?_, ?_, ?_, ?_⟩, trivial⟩
    · simpa [ceL] using q 0 (by omega)
    · simpa [ceL] using q 1 (by omega)
    · simpa [ceL] using q 2 (by omega)
    · simpa [ceL] using q 3 (by omega)
theorem map_getD (xs : List (Frm × Value × Value)) (i : Nat) (hi : i < xs.length) : (xs.map (·.1)).getD i Frm.z = (xs.getD i zF).1 := by
  simp [List.getD, hi]
theorem row_frms {w : World} {A B : Nat} {v : Value} {vb : Option Nat} {xs : List (Frm × Value × Value)} (h : w.ownsRow A 54 5 v xs.length (xs.flatMap ceF)) (hf : FsI w B vb xs) : ∃ a c, v = .slice a (xs.map (·.1)).length c ∧ Frm.Ls 0 w a (xs.map (·.1)) := by
  obtain ⟨a, c, rfl⟩ := ownS_slice h
  refine ⟨a, c, by simp, ?_⟩
  rcases h.2 with ⟨_, h0⟩ | ⟨g, cap, cur, hv, _⟩
  · exact .inl (by rw [List.eq_nil_of_length_eq_zero h0]; rfl)
  · injection hv with h1 _ h3
    subst h1 h3
    refine .inr ⟨g, 0, rfl, Nat.zero_le _, fun i hi => ?_⟩
    have hi' : i < xs.length := by simpa using hi
    have q := fun j (hj : j < 5) => row_at (f := ceF) (n := 5) zF (fun _ => rfl) rfl h i j hi' hj
    rw [Nat.zero_add, map_getD xs i hi']
    obtain ⟨bd, _, _, b3⟩ := hf
    obtain ⟨M, ⟨m1, m2, _⟩, _, _⟩ := b3 i hi'
    obtain ⟨a1, c1, e1, k1⟩ := row_words m1
    obtain ⟨a2, c2, e2, k2⟩ := row_labs m2
    refine ⟨a1, c1, a2, c2, ⟨?_, ?_, ?_, ?_, ?_⟩, k1, k2⟩
    · simpa [ceF] using q 0 (by omega)
    · simpa [ceF] using q 1 (by omega)
    · rw [q 2 (by omega), ← e1]; rfl
    · simpa [ceF] using q 3 (by omega)
    · rw [q 4 (by omega), ← e2]; rfl
theorem StH.is {w : World} {A M : Nat} {ws : List Int} {xs : List (Frm × Value × Value)} {v1 v2 : Value} (h : StH w A M ws xs v1 v2) (st tr : Int) : ∃ a1 c1 a2 c2, v1 = .slice a1 ws.length c1 ∧ v2 = .slice a2 (xs.map (·.1)).length c2 ∧ Sta.Is 0 w ⟨st, tr, ws, xs.map (·.1)⟩ a1 a2 := by
  obtain ⟨a1, c1, e1, k1⟩ := row_words h.1
  obtain ⟨a2, c2, e2, k2⟩ := row_frms h.2.1 h.2.2.1
  exact ⟨a1, c1, a2, c2, e1, e2, k1, k2⟩
theorem StH.vs {w : World} {A M : Nat} {ws : List Int} {xs : List (Frm × Value × Value)} {v1 v2 : Value} (h : StH w A M ws xs v1 v2) (st tr : Int) : (⟨st, tr, ws, xs.map (·.1)⟩ : Sta).Vs := by
  have mem : ∀ (l : List Int) j, j < l.length → l.getD j 0 ∈ l := fun l j hj => by
    rw [List.getD_eq_getElem?_getD, List.getElem?_eq_getElem hj]; exact List.getElem_mem hj
  refine ⟨fun j hj => h.2.2.2.2.2 _ (mem ws j hj), fun i hi j hj => ?_⟩
  have hi' : i < xs.length := by simpa using hi
  obtain ⟨bd, _, _, b3⟩ := h.2.2.1
  obtain ⟨M, _, _, hr⟩ := b3 i hi'
  simp only at hj ⊢
  rw [map_getD xs i hi'] at hj ⊢
  exact hr _ (mem _ j hj)
theorem zsum {α : Type} (l : List α) : (l.map fun _ => 0).sum = 0 := by
  induction l with
  | nil => rfl
  | cons x l ih => simp only [List.map_cons, List.sum_cons, ih]
theorem sz_sSz (x : Sta) : Sta.sz x = sSz x := by
  have e : ∀ f : Frm, Frm.sz f = fSz f := fun f => by simp only [Frm.sz, fSz, wSz, lSz, zsum]; omega
  have : (x.frs.map Frm.sz) = x.frs.map fSz := List.map_congr_left (fun f _ => e f)
  simp only [Sta.sz, sSz, wSz, zsum, this]
  omega
theorem sum_ge {α : Type} (f : α → Nat) (z : α) (l : List α) (i : Nat) (hi : i < l.length) : f (l.getD i z) ≤ (l.map f).sum := by
  have := sum_step' z f l i hi
  have h2 := sum_split f l (i + 1)
  omega
theorem lb_of (x : Sta) (n : Nat) (h : sSz x ≤ n) : Sta.LB n x := by
  simp only [sSz, wSz, zsum] at h
  refine ⟨by omega, by omega, fun i hi => ?_⟩
  have := sum_ge fSz Frm.z x.frs i hi
  simp only [fSz, wSz, lSz, zsum] at this
  generalize x.frs.getD i Frm.z = f at *
  refine ⟨by omega, by omega, fun _ _ => trivial⟩
theorem strn_inj {a b : List Int} (ha : ∀ x ∈ a, 0 ≤ x ∧ x ≤ 255) (hb : ∀ x ∈ b, 0 ≤ x ∧ x ≤ 255) (h : strOfNums a = strOfNums b) : a = b := by
  have h2 : a.map (fun n => UInt8.ofNat n.toNat) = b.map (fun n => UInt8.ofNat n.toNat) := by
    have := congrArg (fun q : ByteArray => q.data.toList) h
    simpa [strOfNums_data] using this
  clear h
  induction a generalizing b with
  | nil => cases b with
    | nil => rfl
    | cons y b => simp at h2
  | cons x a ih =>
    cases b with
    | nil => simp at h2
    | cons y b =>
      simp only [List.map_cons, List.cons.injEq] at h2
      have hx := ha x (by simp)
      have hy := hb y (by simp)
      have e : x.toNat = y.toNat := by
        have := congrArg UInt8.toNat h2.1
        simpa [UInt8.toNat_ofNat, Nat.mod_eq_of_lt (show x.toNat < 256 by omega), Nat.mod_eq_of_lt (show y.toNat < 256 by omega)] using this
      rw [show x = y by omega, ih (fun z hz => ha z (by simp [hz])) (fun z hz => hb z (by simp [hz])) h2.2]
end Go.Proofs.Ytfaajmhmcdoibaa
