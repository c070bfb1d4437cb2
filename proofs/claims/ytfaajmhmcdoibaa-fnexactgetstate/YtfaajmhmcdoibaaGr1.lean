import Derived.Test.YtfaajmhmcdoibaaBm1
import Derived.Test.YtfaajmhmcdoibaaWq1
set_option linter.all false
set_option linter.unusedVariables false
namespace Go.Proofs.Ytfaajmhmcdoibaa
open Go.RowKit Go.Sort
set_option maxRecDepth 100000
/-- What a reading does: what was written comes back; what is read is not more than what was there. -/
structure RP {α : Type} (e : α → List Int) (ok : α → Bool) (z : α) (sz : α → Nat) (K : Nat) (l : List Int) (b : Bool) (x : α) (l' : List Int) (b' : Bool) : Prop where
  mono : b = true → b' = true
  back : ∀ y rest, ok y = true → l = e y ++ rest → b = false → x = y ∧ l' = rest ∧ b' = false
  le : l'.length ≤ l.length
  lt : b' = false → sz x + l'.length < l.length
  szb : sz x + l'.length ≤ l.length + K
  stop : b = true → sz x = 0
  nil : l = [] → l' = [] ∧ x = z ∧ b' = true
  suf : ∃ n, l' = l.drop n
theorem RP.seq {α β : Type} {e1 : α → List Int} {e2 : β → List Int} {o1 : α → Bool} {o2 : β → Bool} {z1 : α} {z2 : β} {s1 : α → Nat} {s2 : β → Nat} {K : Nat} {l l1 l2 : List Int} {b b1 b2 : Bool} {x : α} {y : β}
    (h : RP e1 o1 z1 s1 K l b x l1 b1) (k : RP e2 o2 z2 s2 K l1 b1 y l2 b2) : RP (fun p : α × β => e1 p.1 ++ e2 p.2) (fun p => o1 p.1 && o2 p.2) (z1, z2) (fun p => s1 p.1 + s2 p.2) K l b (x, y) l2 b2 := by
  refine ⟨fun hb => k.mono (h.mono hb), fun p rest ho hl hb => ?_, by have := h.le; have := k.le; omega, fun hb => ?_, ?_, fun hb => ?_, fun hl => ?_, ?_⟩
  · simp only [Bool.and_eq_true] at ho
    obtain ⟨rfl, h2, h3⟩ := h.back p.1 (e2 p.2 ++ rest) ho.1 (by rw [hl, List.append_assoc]) hb
    obtain ⟨rfl, h4, h5⟩ := k.back p.2 rest ho.2 h2 h3
    exact ⟨rfl, h4, h5⟩
  · have hb1 : b1 = false := by
      cases hb1 : b1 with
      | false => rfl
      | true => rw [k.mono hb1] at hb; cases hb
    have := h.lt hb1
    have := k.lt hb
    show s1 x + s2 y + l2.length < l.length
    omega
  · show s1 x + s2 y + l2.length ≤ l.length + K
    cases hb1 : b1 with
    | false => have := h.lt hb1; have := k.szb; omega
    | true => have := k.stop hb1; have := h.szb; have := k.le; omega
  · show s1 x + s2 y = 0
    rw [h.stop hb, k.stop (h.mono hb)]
  · obtain ⟨h1, h2, h3⟩ := h.nil hl
    obtain ⟨h4, h5, h6⟩ := k.nil h1
    exact ⟨h4, by rw [h2, h5], h6⟩
  · obtain ⟨n, hn⟩ := h.suf
    obtain ⟨m, hm⟩ := k.suf
    exact ⟨n + m, by rw [hm, hn, List.drop_drop]⟩
theorem RP.iso {α β : Type} {e : α → List Int} {o : α → Bool} {z : α} {s : α → Nat} {K : Nat} {l l' : List Int} {b b' : Bool} {x : α} (h : RP e o z s K l b x l' b') (f : α → β) (g : β → α) (e' : β → List Int) (o' : β → Bool) (z' : β) (s' : β → Nat) (hfg : ∀ y, o' y = true → f (g y) = y) (he : ∀ y, e' y = e (g y)) (ho : ∀ y, o' y = o (g y)) (hz : f z = z') (hs : s' (f x) = s x) : RP e' o' z' s' K l b (f x) l' b' := by
  refine ⟨h.mono, fun y rest h1 h2 h3 => ?_, h.le, fun hb => by rw [hs]; exact h.lt hb, by rw [hs]; exact h.szb, fun hb => by rw [hs]; exact h.stop hb, fun hl => ?_, h.suf⟩
  · obtain ⟨h4, h5, h6⟩ := h.back (g y) rest (by rw [← ho]; exact h1) (by rw [← he]; exact h2) h3
    exact ⟨by rw [h4, hfg y h1], h5, h6⟩
  · obtain ⟨h1, h2, h3⟩ := h.nil hl
    exact ⟨h1, by rw [h2, hz], h3⟩
theorem RP.more {α : Type} {e : α → List Int} {o : α → Bool} {z : α} {s : α → Nat} {K K' : Nat} {l l' : List Int} {b b' : Bool} {x : α} (h : RP e o z s K l b x l' b') (hK : K ≤ K') : RP e o z s K' l b x l' b' :=
  ⟨h.mono, h.back, h.le, h.lt, by have := h.szb; omega, h.stop, h.nil, h.suf⟩
/-- The reading of a number. -/
def gn (l : List Int) : Int × Int × Int := By.getA false l 0 32
theorem getR_next (bs : List Int) (B : Int) (f : Nat) : ∀ (k : Nat) (acc : Int), 0 ≤ (By.getR false bs 0 B f k acc).2.2 ∧ (By.getR false bs 0 B f k acc).2.2 ≤ bs.length := by
  induction f with
  | zero => intro k acc; simp [By.getR]
  | succ f ih =>
    intro k acc
    rw [By.getR]
    split
    · simp
    · rename_i h
      split
      · simp only; omega
      · split
        · simp only; omega
        · split
          · simp only; omega
          · exact ih _ _
theorem getR_pos (bs : List Int) (f : Nat) : ∀ (d k : Nat) (acc : Int), k + d = 4 → (By.getR false bs 0 32 (f + d + 1) k acc).1 = 0 → 1 ≤ (By.getR false bs 0 32 (f + d + 1) k acc).2.2 := by
  intro d
  induction d with
  | zero =>
    intro k acc hk h0
    have ek : k = 4 := by omega
    subst ek
    rw [Nat.add_zero] at h0 ⊢
    rw [By.getR] at h0 ⊢
    split at h0
    · simp at h0
    · split at h0
      · simp at h0
      · split at h0
        · simp at h0
        · split at h0
          · rename_i h1 h2 h3 h4
            rw [if_neg h1, if_neg h2, if_neg h3, if_pos h4]
            simp only; omega
          · rename_i h1 h2 h3 h4
            exfalso
            apply h2
            refine ⟨by decide, by omega⟩
  | succ d ih =>
    intro k acc hk h0
    rw [show f + (d + 1) + 1 = (f + d + 1) + 1 by omega] at h0 ⊢
    rw [By.getR] at h0 ⊢
    split at h0
    · simp at h0
    · split at h0
      · simp at h0
      · split at h0
        · simp at h0
        · split at h0
          · rename_i h1 h2 h3 h4
            rw [if_neg h1, if_neg h2, if_neg h3, if_pos h4]
            simp only; omega
          · rename_i h1 h2 h3 h4
            rw [if_neg h1, if_neg h2, if_neg h3, if_neg h4]
            exact ih (k + 1) _ (by omega) h0
theorem getR_err (bs : List Int) (B : Int) (f : Nat) : ∀ (k : Nat) (acc : Int), (By.getR false bs 0 B f k acc).1 ≠ 0 → (By.getR false bs 0 B f k acc).2.1 = 0 := by
  induction f with
  | zero => intro k acc h; simp [By.getR] at h
  | succ f ih =>
    intro k acc
    rw [By.getR]
    split
    · simp
    · split
      · simp
      · split
        · simp
        · split
          · simp
          · exact ih _ _
theorem gn_eq (l : List Int) : gn l = By.getR false l 0 32 10 0 0 := by
  unfold gn By.getA
  rw [if_pos ⟨by omega, by omega⟩]
  rfl
theorem gn_next (l : List Int) : 0 ≤ (gn l).2.2 ∧ (gn l).2.2 ≤ l.length := by rw [gn_eq]; exact getR_next l 32 10 0 0
theorem gn_pos (l : List Int) (h : (gn l).1 = 0) : 1 ≤ (gn l).2.2 := by
  rw [gn_eq] at h ⊢
  exact getR_pos l 5 4 0 0 rfl h
theorem gn_err (l : List Int) (h : (gn l).1 ≠ 0) : (gn l).2.1 = 0 := by
  rw [gn_eq] at h ⊢
  exact getR_err l 32 10 0 0 h
theorem gn_back (n : Int) (rest : List Int) (h : u32B n = true) : gn (lebU 9 n ++ rest) = (0, n, ((lebU 9 n).length : Int)) := by
  simp only [u32B, Bool.and_eq_true, decide_eq_true_eq] at h
  rw [gn_eq]
  have e32 : By.P2 32 = 4294967296 := by decide
  have e0 : By.P2 (7 * ((0 : Nat) : Int)) = 1 := by decide
  have := (By.getU_gen (lebU 9 n ++ rest) 0 32 rest 9 9 0 n 0 rfl (fitU_start (by omega)) h.1 (by omega) (by omega) (by decide) (by omega) (by rw [e0]; decide)).1
  rw [e0, e32] at this
  have h2 := this (by omega)
  rw [h2]
  simp only [Prod.mk.injEq, true_and]
  refine ⟨by omega, ?_⟩
  simp
theorem gn_nil : gn [] = (1, 0, 0) := by rw [gn_eq]; simp [By.getR]
def rnV (l : List Int) : Int := IntKind.i64.wrap (gn l).2.1
def rnL (l : List Int) : List Int := l.drop (gn l).2.2.toNat
def rnB (l : List Int) (b : Bool) : Bool := b || (gn l).1 != 0
theorem rn_rp (l : List Int) (b : Bool) : RP (fun n => numsE [n]) u32B 0 (fun _ => 0) 0 l b (rnV l) (rnL l) (rnB l b) := by
  have hn := gn_next l
  have hlen : (rnL l).length = l.length - (gn l).2.2.toNat := by unfold rnL; simp
  refine ⟨fun h => by rw [h]; rfl, fun n rest ho hl hb => ?_, by omega, fun hb => ?_, by omega, fun _ => rfl, fun hl => ?_, ⟨_, rfl⟩⟩
  · have hl' : l = lebU 9 n ++ rest := by rw [hl]; simp [numsE]
    have hg := gn_back n rest ho
    rw [← hl'] at hg
    simp only [u32B, Bool.and_eq_true, decide_eq_true_eq] at ho
    refine ⟨?_, ?_, ?_⟩
    · unfold rnV; rw [hg]; show IntKind.i64.wrap n = n; rw [IntKind.wrap_i64]; omega
    · unfold rnL; rw [hg, hl']; simp
    · unfold rnB; rw [hg, hb]; rfl
  · have h0 : (gn l).1 = 0 := by
      unfold rnB at hb
      cases b
      · simpa using hb
      · cases hb
    have := gn_pos l h0
    omega
  · subst hl
    refine ⟨by simp [rnL], ?_, ?_⟩
    · unfold rnV; rw [gn_nil]; rfl
    · unfold rnB; rw [gn_nil]; cases b <;> rfl
/-- The number of these bytes, the lowest first. -/
def unx (l : List Int) : Nat → Int
  | 0 => 0
  | k + 1 => unx l k + l.getD k 0 * 2 ^ (8 * k)
theorem emod_mul' (v P : Int) (hP : 0 < P) : v % (P * 256) = v % P + v / P % 256 * P := by
  rw [Int.emod_def v (P * 256), Int.emod_def v P, Int.emod_def (v / P) 256, ← Int.ediv_ediv_of_nonneg (Int.le_of_lt hP)]
  generalize v / P = q
  generalize q / 256 = r
  rw [Int.sub_mul, Int.mul_comm q P, Int.mul_assoc 256 r P, Int.mul_comm r P, Int.mul_assoc P 256 r, Int.mul_left_comm P 256 r]
  omega
theorem unx_fx (v : Int) (n : Nat) (rest : List Int) : ∀ k, k ≤ n → unx (fx n v ++ rest) k = v % 2 ^ (8 * k) := by
  intro k
  induction k with
  | zero => intro _; simp [unx]
  | succ k ih =>
    intro hk
    have hd : (fx n v ++ rest).getD k 0 = v / 2 ^ (8 * k) % 256 := by
      have hkl : k < (fx n v ++ rest).length := by simp [fx_len]; omega
      simp [List.getD, fx, List.getElem?_append, hk]
      rw [if_pos (by omega)]
      simp [show k < n by omega]
    rw [unx, ih (by omega), hd]
    have e : (2 : Int) ^ (8 * (k + 1)) = 2 ^ (8 * k) * 256 := by rw [show 8 * (k + 1) = 8 * k + 8 by omega, Int.pow_add]; rfl
    rw [e]
    exact (emod_mul' v _ (Int.pow_pos (by decide))).symm
def rwV (l : List Int) (k : Nat) : Int := if k ≤ l.length then unx l k else 0
def rwL (l : List Int) (k : Nat) : List Int := if k ≤ l.length then l.drop k else l
def rwB (l : List Int) (k : Nat) (b : Bool) : Bool := b || !decide (k ≤ l.length)
theorem rw_rp (l : List Int) (b : Bool) : RP (fun v => fx 8 v) (fun v => decide (0 ≤ v) && decide (v ≤ 18446744073709551615)) 0 (fun _ => 0) 0 l b (rwV l 8) (rwL l 8) (rwB l 8 b) := by
  have hlen : (rwL l 8).length ≤ l.length := by unfold rwL; split <;> simp
  refine ⟨fun h => by rw [h]; rfl, fun v rest ho hl hb => ?_, hlen, fun hb => ?_, by omega, fun _ => rfl, fun hl => ?_, ?_⟩
  · simp only [Bool.and_eq_true, decide_eq_true_eq] at ho
    have h8 : 8 ≤ l.length := by rw [hl]; simp [fx_len]
    refine ⟨?_, ?_, ?_⟩
    · unfold rwV; rw [if_pos h8, hl, unx_fx v 8 rest 8 (by omega)]; show v % 18446744073709551616 = v; omega
    · unfold rwL; rw [if_pos h8, hl]; exact List.drop_left' (fx_len 8 v)
    · unfold rwB; rw [hb, decide_eq_true h8]; rfl
  · have h8 : 8 ≤ l.length := by
      unfold rwB at hb
      cases b
      · simpa using hb
      · cases hb
    unfold rwL
    rw [if_pos h8]
    simp
    omega
  · subst hl
    refine ⟨rfl, rfl, ?_⟩
    cases b <;> rfl
  · unfold rwL
    split
    · exact ⟨8, rfl⟩
    · exact ⟨0, rfl⟩
theorem rf_rp (l : List Int) (b : Bool) (hB : ∀ i, 0 ≤ l.getD i 0) : RP flB (fun _ => true) false (fun _ => 0) 0 l b (rwV l 1 != 0) (rwL l 1) (rwB l 1 b) := by
  have hlen : (rwL l 1).length ≤ l.length := by unfold rwL; split <;> simp
  refine ⟨fun h => by rw [h]; rfl, fun v rest ho hl hb => ?_, hlen, fun hb => ?_, by omega, fun _ => rfl, fun hl => ?_, ?_⟩
  · have h1 : 1 ≤ l.length := by rw [hl]; simp [flB]
    refine ⟨?_, ?_, ?_⟩
    · unfold rwV; rw [if_pos h1, hl]; cases v <;> simp [flB, unx]
    · unfold rwL; rw [if_pos h1, hl]; simp [flB]
    · unfold rwB; rw [hb, decide_eq_true h1]; rfl
  · have h1 : 1 ≤ l.length := by
      unfold rwB at hb
      cases b
      · simpa using hb
      · cases hb
    unfold rwL
    rw [if_pos h1]
    simp
    omega
  · subst hl
    refine ⟨rfl, rfl, ?_⟩
    cases b <;> rfl
  · unfold rwL
    split
    · exact ⟨1, rfl⟩
    · exact ⟨0, rfl⟩
/-- A list, k entries of which have been read. -/
structure LI {α : Type} (e : α → List Int) (ok : α → Bool) (sz : α → Nat) (K : Nat) (l : List Int) (b : Bool) (n : Int) (xs : List α) (l' : List Int) (b' : Bool) : Prop where
  mono : b = true → b' = true
  back : ∀ ys rest, listO ok ys = true → l = listE e ys ++ rest → b = false → n = (ys.length : Int) ∧ b' = false ∧ xs = ys.take xs.length ∧ l' = (ys.drop xs.length).flatMap e ++ rest
  le : l'.length ≤ l.length
  lt : b' = false → xs.length + (xs.map sz).sum + l'.length < l.length
  szb : xs.length + (xs.map sz).sum + l'.length ≤ l.length + (K + 1)
  stop : b = true → xs = []
  nil : l = [] → l' = [] ∧ xs = [] ∧ b' = true
  suf : ∃ n, l' = l.drop n
theorem LI.start {α : Type} (e : α → List Int) (ok : α → Bool) (sz : α → Nat) (K : Nat) {l l' : List Int} {b b' : Bool} {n : Int} (h : RP (fun n => numsE [n]) u32B 0 (fun _ => 0) 0 l b n l' b') : LI e ok sz K l b n [] l' b' := by
  refine ⟨h.mono, fun ys rest ho hl hb => ?_, h.le, fun hb => by have := h.lt hb; simpa using this, by have := h.le; simp; omega, fun _ => rfl, fun hl => ?_, h.suf⟩
  · have ho1 : u32B (ys.length : Int) = true := by
      simp only [listO, numsO, List.all_cons, List.all_nil, Bool.and_true, Bool.and_eq_true] at ho
      exact ho.1
    obtain ⟨h1, h2, h3⟩ := h.back (ys.length : Int) (ys.flatMap e ++ rest) ho1 (by rw [hl]; simp [listE]) hb
    exact ⟨h1, h3, rfl, by simpa using h2⟩
  · obtain ⟨h1, h2, h3⟩ := h.nil hl
    exact ⟨h1, rfl, h3⟩
theorem LI.next {α : Type} {e : α → List Int} {ok : α → Bool} {z : α} {sz : α → Nat} {K : Nat} {l l1 l2 : List Int} {b b2 : Bool} {n : Int} {xs : List α} {x : α} (h : LI e ok sz K l b n xs l1 false) (k : RP e ok z sz K l1 false x l2 b2) (hlt : (xs.length : Int) < n) : LI e ok sz K l b n (xs ++ [x]) l2 b2 := by
  have hsum : ((xs ++ [x]).map sz).sum = (xs.map sz).sum + sz x := by simp
  have hlen : (xs ++ [x]).length = xs.length + 1 := by simp
  have h1 := h.lt rfl
  have h2 := h.le
  refine ⟨fun hb => ?_, fun ys rest ho hl hb => ?_, by have := k.le; omega, fun hb => ?_, ?_, fun hb => ?_, fun hl => ?_, ?_⟩
  · have := h.mono hb; cases this
  · obtain ⟨g1, g2, g3, g4⟩ := h.back ys rest ho hl hb
    have hk : xs.length < ys.length := by omega
    have hd : ys.drop xs.length = ys.getD xs.length z :: ys.drop (xs.length + 1) := by
      rw [List.drop_eq_getElem_cons hk]; simp [List.getD, hk]
    have hok : ok (ys.getD xs.length z) = true := by
      simp only [listO, Bool.and_eq_true, List.all_eq_true] at ho
      exact ho.2 _ (by rw [List.getD_eq_getElem?_getD, List.getElem?_eq_getElem hk]; exact List.getElem_mem hk)
    rw [hd, List.flatMap_cons, List.append_assoc] at g4
    obtain ⟨q1, q2, q3⟩ := k.back _ _ hok g4 rfl
    refine ⟨g1, q3, ?_, by rw [hlen]; exact q2⟩
    rw [hlen, take_snoc z ys _ hk, ← g3, q1]
  · have := k.lt hb
    rw [hsum, hlen]; omega
  · have := k.szb
    rw [hsum, hlen]; omega
  · have := h.mono hb; cases this
  · obtain ⟨_, _, g⟩ := h.nil hl; cases g
  · obtain ⟨m, hm⟩ := h.suf
    obtain ⟨m', hm'⟩ := k.suf
    exact ⟨m + m', by rw [hm', hm, List.drop_drop]⟩
theorem LI.done {α : Type} {e : α → List Int} {ok : α → Bool} {sz : α → Nat} {K : Nat} {l l1 : List Int} {b b1 : Bool} {n : Int} {xs : List α} (h : LI e ok sz K l b n xs l1 b1) (hd : b1 = true ∨ n ≤ (xs.length : Int)) : RP (listE e) (listO ok) [] (fun l => l.length + (l.map sz).sum) (K + 1) l b xs l1 b1 := by
  refine ⟨h.mono, fun ys rest ho hl hb => ?_, h.le, h.lt, h.szb, fun hb => by rw [h.stop hb]; rfl, h.nil, h.suf⟩
  obtain ⟨g1, g2, g3, g4⟩ := h.back ys rest ho hl hb
  have hle : ys.length ≤ xs.length := by
    rcases hd with hd | hd
    · rw [hd] at g2; cases g2
    · omega
  refine ⟨by rw [g3, List.take_of_length_le hle], ?_, g2⟩
  rw [g4, List.drop_of_length_le hle]; rfl
end Go.Proofs.Ytfaajmhmcdoibaa
