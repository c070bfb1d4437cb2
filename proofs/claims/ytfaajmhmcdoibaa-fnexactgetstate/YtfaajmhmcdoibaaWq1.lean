import Derived.Test.YtfaajmhmcdoibaaRq1
import Derived.Test.YtfaajmhmcdoibaaMath
set_option linter.all false
set_option linter.unusedVariables false
namespace Go.Proofs.Ytfaajmhmcdoibaa
open Go.RowKit Go.Sort
set_option maxRecDepth 100000
/-- The first k bytes of a number, the lowest first. -/
def fx (k : Nat) (v : Int) : List Int := (List.range k).map fun i => v / 2 ^ (8 * i) % 256
theorem fx_succ (k : Nat) (v : Int) : fx (k + 1) v = fx k v ++ [v / 2 ^ (8 * k) % 256] := by simp [fx, List.range_succ]
theorem fx_len (k : Nat) (v : Int) : (fx k v).length = k := by simp [fx]
theorem wrap_byte (y : Int) : wrap64 y % 256 = y % 256 := by unfold wrap64; omega
def flB (b : Bool) : List Int := [if b then 1 else 0]
def u32B (n : Int) : Bool := decide (0 ≤ n) && decide (n ≤ 4294967295)
def numsE (l : List Int) : List Int := l.flatMap (lebU 9)
def numsO (l : List Int) : Bool := l.all u32B
def listE {α : Type} (e : α → List Int) (l : List α) : List Int := numsE [(l.length : Int)] ++ l.flatMap e
def listO {α : Type} (o : α → Bool) (l : List α) : Bool := numsO [(l.length : Int)] && l.all o
def labE (x : Lab) : List Int := numsE [x.pc, x.ar, x.ht] ++ flB x.lp
def labO (x : Lab) : Bool := numsO [x.pc, x.ar, x.ht] && true
def frmE (x : Frm) : List Int := numsE [x.fn, x.pc] ++ (listE (fx 8) x.loc ++ (numsE [x.ht] ++ listE labE x.labs))
def frmO (x : Frm) : Bool := numsO [x.fn, x.pc] && (listO (fun _ => true) x.loc && (numsO [x.ht] && listO labO x.labs))
def staE (x : Sta) : List Int := numsE [x.st, x.tr] ++ (listE (fx 8) x.stk ++ listE frmE x.frs)
def staO (x : Sta) : Bool := numsO [x.st, x.tr] && (listO (fun _ => true) x.stk && listO frmO x.frs)
def listC {α : Type} (c : α → Nat) (l : List α) : Nat := 10 + (l.map c).sum
def labC (_ : Lab) : Nat := 30 + 1
def frmC (x : Frm) : Nat := 20 + (listC (fun _ => 8) x.loc + (10 + listC labC x.labs))
def staC (x : Sta) : Nat := 20 + (listC (fun _ => 8) x.stk + listC frmC x.frs)
def IM : Nat := 1000000
/-- Nothing comes of it any more. -/
def stk (xs : List Int) (b : Bool) : Bool := b || decide (IM < xs.length)
/-- What a writing does: it is stuck exactly if it was, or a number has no place, or there is too much; and else the bytes stand there. -/
structure Wp (xs : List Int) (b : Bool) (xs' : List Int) (b' : Bool) (ok : Bool) (ys : List Int) (c : Nat) : Prop where
  st : stk xs' b' = (stk xs b || !ok || decide (IM < xs.length + ys.length))
  eq : stk xs' b' = false → xs' = xs ++ ys
  le : xs'.length ≤ xs.length + c
theorem Wp.refl (xs : List Int) (b : Bool) : Wp xs b xs b true [] 0 := ⟨by cases b <;> simp [stk], fun _ => by simp, by omega⟩
theorem bool_t1 (s o1 o2 : Bool) (n m k : Nat) (h : true = (s || !o1 || decide (IM < n + m))) (o3 : Bool) : true = (s || !(o1 && o2) || decide (IM < n + (m + k))) := by
  revert h
  cases s <;> cases o1 <;> cases o2 <;> simp only [Bool.true_or, Bool.false_or, Bool.not_true, Bool.not_false, Bool.and_true, Bool.and_false, Bool.true_and, Bool.false_and, Bool.or_true, Bool.or_false, implies_true]
  intro h
  exact (decide_eq_true (by have := of_decide_eq_true h.symm; omega)).symm
theorem bool_f1 (s o1 o2 : Bool) (n m k : Nat) (h : false = (s || !o1 || decide (IM < n + m))) : (false || !o2 || decide (IM < n + m + k)) = (s || !(o1 && o2) || decide (IM < n + (m + k))) := by
  revert h
  cases s <;> cases o1 <;> cases o2 <;> simp only [Bool.true_or, Bool.false_or, Bool.not_true, Bool.not_false, Bool.and_true, Bool.and_false, Bool.true_and, Bool.false_and, Bool.or_true, Bool.or_false, implies_true, Nat.add_assoc] <;> intro h <;> cases h
theorem Wp.trans {xs xs1 xs2 ys1 ys2 : List Int} {b b1 b2 o1 o2 : Bool} {c1 c2 : Nat} (h : Wp xs b xs1 b1 o1 ys1 c1) (k : Wp xs1 b1 xs2 b2 o2 ys2 c2) : Wp xs b xs2 b2 (o1 && o2) (ys1 ++ ys2) (c1 + c2) := by
  refine ⟨?_, fun e => ?_, by have := h.le; have := k.le; omega⟩
  · rw [k.st]
    have hst := h.st
    cases hs : stk xs1 b1 with
    | true =>
      rw [hs] at hst
      rw [Bool.true_or, Bool.true_or, List.length_append]
      exact bool_t1 _ _ _ _ _ _ hst true
    | false =>
      have e := h.eq hs
      rw [hs] at hst
      rw [e, List.length_append, List.length_append]
      exact bool_f1 _ _ _ _ _ _ hst
  · have : stk xs1 b1 = false := by
      have hk := k.st
      rw [e] at hk
      cases hs : stk xs1 b1 with
      | false => rfl
      | true => rw [hs, Bool.true_or, Bool.true_or] at hk; cases hk
    rw [k.eq e, h.eq this, List.append_assoc]
theorem Wp.skip {xs xs1 ys1 : List Int} {b b1 o1 : Bool} {c1 : Nat} (h : Wp xs b xs1 b1 o1 ys1 c1) (hs : stk xs1 b1 = true) (o2 : Bool) (ys2 : List Int) (c2 : Nat) : Wp xs b xs1 b1 (o1 && o2) (ys1 ++ ys2) (c1 + c2) := by
  refine ⟨?_, fun e => (by rw [hs] at e; cases e), by have := h.le; omega⟩
  have hst := h.st
  rw [hs] at hst ⊢
  rw [List.length_append]
  exact bool_t1 _ _ _ _ _ _ hst true
theorem Wp.cost {xs xs1 ys1 : List Int} {b b1 o1 : Bool} {c1 c2 : Nat} (h : Wp xs b xs1 b1 o1 ys1 c1) (hc : c1 ≤ c2) : Wp xs b xs1 b1 o1 ys1 c2 := ⟨h.st, h.eq, by have := h.le; omega⟩
theorem Wp.bytes (xs ys : List Int) (b : Bool) (c : Nat) (hc : ys.length ≤ c) : Wp xs b (xs ++ ys) b true ys c := by
  refine ⟨?_, fun _ => rfl, by simp; omega⟩
  unfold stk
  rw [List.length_append]
  cases b
  · simp only [Bool.false_or, Bool.not_true, Bool.or_false]
    by_cases h : IM < xs.length
    · rw [decide_eq_true h, Bool.true_or, decide_eq_true (by omega)]
    · rw [decide_eq_false h, Bool.false_or]
  · rfl
/-- A number that has no place, or one that has. -/
theorem Wp.num (xs ys : List Int) (b : Bool) (n : Int) (hl : ys.length ≤ 10) (he : u32B n = true → ys = lebU 9 n) : Wp xs b (xs ++ ys) (b || !u32B n) (numsO [n]) (numsE [n]) 10 := by
  cases hu : u32B n with
  | true =>
    rw [he hu] at hl ⊢
    have := Wp.bytes xs (lebU 9 n) b 10 hl
    simpa [numsO, numsE, hu] using this
  | false =>
    refine ⟨?_, fun e => ?_, by simp; omega⟩
    · have e : numsO [n] = false := by simp [numsO, hu]
      rw [e]
      cases b <;> cases stk xs _ <;> rfl
    · cases b <;> cases e
/-- .. or is not written at all. -/
theorem Wp.none (xs : List Int) (ok : Bool) (ys : List Int) (b : Bool) (h : stk xs b = true ∨ ok = false) : Wp xs b xs true ok ys 10 := by
  refine ⟨?_, fun e => ?_, by omega⟩
  · rcases h with h | h
    · rw [h]; rfl
    · rw [h]; cases stk xs b <;> rfl
  · cases e
theorem numsE_cons (n : Int) (l : List Int) : numsE (n :: l) = numsE [n] ++ numsE l := by simp [numsE]
theorem numsO_cons (n : Int) (l : List Int) : numsO (n :: l) = (numsO [n] && numsO l) := by simp [numsO]
theorem numsE_snoc (n : Int) (l : List Int) : numsE (l ++ [n]) = numsE l ++ numsE [n] := by simp [numsE]
theorem numsO_snoc (n : Int) (l : List Int) : numsO (l ++ [n]) = (numsO l && numsO [n]) := by simp [numsO]
theorem take_snoc {α : Type} (z : α) (l : List α) (k : Nat) (h : k < l.length) : l.take (k + 1) = l.take k ++ [l.getD k z] := by
  rw [List.take_succ_eq_append_getElem h]; simp [List.getD, h]
theorem flat_step {α : Type} (z : α) (e : α → List Int) (l : List α) (k : Nat) (h : k < l.length) : (l.take (k + 1)).flatMap e = (l.take k).flatMap e ++ e (l.getD k z) := by
  rw [take_snoc z l k h, List.flatMap_append]; simp
theorem all_step {α : Type} (z : α) (o : α → Bool) (l : List α) (k : Nat) (h : k < l.length) : (l.take (k + 1)).all o = ((l.take k).all o && o (l.getD k z)) := by
  rw [take_snoc z l k h, List.all_append]; simp
theorem sum_step' {α : Type} (z : α) (c : α → Nat) (l : List α) (k : Nat) (h : k < l.length) : ((l.take (k + 1)).map c).sum = ((l.take k).map c).sum + c (l.getD k z) := by
  rw [take_snoc z l k h, List.map_append, List.sum_append]; simp
theorem flat_split {α : Type} (e : α → List Int) (l : List α) (k : Nat) : l.flatMap e = (l.take k).flatMap e ++ (l.drop k).flatMap e := by
  rw [← List.flatMap_append, List.take_append_drop]
theorem all_split {α : Type} (o : α → Bool) (l : List α) (k : Nat) : l.all o = ((l.take k).all o && (l.drop k).all o) := by
  rw [← List.all_append, List.take_append_drop]
theorem sum_split {α : Type} (c : α → Nat) (l : List α) (k : Nat) : (l.map c).sum = ((l.take k).map c).sum + ((l.drop k).map c).sum := by
  rw [← List.sum_append, ← List.map_append, List.take_append_drop]
/-- A list that was left behind k entries, for it was stuck. -/
theorem Wp.left {α : Type} {e : α → List Int} {o : α → Bool} {c : α → Nat} {l : List α} {k : Nat} {xs xs1 : List Int} {b b1 : Bool} (h : Wp xs b xs1 b1 (numsO [(l.length : Int)] && (l.take k).all o) (numsE [(l.length : Int)] ++ (l.take k).flatMap e) (10 + ((l.take k).map c).sum)) (hs : stk xs1 b1 = true) : Wp xs b xs1 b1 (listO o l) (listE e l) (listC c l) := by
  have := h.skip hs ((l.drop k).all o) ((l.drop k).flatMap e) ((l.drop k).map c).sum
  unfold listO listE listC
  rw [all_split o l k, flat_split e l k, sum_split c l k, ← Bool.and_assoc, ← List.append_assoc, ← Nat.add_assoc]
  exact this
/-- .. and one that was walked through. -/
theorem Wp.full {α : Type} {e : α → List Int} {o : α → Bool} {c : α → Nat} {l : List α} {xs xs1 : List Int} {b b1 : Bool} (h : Wp xs b xs1 b1 (numsO [(l.length : Int)] && (l.take l.length).all o) (numsE [(l.length : Int)] ++ (l.take l.length).flatMap e) (10 + ((l.take l.length).map c).sum)) : Wp xs b xs1 b1 (listO o l) (listE e l) (listC c l) := by
  rw [List.take_length] at h; exact h
theorem Wp.next {α : Type} (z : α) {e : α → List Int} {o : α → Bool} {c : α → Nat} {l : List α} {k : Nat} {xs xs1 xs2 : List Int} {b b1 b2 : Bool} (hk : k < l.length) (h : Wp xs b xs1 b1 (numsO [(l.length : Int)] && (l.take k).all o) (numsE [(l.length : Int)] ++ (l.take k).flatMap e) (10 + ((l.take k).map c).sum)) (h2 : Wp xs1 b1 xs2 b2 (o (l.getD k z)) (e (l.getD k z)) (c (l.getD k z))) : Wp xs b xs2 b2 (numsO [(l.length : Int)] && (l.take (k + 1)).all o) (numsE [(l.length : Int)] ++ (l.take (k + 1)).flatMap e) (10 + ((l.take (k + 1)).map c).sum) := by
  have := h.trans h2
  rw [all_step z o l k hk, flat_step z e l k hk, sum_step' z c l k hk, ← Bool.and_assoc, ← List.append_assoc, ← Nat.add_assoc]
  exact this
end Go.Proofs.Ytfaajmhmcdoibaa
