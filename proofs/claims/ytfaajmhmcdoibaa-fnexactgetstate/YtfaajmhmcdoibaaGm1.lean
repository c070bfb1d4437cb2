import Derived.Test.YtfaajmhmcdoibaaGW
import Derived.Test.YtfaajmhmcdoibaaGr1
import Derived.Test.YtfaajmhmcdoibaaWq5
set_option linter.all false
set_option linter.unusedVariables false
namespace Go.Proofs.Ytfaajmhmcdoibaa
open Go.RowKit Go.Sort
set_option maxRecDepth 100000
/-- Only the reader's block R, the cells lo .. hi of block ab and new blocks have changed. -/
structure Ch (R ab lo hi : Nat) (w w' : World) : Prop where
  os : w'.os = w.os
  tape : w'.tape = w.tape
  output : w'.output = w.output
  size : w.heap.size ≤ w'.heap.size
  block : ∀ k, k < w.heap.size → k ≠ R → k ≠ ab → w'.heap[k]? = w.heap[k]?
  row : ∀ cur t, w.heap[ab]? = some (.cells cur t (0, 0)) → ∃ cur', w'.heap[ab]? = some (.cells cur' t (0, 0)) ∧ cur'.size = cur.size ∧ ∀ j, (j < lo ∨ hi ≤ j) → cur'[j]? = cur[j]?
theorem Ch.refl (R ab lo hi : Nat) (w : World) : Ch R ab lo hi w w := ⟨rfl, rfl, rfl, Nat.le_refl _, fun _ _ _ _ => rfl, fun cur t h => ⟨cur, h, rfl, fun _ _ => rfl⟩⟩
theorem Ch.wide {R ab lo hi lo' hi' : Nat} {w w' : World} (h : Ch R ab lo hi w w') (h1 : lo' ≤ lo) (h2 : hi ≤ hi') : Ch R ab lo' hi' w w' :=
  ⟨h.os, h.tape, h.output, h.size, h.block, fun cur t hc => by
    obtain ⟨c, h3, h4, h5⟩ := h.row cur t hc
    exact ⟨c, h3, h4, fun j hj => h5 j (by omega)⟩⟩
theorem Ch.trans {R ab lo hi : Nat} {a b c : World} (h : Ch R ab lo hi a b) (k : Ch R ab lo hi b c) : Ch R ab lo hi a c :=
  ⟨k.os.trans h.os, k.tape.trans h.tape, k.output.trans h.output, Nat.le_trans h.size k.size, fun i hi h1 h2 => (k.block i (Nat.lt_of_lt_of_le hi h.size) h1 h2).trans (h.block i hi h1 h2), fun cur t hc => by
    obtain ⟨c1, h3, h4, h5⟩ := h.row cur t hc
    obtain ⟨c2, g3, g4, g5⟩ := k.row c1 t h3
    exact ⟨c2, g3, g4.trans h4, fun j hj => (g5 j hj).trans (h5 j hj)⟩⟩
theorem Ch.of_below {R ab lo hi : Nat} {w w' : World} (h : Below w.heap.size w w') (hab : ab < w.heap.size) : Ch R ab lo hi w w' :=
  ⟨h.os, h.tape, h.output, h.size, fun k hk _ _ => h.block k hk, fun cur t hc => ⟨cur, (h.block ab hab).trans hc, rfl, fun _ _ => rfl⟩⟩
/-- A block of its own, with room for n cells. -/
def Ro (w : World) (ab n : Nat) : Prop := ∃ cur t, w.heap[ab]? = some (.cells cur t (0, 0)) ∧ n ≤ cur.size
theorem Ro.lt {w : World} {ab n : Nat} (h : Ro w ab n) : ab < w.heap.size := by
  obtain ⟨cur, t, h, _⟩ := h
  rcases Nat.lt_or_ge ab w.heap.size with h' | h'
  · exact h'
  · rw [Array.getElem?_eq_none h'] at h; cases h
theorem Ro.ch {w w' : World} {R ab n lo hi : Nat} (h : Ro w ab n) (k : Ch R ab lo hi w w') : Ro w' ab n := by
  obtain ⟨cur, t, h1, h2⟩ := h
  obtain ⟨c, h3, h4, _⟩ := k.row cur t h1
  exact ⟨c, t, h3, by omega⟩
theorem Ro.cell {w : World} {ab n j : Nat} (h : Ro w ab n) (hj : j < n) : ∃ u, w.cell? ⟨ab, j, none⟩ = some u := by
  obtain ⟨cur, t, h1, h2⟩ := h
  exact ⟨cur[j]'(by omega), by simp [World.cell?, h1, show j < cur.size by omega]⟩
theorem Ro.frozen {w : World} {ab n : Nat} (h : Ro w ab n) (j : Nat) : w.frozen? ⟨ab, j, none⟩ = false := by
  obtain ⟨cur, t, h1, h2⟩ := h
  simp only [World.frozen?, h1]; simp
theorem Ch.cell {R ab lo hi n : Nat} {w w' : World} (h : Ch R ab lo hi w w') (hr : Ro w ab n) {j : Nat} (hj : j < lo ∨ hi ≤ j) : w'.cell? ⟨ab, j, none⟩ = w.cell? ⟨ab, j, none⟩ := by
  obtain ⟨cur, t, h1, h2⟩ := hr
  obtain ⟨c, h3, h4, h5⟩ := h.row cur t h1
  have := h5 j hj
  simp only [World.cell?, h1, h3]
  exact this
theorem Ch.set {R ab lo hi o : Nat} (w : World) (v : Value) (h1 : lo ≤ o) (h2 : o < hi) : Ch R ab lo hi w (w.setCell ⟨ab, o, none⟩ v) := by
  refine ⟨rfl, rfl, rfl, by simp, fun k _ _ hk => Below.heap_setCell _ _ _ _ hk, fun cur t hc => ⟨cur.setIfInBounds o v, ?_, by simp, fun j hj => ?_⟩⟩
  · simp only [World.setCell, Array.getElem?_modify, if_true, hc, Option.map_some]
    rfl
  · rw [Array.getElem?_setIfInBounds_ne (by omega)]
theorem Ch.setR {R ab lo hi o : Nat} (w : World) (v : Value) (hne : R ≠ ab) : Ch R ab lo hi w (w.setCell ⟨R, o, none⟩ v) :=
  ⟨rfl, rfl, rfl, by simp, fun k _ hk _ => Below.heap_setCell _ _ _ _ hk, fun cur t hc => ⟨cur, (Below.heap_setCell _ _ _ _ hne.symm).trans hc, rfl, fun _ _ => rfl⟩⟩
/-- A reader at block R: these bytes are left, in memory that was there in w0. -/
def Rb (w0 w : World) (R : Nat) (l : List Int) (b : Bool) : Prop := ∃ ab ao c, w.cell? ⟨R, 0, none⟩ = some (.slice (some ⟨ab, ao, none⟩) l.length c) ∧ w.cell? ⟨R, 1, none⟩ = some (.bool b) ∧ (∀ j, w.frozen? ⟨R, j, none⟩ = false) ∧ l.length ≤ c ∧ c ≤ 1099511627776 ∧ (∀ i, i < l.length → w0.cell? ⟨ab, ao + i, none⟩ = some (.int .u8 (l.getD i 0))) ∧ AllB l ∧ Below w0.heap.size w0 w ∧ w0.heap.size ≤ R
theorem Rb.len {w0 w : World} {R : Nat} {l : List Int} {b : Bool} (h : Rb w0 w R l b) : l.length ≤ 1099511627776 := by
  obtain ⟨ab, ao, c, -, -, -, h1, h2, -⟩ := h; omega
theorem Rb.allB {w0 w : World} {R : Nat} {l : List Int} {b : Bool} (h : Rb w0 w R l b) : AllB l := by
  obtain ⟨ab, ao, c, -, -, -, h1, h2, -, h3, -⟩ := h; exact h3
theorem Rb.pos {w0 w : World} {R : Nat} {l : List Int} {b : Bool} (h : Rb w0 w R l b) : R < w.heap.size := by
  obtain ⟨ab, ao, c, h1, -⟩ := h; exact World.block_lt_of_cell? w _ h1
theorem Rb.ge {w0 w : World} {R : Nat} {l : List Int} {b : Bool} (h : Rb w0 w R l b) : w0.heap.size ≤ R := by
  obtain ⟨ab, ao, c, -, -, -, -, -, -, -, -, h1⟩ := h; exact h1
theorem Rb.bel {w0 w : World} {R : Nat} {l : List Int} {b : Bool} (h : Rb w0 w R l b) : Below w0.heap.size w0 w := by
  obtain ⟨ab, ao, c, -, -, -, -, -, -, -, h1, -⟩ := h; exact h1
theorem Rb.below {w0 w w' : World} {R : Nat} {l : List Int} {b : Bool} (h : Rb w0 w R l b) (hb : Below w.heap.size w w') : Rb w0 w' R l b := by
  have hp := h.pos
  obtain ⟨ab, ao, c, h1, h2, h3, h4, h5, h6, h7, h8, h9⟩ := h
  exact ⟨ab, ao, c, (hb.cell (p := ⟨R, 0, none⟩) hp).trans h1, (hb.cell (p := ⟨R, 1, none⟩) hp).trans h2, fun j => (hb.frozen (p := ⟨R, j, none⟩) hp).trans (h3 j), h4, h5, h6, h7, h8.trans (hb.mono h8.size), h9⟩
theorem Rb.set {w0 w : World} {R : Nat} {l : List Int} {b : Bool} (h : Rb w0 w R l b) {g o : Nat} (hg : g ≠ R) (hg0 : w0.heap.size ≤ g) (v : Value) : Rb w0 (w.setCell ⟨g, o, none⟩ v) R l b := by
  obtain ⟨ab, ao, c, h1, h2, h3, h4, h5, h6, h7, h8, h9⟩ := h
  have hne : ∀ j, (⟨g, o, none⟩ : Addr) ≠ ⟨R, j, none⟩ := fun j e => hg (congrArg Addr.block e)
  refine ⟨ab, ao, c, ?_, ?_, fun j => by rw [World.frozen?_setCell]; exact h3 j, h4, h5, h6, h7, h8.setCell hg0 v, h9⟩
  · rw [World.cell?_setCell_other _ _ _ _ (hne 0)]; exact h1
  · rw [World.cell?_setCell_other _ _ _ _ (hne 1)]; exact h2
theorem Rb.flag {w0 w : World} {R : Nat} {l : List Int} {b : Bool} (h : Rb w0 w R l b) (b' : Bool) : Rb w0 (w.setCell ⟨R, 1, none⟩ (.bool b')) R l b' := by
  obtain ⟨ab, ao, c, h1, h2, h3, h4, h5, h6, h7, h8, h9⟩ := h
  exact ⟨ab, ao, c, set_off h1 (by omega), set_same h2, fun j => by rw [World.frozen?_setCell]; exact h3 j, h4, h5, h6, h7, h8.setCell h9 _, h9⟩
theorem allB_drop {l : List Int} (h : AllB l) (n : Nat) : AllB (l.drop n) := by
  intro i
  have : (l.drop n).getD i 0 = l.getD (n + i) 0 := by simp [List.getD]
  rw [this]; exact h _
theorem allB_take {l : List Int} (h : AllB l) (n : Nat) : AllB (l.take n) := by
  intro i
  by_cases hi : i < n
  · have : (l.take n).getD i 0 = l.getD i 0 := by simp [List.getD, List.getElem?_take, hi]
    rw [this]; exact h _
  · have : (l.take n).getD i 0 = 0 := by simp [List.getD, List.getElem?_take, hi]
    rw [this]; omega
/-- The reader goes on. -/
theorem Rb.drop {w0 w : World} {R : Nat} {l : List Int} {b : Bool} {ab ao c : Nat} (h0 : w.cell? ⟨R, 0, none⟩ = some (.slice (some ⟨ab, ao, none⟩) l.length c)) (h : w.cell? ⟨R, 1, none⟩ = some (.bool b) ∧ (∀ j, w.frozen? ⟨R, j, none⟩ = false) ∧ l.length ≤ c ∧ c ≤ 1099511627776 ∧ (∀ i, i < l.length → w0.cell? ⟨ab, ao + i, none⟩ = some (.int .u8 (l.getD i 0))) ∧ AllB l ∧ Below w0.heap.size w0 w ∧ w0.heap.size ≤ R) (n : Nat) (hn : n ≤ l.length) (ao' c' : Nat) (ha : c = n ∨ ao' = ao + n) (hc' : c' = c - n) : Rb w0 (w.setCell ⟨R, 0, none⟩ (.slice (some ⟨ab, ao', none⟩) (l.length - n) c')) R (l.drop n) b := by
  subst hc'
  obtain ⟨h2, h3, h4, h5, h6, h7, h8, h9⟩ := h
  refine ⟨ab, ao', c - n, by rw [List.length_drop]; exact set_same h0, set_off h2 (by omega), fun j => by rw [World.frozen?_setCell]; exact h3 j, by simp; omega, by omega, fun i hi => ?_, allB_drop h7 n, h8.setCell h9 _, h9⟩
  have hi' : n + i < l.length := by simp at hi; omega
  have e : (l.drop n).getD i 0 = l.getD (n + i) 0 := by simp [List.getD]
  rw [e]
  rcases ha with ha | ha
  · omega
  · rw [ha, Nat.add_assoc]; exact h6 (n + i) hi'
theorem rstk_c (w0 : World) (R : Nat) (l : List Int) (b : Bool) (w : World) (hR : Rb w0 w R l b) :
    Calls Try.prog 92 #[.pointer (some ⟨R, 0, none⟩)] w fun e w' => e = .returned (.bool b) ∧ w = w' := by
  obtain ⟨ab, ao, c, h1, h2, h3, h4, h5, h6, h7, h8, h9⟩ := hR
  clear h3 h6 h7 h8
  go_enter Try.func92, Try.ntmps92
  go_wp2
  go_ret
  exact ⟨rfl, rfl⟩
/-- What was taken. -/
def TkP (w0 w : World) (R : Nat) (l : List Int) (b : Bool) (k : Nat) (v : Value) (w' : World) : Prop := (∃ a n c q, v = .slice a n c ∧ n = q.length ∧ By.Has w0 a q ∧ q = (if k ≤ l.length then l.take k else [])) ∧ Rb w0 w' R (rwL l k) (rwB l k b) ∧ (∀ ab lo hi, R ≠ ab → Ch R ab lo hi w w')
set_option maxHeartbeats 1000000 in
theorem take_c (w0 : World) (R : Nat) (l : List Int) (b : Bool) (k : Nat) (w : World) (hk : k ≤ 8) (hR : Rb w0 w R l b) :
    Calls Try.prog 95 #[.pointer (some ⟨R, 0, none⟩), .int .i64 (k : Int)] w fun e w' => ∃ v, e = .returned v ∧ TkP w0 w R l b k v w' := by
  have HR := Hid.mk' hR
  obtain ⟨ab, ao, c, h1, h2, h3, h4, h5, h6, h7, h8, h9⟩ := hR
  have f0 := h3 0
  have f1 := h3 1
  by_cases hl : k ≤ l.length
  · have hi : ¬ (k : Int) > (l.length : Int) := by omega
    have HD := Hid.mk' (fun ao' c' ha hc => Rb.drop h1 ⟨h2, h3, h4, h5, h6, h7, h8, h9⟩ k hl ao' c' ha hc)
    have HH : Hid (By.Has w0 (some ⟨ab, ao, none⟩) (l.take k)) := .inr ⟨ab, ao, rfl, fun i hi => by
      have hi' : i < k := by simp at hi; omega
      have e : (l.take k).getD i 0 = l.getD i 0 := by simp [List.getD, List.getElem?_take, hi']
      rw [e]; exact h6 i (by omega)⟩
    have hkc : k ≤ c := by omega
    clear h3 h6 h7 h8
    go_enter Try.func95, Try.ntmps95
    go_wp2
    all_goals
      go_ret
      refine ⟨_, rfl, ⟨_, _, _, l.take k, rfl, by simp; omega, HH.out, by rw [if_pos hl]⟩, ?_, fun ab lo hi hne => Ch.setR _ _ hne⟩
      unfold rwL rwB
      rw [if_pos hl, decide_eq_true hl, Bool.not_true, Bool.or_false]
      exact HD.out _ _ (by omega) (by omega)
  · have hi : (k : Int) > (l.length : Int) := by omega
    have HD := Hid.mk' (HR.out.flag true)
    clear h3 h6 h7 h8
    go_enter Try.func95, Try.ntmps95
    go_wp2
    go_ret
    exact ⟨_, rfl, ⟨_, _, _, [], rfl, rfl, .inl rfl, by rw [if_neg hl]⟩, by unfold rwL rwB; rw [if_neg hl, decide_eq_false hl]; simpa using HD.out, fun ab lo hi hne => Ch.setR _ _ hne⟩
end Go.Proofs.Ytfaajmhmcdoibaa
