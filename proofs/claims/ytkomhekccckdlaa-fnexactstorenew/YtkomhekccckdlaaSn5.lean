import Derived.Test.YtkomhekccckdlaaSn4
set_option linter.all false
set_option linter.unusedVariables false
namespace Go.Proofs.Ytkomhekccckdlaa
open Go.RowKit Go.Sort
set_option maxRecDepth 100000
def fF (a b c : Nat) (h0 h1 h2 h3 i0 i1 i2 i3 : Int) : F4 where
  h := fun k => [h0, h1, h2, h3].getD k 0
  i := fun k => [i0, i1, i2, i3].getD k 0
  pa := fun k => [some ⟨a, 0, none⟩, some ⟨b, 0, none⟩, none, none].getD k none
  pn := fun k => [1, 1, 0, 0].getD k 0
  ra := fun k => [none, none, some ⟨c, 0, none⟩, none].getD k none
  rn := fun k => [0, 0, 1, 0].getD k 0
theorem St.at {w : World} {f a b c : Nat} {h0 x0 i0 h1 x1 i1 h2 x2 i2 h3 i3 : Int} (h : St w f a b c h0 x0 i0 h1 x1 i1 h2 x2 i2 h3 i3) : ∀ k, k < 4 → (fF a b c h0 h1 h2 h3 i0 i1 i2 i3).At w f k := by
  intro k hk
  match k, hk with
  | 0, _ => exact ⟨h.F.2.1 0 _ rfl, h.F.2.1 1 _ rfl, h.F.2.1 2 _ rfl, h.F.2.1 3 _ rfl, h.F.2.1 4 _ rfl, h.F.2.1 5 _ rfl⟩
  | 1, _ => exact ⟨h.F.2.1 6 _ rfl, h.F.2.1 7 _ rfl, h.F.2.1 8 _ rfl, h.F.2.1 9 _ rfl, h.F.2.1 10 _ rfl, h.F.2.1 11 _ rfl⟩
  | 2, _ => exact ⟨h.F.2.1 12 _ rfl, h.F.2.1 13 _ rfl, h.F.2.1 14 _ rfl, h.F.2.1 15 _ rfl, h.F.2.1 16 _ rfl, h.F.2.1 17 _ rfl⟩
  | 3, _ => exact ⟨h.F.2.1 18 _ rfl, h.F.2.1 19 _ rfl, h.F.2.1 20 _ rfl, h.F.2.1 21 _ rfl, h.F.2.1 22 _ rfl, h.F.2.1 23 _ rfl⟩
theorem eqNew_c (f a b c f' a' b' c' : Nat) (h0 x0 i0 h1 x1 i1 h2 x2 i2 h3 i3 : Int) (w : World) (h : St w f a b c h0 x0 i0 h1 x1 i1 h2 x2 i2 h3 i3) (h' : St w f' a' b' c' h0 x0 i0 h1 x1 i1 h2 x2 i2 h3 i3) :
    Calls Try.prog 6 #[.agg #[.slice (some ⟨f, 0, none⟩) 4 4, .slice none 0 0, .slice none 0 0, .slice none 0 0, .slice none 0 0, .slice none 0 0, .slice none 0 0], .agg #[.slice (some ⟨f', 0, none⟩) 4 4, .slice none 0 0, .slice none 0 0, .slice none 0 0, .slice none 0 0, .slice none 0 0, .slice none 0 0]] w fun e w' => e = .returned (.bool true) ∧ Below w.heap.size w w' := by
  refine eqSt_c f f' w (fun W hW => eqFIs_c (fF a b c h0 h1 h2 h3 i0 i1 i2 i3) (fF a' b' c' h0 h1 h2 h3 i0 i1 i2 i3) f f' W (h.keep hW).at (h'.keep hW).at (fun k hk => by match k, hk with | 0, _ => exact ⟨rfl, rfl, rfl, rfl⟩ | 1, _ => exact ⟨rfl, rfl, rfl, rfl⟩ | 2, _ => exact ⟨rfl, rfl, rfl, rfl⟩ | 3, _ => exact ⟨rfl, rfl, rfl, rfl⟩) (fun k hk W' hb => ?_) (fun k hk W' hb => ?_))
  · have s := (h.keep hW).keep hb
    have s' := (h'.keep hW).keep hb
    match k, hk with
    | 0, _ => exact eqI_one a a' 1 1 x0 W' (s.A.2.1 0 _ rfl) (s'.A.2.1 0 _ rfl)
    | 1, _ => exact eqI_one b b' 1 1 x1 W' (s.B.2.1 0 _ rfl) (s'.B.2.1 0 _ rfl)
    | 2, _ => exact eqI_nil W'
    | 3, _ => exact eqI_nil W'
  · have s := (h.keep hW).keep hb
    have s' := (h'.keep hW).keep hb
    match k, hk with
    | 0, _ => exact eqI_nil W'
    | 1, _ => exact eqI_nil W'
    | 2, _ => exact eqI_one c c' 1 1 x2 W' (s.C.2.1 0 _ rfl) (s'.C.2.1 0 _ rfl)
    | 3, _ => exact eqI_nil W'
def qN (k : Nat) : Int := [1, 4, 7, 10, 12].getD k 0
def mN (k : Nat) : Int := [3, 6, 8, 11].getD k 0
def iN (k : Nat) : Int := [3, 6, 9, 11].getD k 0
theorem heldNew_c (f a b c : Nat) (w : World) (h : St w f a b c 1 2 3 4 5 6 7 8 9 10 11) :
    Calls Try.prog 8 #[.agg #[.slice (some ⟨f, 0, none⟩) 4 4, .slice none 0 0, .slice none 0 0, .slice none 0 0, .slice none 0 0, .slice none 0 0, .slice none 0 0], .int .i64 1] w fun e w' => e = .returned (.int .i64 12) ∧ Below w.heap.size w w' := by
  refine heldSt_c f 12 (by decide) w (fun W hW => ?_)
  have s := h.keep hW
  refine heldFIs_c (fF a b c 1 4 7 10 3 6 9 11) f W qN mN s.at (fun k hk => by match k, hk with | 0, _ => simp [fF, qN, mN] | 1, _ => simp [fF, qN, mN] | 2, _ => simp [fF, qN, mN] | 3, _ => simp [fF, qN, mN]) rfl (fun k hk => ?_) (fun k hk => ?_)
  · match k, hk with
    | 0, _ => exact heldI_one a 1 2 (by decide) (by decide) W (s.A.2.1 0 _ rfl)
    | 1, _ => exact heldI_one b 1 5 (by decide) (by decide) W (s.B.2.1 0 _ rfl)
    | 2, _ => exact heldI_nil 8 W
    | 3, _ => exact heldI_nil 11 W
  · match k, hk with
    | 0, _ => exact heldI_nil 3 W
    | 1, _ => exact heldI_nil 6 W
    | 2, _ => exact heldI_one c 1 8 (by decide) (by decide) W (s.C.2.1 0 _ rfl)
    | 3, _ => exact heldI_nil 11 W
/-- All but four blocks are as they were. -/
structure Fr (f a b c : Nat) (w w' : World) : Prop where
  os : w'.os = w.os
  tape : w'.tape = w.tape
  output : w'.output = w.output
  size : w.heap.size ≤ w'.heap.size
  block : ∀ j, j ≠ f → j ≠ a → j ≠ b → j ≠ c → j < w.heap.size → w'.heap[j]? = w.heap[j]?
theorem Fr.refl (f a b c : Nat) (w : World) : Fr f a b c w w := ⟨rfl, rfl, rfl, Nat.le_refl _, fun _ _ _ _ _ _ => rfl⟩
theorem Fr.set {f a b c g o : Nat} {v : Value} {w w' : World} (h : Fr f a b c w w') (hg : g = f ∨ g = a ∨ g = b ∨ g = c) : Fr f a b c w (w'.setCell ⟨g, o, none⟩ v) :=
  ⟨h.os, h.tape, h.output, by simpa using h.size, fun j h1 h2 h3 h4 hl => (Below.heap_setCell _ _ _ _ (fun e => by simp at e; rcases hg with r | r | r | r <;> subst r <;> first | exact h1 e.symm | exact h2 e.symm | exact h3 e.symm | exact h4 e.symm | exact h1 e | exact h2 e | exact h3 e | exact h4 e)).trans (h.block j h1 h2 h3 h4 hl)⟩
def Rm (f a b c : Nat) (w : World) : Nat → World → Prop
  | 0, W => St W f a b c 1 127 0 2 126 0 3 127 0 4 0 ∧ Fr f a b c w W
  | 1, W => St W f a b c 1 2 3 2 126 0 3 127 0 4 0 ∧ Fr f a b c w W
  | 2, W => St W f a b c 1 2 3 4 5 6 3 127 0 4 0 ∧ Fr f a b c w W
  | 3, W => St W f a b c 1 2 3 4 5 6 7 8 9 4 0 ∧ Fr f a b c w W
  | _, W => St W f a b c 1 2 3 4 5 6 7 8 9 10 11 ∧ Fr f a b c w W
theorem round0 (f a b c : Nat) (w W : World) (h : St W f a b c 1 127 0 2 126 0 3 127 0 4 0 ∧ Fr f a b c w W) : ∃ W1 W2 W3 W4, MkR f 0 (some ⟨a, 0, none⟩) none 1 0 1 3 3 W W1 W2 W3 W4 ∧ (St W4 f a b c 1 2 3 2 126 0 3 127 0 4 0 ∧ Fr f a b c w W4) := by
  obtain ⟨s, fr⟩ := h
  have s1 : St (W.setCell ⟨f, 0, none⟩ (.int .i64 1)) f a b c 1 127 0 2 126 0 3 127 0 4 0 := ⟨s.F.set (j := 0) (v := .int .i64 1), s.A.other s.fa, s.B.other s.fb, s.C.other s.fc, s.fa, s.fb, s.fc, s.ab, s.ac, s.bc⟩
  have s2 : St ((W.setCell ⟨f, 0, none⟩ (.int .i64 1)).setCell ⟨a, 0, none⟩ (.int .i64 2)) f a b c 1 2 0 2 126 0 3 127 0 4 0 := ⟨s1.F.other s1.fa.symm, s1.A.set (j := 0) (v := .int .i64 2), s1.B.other s1.ab, s1.C.other s1.ac, s1.fa, s1.fb, s1.fc, s1.ab, s1.ac, s1.bc⟩
  have s4 : St (((W.setCell ⟨f, 0, none⟩ (.int .i64 1)).setCell ⟨a, 0, none⟩ (.int .i64 2)).setCell ⟨f, 3, none⟩ (.int .i64 3)) f a b c 1 2 3 2 126 0 3 127 0 4 0 := ⟨s2.F.set (j := 3) (v := .int .i64 3), s2.A.other s2.fa, s2.B.other s2.fb, s2.C.other s2.fc, s2.fa, s2.fb, s2.fc, s2.ab, s2.ac, s2.bc⟩
  exact ⟨(W.setCell ⟨f, 0, none⟩ (.int .i64 1)), ((W.setCell ⟨f, 0, none⟩ (.int .i64 1)).setCell ⟨a, 0, none⟩ (.int .i64 2)), ((W.setCell ⟨f, 0, none⟩ (.int .i64 1)).setCell ⟨a, 0, none⟩ (.int .i64 2)), (((W.setCell ⟨f, 0, none⟩ (.int .i64 1)).setCell ⟨a, 0, none⟩ (.int .i64 2)).setCell ⟨f, 3, none⟩ (.int .i64 3)), ⟨rfl, ⟨_, s.F.2.1 0 _ rfl⟩, s.F.2.2 0, s1.F.2.1 1 _ rfl, (markI_one a 1 2 (by decide) (by decide) _ (W.setCell ⟨f, 0, none⟩ (.int .i64 1)) (s1.A.2.1 0 _ rfl) (s1.A.2.2 0)), s2.F.2.1 2 _ rfl, (markI_nil 3 ((W.setCell ⟨f, 0, none⟩ (.int .i64 1)).setCell ⟨a, 0, none⟩ (.int .i64 2))), ⟨_, s2.F.2.1 3 _ rfl⟩, s2.F.2.2 3, rfl, s4.F.2.1 4 _ rfl, s4.F.2.1 5 _ rfl⟩, s4, ((fr.set (.inl rfl)).set (.inr (.inl rfl))).set (.inl rfl)⟩
theorem round1 (f a b c : Nat) (w W : World) (h : St W f a b c 1 2 3 2 126 0 3 127 0 4 0 ∧ Fr f a b c w W) : ∃ W1 W2 W3 W4, MkR f 1 (some ⟨b, 0, none⟩) none 1 0 4 6 6 W W1 W2 W3 W4 ∧ (St W4 f a b c 1 2 3 4 5 6 3 127 0 4 0 ∧ Fr f a b c w W4) := by
  obtain ⟨s, fr⟩ := h
  have s1 : St (W.setCell ⟨f, 6, none⟩ (.int .i64 4)) f a b c 1 2 3 4 126 0 3 127 0 4 0 := ⟨s.F.set (j := 6) (v := .int .i64 4), s.A.other s.fa, s.B.other s.fb, s.C.other s.fc, s.fa, s.fb, s.fc, s.ab, s.ac, s.bc⟩
  have s2 : St ((W.setCell ⟨f, 6, none⟩ (.int .i64 4)).setCell ⟨b, 0, none⟩ (.int .i64 5)) f a b c 1 2 3 4 5 0 3 127 0 4 0 := ⟨s1.F.other s1.fb.symm, s1.A.other s1.ab.symm, s1.B.set (j := 0) (v := .int .i64 5), s1.C.other s1.bc, s1.fa, s1.fb, s1.fc, s1.ab, s1.ac, s1.bc⟩
  have s4 : St (((W.setCell ⟨f, 6, none⟩ (.int .i64 4)).setCell ⟨b, 0, none⟩ (.int .i64 5)).setCell ⟨f, 9, none⟩ (.int .i64 6)) f a b c 1 2 3 4 5 6 3 127 0 4 0 := ⟨s2.F.set (j := 9) (v := .int .i64 6), s2.A.other s2.fa, s2.B.other s2.fb, s2.C.other s2.fc, s2.fa, s2.fb, s2.fc, s2.ab, s2.ac, s2.bc⟩
  exact ⟨(W.setCell ⟨f, 6, none⟩ (.int .i64 4)), ((W.setCell ⟨f, 6, none⟩ (.int .i64 4)).setCell ⟨b, 0, none⟩ (.int .i64 5)), ((W.setCell ⟨f, 6, none⟩ (.int .i64 4)).setCell ⟨b, 0, none⟩ (.int .i64 5)), (((W.setCell ⟨f, 6, none⟩ (.int .i64 4)).setCell ⟨b, 0, none⟩ (.int .i64 5)).setCell ⟨f, 9, none⟩ (.int .i64 6)), ⟨rfl, ⟨_, s.F.2.1 6 _ rfl⟩, s.F.2.2 6, s1.F.2.1 7 _ rfl, (markI_one b 1 5 (by decide) (by decide) _ (W.setCell ⟨f, 6, none⟩ (.int .i64 4)) (s1.B.2.1 0 _ rfl) (s1.B.2.2 0)), s2.F.2.1 8 _ rfl, (markI_nil 6 ((W.setCell ⟨f, 6, none⟩ (.int .i64 4)).setCell ⟨b, 0, none⟩ (.int .i64 5))), ⟨_, s2.F.2.1 9 _ rfl⟩, s2.F.2.2 9, rfl, s4.F.2.1 10 _ rfl, s4.F.2.1 11 _ rfl⟩, s4, ((fr.set (.inl rfl)).set (.inr (.inr (.inl rfl)))).set (.inl rfl)⟩
theorem round2 (f a b c : Nat) (w W : World) (h : St W f a b c 1 2 3 4 5 6 3 127 0 4 0 ∧ Fr f a b c w W) : ∃ W1 W2 W3 W4, MkR f 2 none (some ⟨c, 0, none⟩) 0 1 7 8 9 W W1 W2 W3 W4 ∧ (St W4 f a b c 1 2 3 4 5 6 7 8 9 4 0 ∧ Fr f a b c w W4) := by
  obtain ⟨s, fr⟩ := h
  have s1 : St (W.setCell ⟨f, 12, none⟩ (.int .i64 7)) f a b c 1 2 3 4 5 6 7 127 0 4 0 := ⟨s.F.set (j := 12) (v := .int .i64 7), s.A.other s.fa, s.B.other s.fb, s.C.other s.fc, s.fa, s.fb, s.fc, s.ab, s.ac, s.bc⟩
  have s2 : St ((W.setCell ⟨f, 12, none⟩ (.int .i64 7)).setCell ⟨c, 0, none⟩ (.int .i64 8)) f a b c 1 2 3 4 5 6 7 8 0 4 0 := ⟨s1.F.other s1.fc.symm, s1.A.other s1.ac.symm, s1.B.other s1.bc.symm, s1.C.set (j := 0) (v := .int .i64 8), s1.fa, s1.fb, s1.fc, s1.ab, s1.ac, s1.bc⟩
  have s4 : St (((W.setCell ⟨f, 12, none⟩ (.int .i64 7)).setCell ⟨c, 0, none⟩ (.int .i64 8)).setCell ⟨f, 15, none⟩ (.int .i64 9)) f a b c 1 2 3 4 5 6 7 8 9 4 0 := ⟨s2.F.set (j := 15) (v := .int .i64 9), s2.A.other s2.fa, s2.B.other s2.fb, s2.C.other s2.fc, s2.fa, s2.fb, s2.fc, s2.ab, s2.ac, s2.bc⟩
  exact ⟨(W.setCell ⟨f, 12, none⟩ (.int .i64 7)), (W.setCell ⟨f, 12, none⟩ (.int .i64 7)), ((W.setCell ⟨f, 12, none⟩ (.int .i64 7)).setCell ⟨c, 0, none⟩ (.int .i64 8)), (((W.setCell ⟨f, 12, none⟩ (.int .i64 7)).setCell ⟨c, 0, none⟩ (.int .i64 8)).setCell ⟨f, 15, none⟩ (.int .i64 9)), ⟨rfl, ⟨_, s.F.2.1 12 _ rfl⟩, s.F.2.2 12, s1.F.2.1 13 _ rfl, (markI_nil 8 (W.setCell ⟨f, 12, none⟩ (.int .i64 7))), s1.F.2.1 14 _ rfl, (markI_one c 1 8 (by decide) (by decide) _ (W.setCell ⟨f, 12, none⟩ (.int .i64 7)) (s1.C.2.1 0 _ rfl) (s1.C.2.2 0)), ⟨_, s2.F.2.1 15 _ rfl⟩, s2.F.2.2 15, rfl, s4.F.2.1 16 _ rfl, s4.F.2.1 17 _ rfl⟩, s4, ((fr.set (.inl rfl)).set (.inr (.inr (.inr rfl)))).set (.inl rfl)⟩
theorem round3 (f a b c : Nat) (w W : World) (h : St W f a b c 1 2 3 4 5 6 7 8 9 4 0 ∧ Fr f a b c w W) : ∃ W1 W2 W3 W4, MkR f 3 none none 0 0 10 11 11 W W1 W2 W3 W4 ∧ (St W4 f a b c 1 2 3 4 5 6 7 8 9 10 11 ∧ Fr f a b c w W4) := by
  obtain ⟨s, fr⟩ := h
  have s1 : St (W.setCell ⟨f, 18, none⟩ (.int .i64 10)) f a b c 1 2 3 4 5 6 7 8 9 10 0 := ⟨s.F.set (j := 18) (v := .int .i64 10), s.A.other s.fa, s.B.other s.fb, s.C.other s.fc, s.fa, s.fb, s.fc, s.ab, s.ac, s.bc⟩
  have s2 := s1
  have s4 : St ((W.setCell ⟨f, 18, none⟩ (.int .i64 10)).setCell ⟨f, 21, none⟩ (.int .i64 11)) f a b c 1 2 3 4 5 6 7 8 9 10 11 := ⟨s2.F.set (j := 21) (v := .int .i64 11), s2.A.other s2.fa, s2.B.other s2.fb, s2.C.other s2.fc, s2.fa, s2.fb, s2.fc, s2.ab, s2.ac, s2.bc⟩
  exact ⟨(W.setCell ⟨f, 18, none⟩ (.int .i64 10)), (W.setCell ⟨f, 18, none⟩ (.int .i64 10)), (W.setCell ⟨f, 18, none⟩ (.int .i64 10)), ((W.setCell ⟨f, 18, none⟩ (.int .i64 10)).setCell ⟨f, 21, none⟩ (.int .i64 11)), ⟨rfl, ⟨_, s.F.2.1 18 _ rfl⟩, s.F.2.2 18, s1.F.2.1 19 _ rfl, (markI_nil 11 (W.setCell ⟨f, 18, none⟩ (.int .i64 10))), s1.F.2.1 20 _ rfl, (markI_nil 11 (W.setCell ⟨f, 18, none⟩ (.int .i64 10))), ⟨_, s2.F.2.1 21 _ rfl⟩, s2.F.2.2 21, rfl, s4.F.2.1 22 _ rfl, s4.F.2.1 23 _ rfl⟩, s4, (fr.set (.inl rfl)).set (.inl rfl)⟩
theorem markNew_c (f a b c : Nat) (w : World) (h : St w f a b c 1 127 0 2 126 0 3 127 0 4 0) :
    Calls Try.prog 7 #[.agg #[.slice (some ⟨f, 0, none⟩) 4 4, .slice none 0 0, .slice none 0 0, .slice none 0 0, .slice none 0 0, .slice none 0 0, .slice none 0 0], .int .i64 1] w fun e w' => e = .returned (.int .i64 12) ∧ (St w' f a b c 1 2 3 4 5 6 7 8 9 10 11 ∧ Fr f a b c (w.alloc (.cells #[.slice (some ⟨f, 0, none⟩) 4 4, .slice none 0 0, .slice none 0 0, .slice none 0 0, .slice none 0 0, .slice none 0 0, .slice none 0 0] 30)) w') := by
  have lt : f < w.heap.size ∧ a < w.heap.size ∧ b < w.heap.size ∧ c < w.heap.size := ⟨h.F.1, h.A.1, h.B.1, h.C.1⟩
  have s0 := h.keep ((Below.refl _ w).alloc (Nat.le_refl _) (.cells #[.slice (some ⟨f, 0, none⟩) 4 4, .slice none 0 0, .slice none 0 0, .slice none 0 0, .slice none 0 0, .slice none 0 0, .slice none 0 0] 30))
  refine markSt_c f 12 (by decide) w (fun w' => St w' f a b c 1 2 3 4 5 6 7 8 9 10 11 ∧ Fr f a b c (w.alloc (.cells #[.slice (some ⟨f, 0, none⟩) 4 4, .slice none 0 0, .slice none 0 0, .slice none 0 0, .slice none 0 0, .slice none 0 0, .slice none 0 0] 30)) w') (fun W hW => ?_) ?_
  · have e := hW.2.block w.heap.size (by omega) (by omega) (by omega) (by omega) (by simp)
    have B := Bk.new (w := w) (cs := [.slice (some ⟨f, 0, none⟩) 4 4, .slice none 0 0, .slice none 0 0, .slice none 0 0, .slice none 0 0, .slice none 0 0, .slice none 0 0]) (t := 30)
    exact ⟨by have := hW.2.size; simp at this; omega, fun j v hj => (World.cell?_of_block e).trans (B.2.1 j v hj), fun j => (World.frozen?_of_block e).trans (B.2.2 j)⟩
  · refine markFIs_c f _ qN mN iN (fun k => [some ⟨a, 0, none⟩, some ⟨b, 0, none⟩, none, none].getD k none) (fun k => [none, none, some ⟨c, 0, none⟩, none].getD k none) (fun k => [1, 1, 0, 0].getD k 0) (fun k => [0, 0, 1, 0].getD k 0) (Rm f a b c (w.alloc (.cells #[.slice (some ⟨f, 0, none⟩) 4 4, .slice none 0 0, .slice none 0 0, .slice none 0 0, .slice none 0 0, .slice none 0 0, .slice none 0 0] 30))) ⟨s0, Fr.refl _ _ _ _ _⟩ (fun k hk => by match k, hk with | 0, _ => decide | 1, _ => decide | 2, _ => decide | 3, _ => decide) rfl (fun k hk W hW => ?_)
    match k, hk with
    | 0, _ => exact round0 f a b c _ W hW
    | 1, _ => exact round1 f a b c _ W hW
    | 2, _ => exact round2 f a b c _ W hW
    | 3, _ => exact round3 f a b c _ W hW
end Go.Proofs.Ytkomhekccckdlaa
