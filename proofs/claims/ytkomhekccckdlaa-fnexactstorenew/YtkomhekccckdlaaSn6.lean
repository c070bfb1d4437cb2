import Derived.Test.YtkomhekccckdlaaSn5
set_option linter.all false
set_option linter.unusedVariables false
namespace Go.Proofs.Ytkomhekccckdlaa
open Go.RowKit Go.Sort
set_option maxRecDepth 100000
theorem Bk.fr {W W' : World} {o : Obj} {g f a b c : Nat} {cs : List Value} (h : Bk W g cs) (r : Fr f a b c (W.alloc o) W') (hf : g ≠ f) (ha : g ≠ a) (hb : g ≠ b) (hc : g ≠ c) : Bk W' g cs := by
  have p := h.past (o := o)
  have e := r.block g hf ha hb hc p.1
  exact ⟨Nat.lt_of_lt_of_le p.1 r.size, fun j v hj => (World.cell?_of_block e).trans (p.2.1 j v hj), fun j => (World.frozen?_of_block e).trans (p.2.2 j)⟩
theorem below_fr {B : Nat} {w W W' : World} {o : Obj} {f a b c : Nat} (h : Below B w W) (hB : B ≤ w.heap.size) (r : Fr f a b c (W.alloc o) W') (hf : B ≤ f) (ha : B ≤ a) (hb : B ≤ b) (hc : B ≤ c) : Below B w W' := by
  have h2 := h.alloc (by have := h.size; omega) o
  exact ⟨r.os.trans h2.os, r.tape.trans h2.tape, r.output.trans h2.output, Nat.le_trans h2.size r.size, fun k hk => (r.block k (by omega) (by omega) (by omega) (by omega) (by have := h2.size; omega)).trans (h2.block k hk)⟩
/-- What is known of both stores along the law. -/
structure Two (w W : World) (f a b c t f' a' b' c' t' : Nat) (x0 x1 x2 x3 x4 x5 x6 x7 x8 x9 x10 : Int) : Prop where
  s : St W f a b c 1 127 0 2 126 0 3 127 0 4 0
  s' : St W f' a' b' c' x0 x1 x2 x3 x4 x5 x6 x7 x8 x9 x10
  k : Bk W t [.slice (some ⟨f, 0, none⟩) 4 4, .slice none 0 0, .slice none 0 0, .slice none 0 0, .slice none 0 0, .slice none 0 0, .slice none 0 0]
  k' : Bk W t' [.slice (some ⟨f', 0, none⟩) 4 4, .slice none 0 0, .slice none 0 0, .slice none 0 0, .slice none 0 0, .slice none 0 0, .slice none 0 0]
  lo : Below w.heap.size w W
  l1 : w.heap.size ≤ f'
  l2 : w.heap.size ≤ a'
  l3 : w.heap.size ≤ b'
  l4 : w.heap.size ≤ c'
  u : ∀ g, g = f ∨ g = a ∨ g = b ∨ g = c ∨ g = t → g < f' ∧ g < a' ∧ g < b' ∧ g < c'
  u' : f' < t' ∧ a' < t' ∧ b' < t' ∧ c' < t'
theorem Two.keep {w W W' : World} {f a b c t f' a' b' c' t' : Nat} {x0 x1 x2 x3 x4 x5 x6 x7 x8 x9 x10 : Int} (h : Two w W f a b c t f' a' b' c' t' x0 x1 x2 x3 x4 x5 x6 x7 x8 x9 x10) (hb : Below W.heap.size W W') : Two w W' f a b c t f' a' b' c' t' x0 x1 x2 x3 x4 x5 x6 x7 x8 x9 x10 :=
  ⟨h.s.keep hb, h.s'.keep hb, h.k.keep hb, h.k'.keep hb, h.lo.trans (hb.mono h.lo.size), h.l1, h.l2, h.l3, h.l4, h.u, h.u'⟩
theorem Two.mark {w W W' : World} {o : Obj} {f a b c t f' a' b' c' t' : Nat} {x0 x1 x2 x3 x4 x5 x6 x7 x8 x9 x10 : Int} (h : Two w W f a b c t f' a' b' c' t' x0 x1 x2 x3 x4 x5 x6 x7 x8 x9 x10) (s : St W' f' a' b' c' 1 2 3 4 5 6 7 8 9 10 11) (r : Fr f' a' b' c' (W.alloc o) W') : Two w W' f a b c t f' a' b' c' t' 1 2 3 4 5 6 7 8 9 10 11 := by
  have uf := h.u f (.inl rfl)
  have ua := h.u a (.inr (.inl rfl))
  have ub := h.u b (.inr (.inr (.inl rfl)))
  have uc := h.u c (.inr (.inr (.inr (.inl rfl))))
  have ut := h.u t (.inr (.inr (.inr (.inr rfl))))
  have u' := h.u'
  exact ⟨⟨h.s.F.fr r (by omega) (by omega) (by omega) (by omega), h.s.A.fr r (by omega) (by omega) (by omega) (by omega), h.s.B.fr r (by omega) (by omega) (by omega) (by omega), h.s.C.fr r (by omega) (by omega) (by omega) (by omega), h.s.fa, h.s.fb, h.s.fc, h.s.ab, h.s.ac, h.s.bc⟩, s, h.k.fr r (by omega) (by omega) (by omega) (by omega), h.k'.fr r (by omega) (by omega) (by omega) (by omega), below_fr h.lo (Nat.le_refl _) r h.l1 h.l2 h.l3 h.l4, h.l1, h.l2, h.l3, h.l4, h.u, h.u'⟩
set_option maxHeartbeats 4000000 in
theorem lawNew (w : World) :
    Calls Try.prog 3 #[] w fun e w' => e = .returned (.bool true) ∧ Below w.heap.size w w' := by
  have K1 := Hid.mk' (snew_c w)
  go_enter Try.func3, Try.ntmps3
  go_wp2_with fail
  refine K1.out.mono ?_
  rintro e w1 ⟨v, rfl, f, a, b, c, rfl, lf, la, lb, lc, s, hb⟩
  have H1 := Hid.mk' (And.intro (s.keep ((Below.refl _ w1).alloc (Nat.le_refl _) (.cells #[.slice (some ⟨f, 0, none⟩) 4 4, .slice none 0 0, .slice none 0 0, .slice none 0 0, .slice none 0 0, .slice none 0 0, .slice none 0 0] 30))) (And.intro (Bk.new (w := w1) (cs := [.slice (some ⟨f, 0, none⟩) 4 4, .slice none 0 0, .slice none 0 0, .slice none 0 0, .slice none 0 0, .slice none 0 0, .slice none 0 0]) (t := 30)) (hb.alloc (o := .cells #[.slice (some ⟨f, 0, none⟩) 4 4, .slice none 0 0, .slice none 0 0, .slice none 0 0, .slice none 0 0, .slice none 0 0, .slice none 0 0] 30) (by have := hb.size; omega))))
  clear s hb lf la lb lc K1
  go_upto_region 2 with fail
  obtain ⟨t, et⟩ : ∃ t, t = w1.heap.size := ⟨_, rfl⟩
  refine wp_gen (fun W => St W f a b c 1 127 0 2 126 0 3 127 0 4 0 ∧ Bk W w1.heap.size [.slice (some ⟨f, 0, none⟩) 4 4, .slice none 0 0, .slice none 0 0, .slice none 0 0, .slice none 0 0, .slice none 0 0, .slice none 0 0] ∧ Below w.heap.size w W) H1.out ?_
  rintro W ⟨s, bk, hb⟩
  rw [← et] at bk ⊢
  clear H1 et
  have K2 := Hid.mk' (inew_c W)
  have HS := Hid.mk' (And.intro s (And.intro bk hb))
  clear s bk hb
  go_wp2_with fail
  refine K2.out.mono ?_
  rintro e w2 ⟨v, rfl, f', a', b', c', rfl, lf, la, lb, lc, s', hb'⟩
  have T : Hid (Two w (w2.alloc (.cells #[.slice (some ⟨f', 0, none⟩) 4 4, .slice none 0 0, .slice none 0 0, .slice none 0 0, .slice none 0 0, .slice none 0 0, .slice none 0 0] 30)) f a b c t f' a' b' c' w2.heap.size 1 127 0 2 126 0 3 127 0 4 0) := by
    obtain ⟨s, bk, hb⟩ := HS.out
    have b1 := (Below.refl _ w2).alloc (Nat.le_refl _) (.cells #[.slice (some ⟨f', 0, none⟩) 4 4, .slice none 0 0, .slice none 0 0, .slice none 0 0, .slice none 0 0, .slice none 0 0, .slice none 0 0] 30)
    have q1 := s.F.1
    have q2 := s.A.1
    have q3 := s.B.1
    have q4 := s.C.1
    have q5 := bk.1
    have q6 := hb.size
    refine ⟨(s.keep hb').keep b1, s'.keep b1, (bk.keep hb').keep b1, Bk.new, (hb.trans (hb'.mono hb.size)).trans (b1.mono (by have := hb'.size; omega)), by omega, by omega, by omega, by omega, ?_, ⟨s'.F.1, s'.A.1, s'.B.1, s'.C.1⟩⟩
    rintro g (rfl | rfl | rfl | rfl | rfl) <;> exact ⟨by omega, by omega, by omega, by omega⟩
  clear HS s' hb' lf la lb lc K2
  go_upto_region 3 with fail
  obtain ⟨t', et⟩ : ∃ t', t' = w2.heap.size := ⟨_, rfl⟩
  rw [← et] at T
  refine wp_gen (fun W => Two w W f a b c t f' a' b' c' t' 1 127 0 2 126 0 3 127 0 4 0) T.out ?_
  intro W2 h2
  rw [← et]
  clear T et
  have q0 : W2.cell? ⟨t', 0, none⟩ = some (.slice (some ⟨f', 0, none⟩) 4 4) := h2.k'.2.1 0 _ rfl
  have q1 : W2.cell? ⟨t', 1, none⟩ = some (.slice none 0 0) := h2.k'.2.1 1 _ rfl
  have q2 : W2.cell? ⟨t', 2, none⟩ = some (.slice none 0 0) := h2.k'.2.1 2 _ rfl
  have q3 : W2.cell? ⟨t', 3, none⟩ = some (.slice none 0 0) := h2.k'.2.1 3 _ rfl
  have q4 : W2.cell? ⟨t', 4, none⟩ = some (.slice none 0 0) := h2.k'.2.1 4 _ rfl
  have q5 : W2.cell? ⟨t', 5, none⟩ = some (.slice none 0 0) := h2.k'.2.1 5 _ rfl
  have q6 : W2.cell? ⟨t', 6, none⟩ = some (.slice none 0 0) := h2.k'.2.1 6 _ rfl
  have p0 : W2.cell? ⟨t, 0, none⟩ = some (.slice (some ⟨f, 0, none⟩) 4 4) := h2.k.2.1 0 _ rfl
  have p1 : W2.cell? ⟨t, 1, none⟩ = some (.slice none 0 0) := h2.k.2.1 1 _ rfl
  have p2 : W2.cell? ⟨t, 2, none⟩ = some (.slice none 0 0) := h2.k.2.1 2 _ rfl
  have p3 : W2.cell? ⟨t, 3, none⟩ = some (.slice none 0 0) := h2.k.2.1 3 _ rfl
  have p4 : W2.cell? ⟨t, 4, none⟩ = some (.slice none 0 0) := h2.k.2.1 4 _ rfl
  have p5 : W2.cell? ⟨t, 5, none⟩ = some (.slice none 0 0) := h2.k.2.1 5 _ rfl
  have p6 : W2.cell? ⟨t, 6, none⟩ = some (.slice none 0 0) := h2.k.2.1 6 _ rfl
  have KE := Hid.mk' (eqNew_c f' a' b' c' f a b c 1 127 0 2 126 0 3 127 0 4 0 W2 h2.s' h2.s)
  have T := Hid.mk' h2
  clear h2
  go_wp2_with fail
  refine KE.out.mono ?_
  rintro e W3 ⟨rfl, hb3⟩
  have h3 := T.out.keep hb3
  clear T KE hb3
  have q0 : W3.cell? ⟨t', 0, none⟩ = some (.slice (some ⟨f', 0, none⟩) 4 4) := h3.k'.2.1 0 _ rfl
  have q1 : W3.cell? ⟨t', 1, none⟩ = some (.slice none 0 0) := h3.k'.2.1 1 _ rfl
  have q2 : W3.cell? ⟨t', 2, none⟩ = some (.slice none 0 0) := h3.k'.2.1 2 _ rfl
  have q3 : W3.cell? ⟨t', 3, none⟩ = some (.slice none 0 0) := h3.k'.2.1 3 _ rfl
  have q4 : W3.cell? ⟨t', 4, none⟩ = some (.slice none 0 0) := h3.k'.2.1 4 _ rfl
  have q5 : W3.cell? ⟨t', 5, none⟩ = some (.slice none 0 0) := h3.k'.2.1 5 _ rfl
  have q6 : W3.cell? ⟨t', 6, none⟩ = some (.slice none 0 0) := h3.k'.2.1 6 _ rfl
  have p0 : W3.cell? ⟨t, 0, none⟩ = some (.slice (some ⟨f, 0, none⟩) 4 4) := h3.k.2.1 0 _ rfl
  have p1 : W3.cell? ⟨t, 1, none⟩ = some (.slice none 0 0) := h3.k.2.1 1 _ rfl
  have p2 : W3.cell? ⟨t, 2, none⟩ = some (.slice none 0 0) := h3.k.2.1 2 _ rfl
  have p3 : W3.cell? ⟨t, 3, none⟩ = some (.slice none 0 0) := h3.k.2.1 3 _ rfl
  have p4 : W3.cell? ⟨t, 4, none⟩ = some (.slice none 0 0) := h3.k.2.1 4 _ rfl
  have p5 : W3.cell? ⟨t, 5, none⟩ = some (.slice none 0 0) := h3.k.2.1 5 _ rfl
  have p6 : W3.cell? ⟨t, 6, none⟩ = some (.slice none 0 0) := h3.k.2.1 6 _ rfl
  have KM := Hid.mk' (markNew_c f' a' b' c' W3 h3.s')
  have T := Hid.mk' h3
  clear h3
  go_wp2_with fail
  refine KM.out.mono ?_
  rintro e W4 ⟨rfl, s4, r4⟩
  have h4 := T.out.mark s4 r4
  clear T KM s4 r4
  have q0 : W4.cell? ⟨t', 0, none⟩ = some (.slice (some ⟨f', 0, none⟩) 4 4) := h4.k'.2.1 0 _ rfl
  have q1 : W4.cell? ⟨t', 1, none⟩ = some (.slice none 0 0) := h4.k'.2.1 1 _ rfl
  have q2 : W4.cell? ⟨t', 2, none⟩ = some (.slice none 0 0) := h4.k'.2.1 2 _ rfl
  have q3 : W4.cell? ⟨t', 3, none⟩ = some (.slice none 0 0) := h4.k'.2.1 3 _ rfl
  have q4 : W4.cell? ⟨t', 4, none⟩ = some (.slice none 0 0) := h4.k'.2.1 4 _ rfl
  have q5 : W4.cell? ⟨t', 5, none⟩ = some (.slice none 0 0) := h4.k'.2.1 5 _ rfl
  have q6 : W4.cell? ⟨t', 6, none⟩ = some (.slice none 0 0) := h4.k'.2.1 6 _ rfl
  have p0 : W4.cell? ⟨t, 0, none⟩ = some (.slice (some ⟨f, 0, none⟩) 4 4) := h4.k.2.1 0 _ rfl
  have p1 : W4.cell? ⟨t, 1, none⟩ = some (.slice none 0 0) := h4.k.2.1 1 _ rfl
  have p2 : W4.cell? ⟨t, 2, none⟩ = some (.slice none 0 0) := h4.k.2.1 2 _ rfl
  have p3 : W4.cell? ⟨t, 3, none⟩ = some (.slice none 0 0) := h4.k.2.1 3 _ rfl
  have p4 : W4.cell? ⟨t, 4, none⟩ = some (.slice none 0 0) := h4.k.2.1 4 _ rfl
  have p5 : W4.cell? ⟨t, 5, none⟩ = some (.slice none 0 0) := h4.k.2.1 5 _ rfl
  have p6 : W4.cell? ⟨t, 6, none⟩ = some (.slice none 0 0) := h4.k.2.1 6 _ rfl
  have KH := Hid.mk' (heldNew_c f' a' b' c' W4 h4.s')
  have T := Hid.mk' h4
  clear h4
  go_wp2_with fail
  refine KH.out.mono ?_
  rintro e W5 ⟨rfl, hb5⟩
  have h5 := T.out.keep hb5
  clear T KH hb5
  have K3 := Hid.mk' (inew_c W5)
  have T := Hid.mk' h5
  clear h5
  go_wp2_with fail
  refine K3.out.mono ?_
  rintro e w6 ⟨v, rfl, f3, a3, b3, c3, rfl, lf, la, lb, lc, s3, hb6⟩
  have T6 : Hid (Two w (w6.alloc (.cells #[.slice (some ⟨f3, 0, none⟩) 4 4, .slice none 0 0, .slice none 0 0, .slice none 0 0, .slice none 0 0, .slice none 0 0, .slice none 0 0] 30)) f a b c t f' a' b' c' t' 1 2 3 4 5 6 7 8 9 10 11 ∧ St (w6.alloc (.cells #[.slice (some ⟨f3, 0, none⟩) 4 4, .slice none 0 0, .slice none 0 0, .slice none 0 0, .slice none 0 0, .slice none 0 0, .slice none 0 0] 30)) f3 a3 b3 c3 1 127 0 2 126 0 3 127 0 4 0 ∧ Bk (w6.alloc (.cells #[.slice (some ⟨f3, 0, none⟩) 4 4, .slice none 0 0, .slice none 0 0, .slice none 0 0, .slice none 0 0, .slice none 0 0, .slice none 0 0] 30)) w6.heap.size [.slice (some ⟨f3, 0, none⟩) 4 4, .slice none 0 0, .slice none 0 0, .slice none 0 0, .slice none 0 0, .slice none 0 0, .slice none 0 0]) := by
    have b1 := (Below.refl _ w6).alloc (Nat.le_refl _) (.cells #[.slice (some ⟨f3, 0, none⟩) 4 4, .slice none 0 0, .slice none 0 0, .slice none 0 0, .slice none 0 0, .slice none 0 0, .slice none 0 0] 30)
    exact ⟨(T.out.keep hb6).keep b1, s3.keep b1, Bk.new⟩
  clear T s3 hb6 lf la lb lc K3
  go_upto_region 14 with fail
  obtain ⟨t3, et⟩ : ∃ t3, t3 = w6.heap.size := ⟨_, rfl⟩
  rw [← et] at T6
  refine wp_gen (fun W => Two w W f a b c t f' a' b' c' t' 1 2 3 4 5 6 7 8 9 10 11 ∧ St W f3 a3 b3 c3 1 127 0 2 126 0 3 127 0 4 0 ∧ Bk W t3 [.slice (some ⟨f3, 0, none⟩) 4 4, .slice none 0 0, .slice none 0 0, .slice none 0 0, .slice none 0 0, .slice none 0 0, .slice none 0 0]) T6.out ?_
  rintro W6 ⟨h6, s6, k6⟩
  rw [← et]
  clear T6 et
  have q0 : W6.cell? ⟨t3, 0, none⟩ = some (.slice (some ⟨f3, 0, none⟩) 4 4) := k6.2.1 0 _ rfl
  have q1 : W6.cell? ⟨t3, 1, none⟩ = some (.slice none 0 0) := k6.2.1 1 _ rfl
  have q2 : W6.cell? ⟨t3, 2, none⟩ = some (.slice none 0 0) := k6.2.1 2 _ rfl
  have q3 : W6.cell? ⟨t3, 3, none⟩ = some (.slice none 0 0) := k6.2.1 3 _ rfl
  have q4 : W6.cell? ⟨t3, 4, none⟩ = some (.slice none 0 0) := k6.2.1 4 _ rfl
  have q5 : W6.cell? ⟨t3, 5, none⟩ = some (.slice none 0 0) := k6.2.1 5 _ rfl
  have q6 : W6.cell? ⟨t3, 6, none⟩ = some (.slice none 0 0) := k6.2.1 6 _ rfl
  have p0 : W6.cell? ⟨t, 0, none⟩ = some (.slice (some ⟨f, 0, none⟩) 4 4) := h6.k.2.1 0 _ rfl
  have p1 : W6.cell? ⟨t, 1, none⟩ = some (.slice none 0 0) := h6.k.2.1 1 _ rfl
  have p2 : W6.cell? ⟨t, 2, none⟩ = some (.slice none 0 0) := h6.k.2.1 2 _ rfl
  have p3 : W6.cell? ⟨t, 3, none⟩ = some (.slice none 0 0) := h6.k.2.1 3 _ rfl
  have p4 : W6.cell? ⟨t, 4, none⟩ = some (.slice none 0 0) := h6.k.2.1 4 _ rfl
  have p5 : W6.cell? ⟨t, 5, none⟩ = some (.slice none 0 0) := h6.k.2.1 5 _ rfl
  have p6 : W6.cell? ⟨t, 6, none⟩ = some (.slice none 0 0) := h6.k.2.1 6 _ rfl
  have KE := Hid.mk' (eqNew_c f3 a3 b3 c3 f a b c 1 127 0 2 126 0 3 127 0 4 0 W6 s6 h6.s)
  have T := Hid.mk' h6
  clear h6 s6 k6
  go_wp2_with fail
  refine KE.out.mono ?_
  rintro e W7 ⟨rfl, hb7⟩
  have h7 := T.out.keep hb7
  clear T KE hb7
  have q0 : W7.cell? ⟨t', 0, none⟩ = some (.slice (some ⟨f', 0, none⟩) 4 4) := h7.k'.2.1 0 _ rfl
  have q1 : W7.cell? ⟨t', 1, none⟩ = some (.slice none 0 0) := h7.k'.2.1 1 _ rfl
  have q2 : W7.cell? ⟨t', 2, none⟩ = some (.slice none 0 0) := h7.k'.2.1 2 _ rfl
  have q3 : W7.cell? ⟨t', 3, none⟩ = some (.slice none 0 0) := h7.k'.2.1 3 _ rfl
  have q4 : W7.cell? ⟨t', 4, none⟩ = some (.slice none 0 0) := h7.k'.2.1 4 _ rfl
  have q5 : W7.cell? ⟨t', 5, none⟩ = some (.slice none 0 0) := h7.k'.2.1 5 _ rfl
  have q6 : W7.cell? ⟨t', 6, none⟩ = some (.slice none 0 0) := h7.k'.2.1 6 _ rfl
  have p0 : W7.cell? ⟨t, 0, none⟩ = some (.slice (some ⟨f, 0, none⟩) 4 4) := h7.k.2.1 0 _ rfl
  have p1 : W7.cell? ⟨t, 1, none⟩ = some (.slice none 0 0) := h7.k.2.1 1 _ rfl
  have p2 : W7.cell? ⟨t, 2, none⟩ = some (.slice none 0 0) := h7.k.2.1 2 _ rfl
  have p3 : W7.cell? ⟨t, 3, none⟩ = some (.slice none 0 0) := h7.k.2.1 3 _ rfl
  have p4 : W7.cell? ⟨t, 4, none⟩ = some (.slice none 0 0) := h7.k.2.1 4 _ rfl
  have p5 : W7.cell? ⟨t, 5, none⟩ = some (.slice none 0 0) := h7.k.2.1 5 _ rfl
  have p6 : W7.cell? ⟨t, 6, none⟩ = some (.slice none 0 0) := h7.k.2.1 6 _ rfl
  have KH := Hid.mk' (heldNew_c f' a' b' c' W7 h7.s')
  have T := Hid.mk' h7
  clear h7
  go_wp2_with fail
  refine KH.out.mono ?_
  rintro e W8 ⟨rfl, hb8⟩
  have h8 := T.out.keep hb8
  clear T KH hb8
  have T := Hid.mk' h8.lo
  clear h8
  go_wp2
  go_ret
  exact ⟨rfl, T.out⟩
end Go.Proofs.Ytkomhekccckdlaa
