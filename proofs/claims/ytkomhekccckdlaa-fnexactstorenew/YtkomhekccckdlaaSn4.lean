import Derived.Test.YtkomhekccckdlaaSn3
set_option linter.all false
set_option linter.unusedVariables false
namespace Go.Proofs.Ytkomhekccckdlaa
open Go.RowKit Go.Sort
set_option maxRecDepth 100000
/-- The four functions of a new store in memory, with the eleven numbers that stand in them. -/
structure St (w : World) (f a b c : Nat) (h0 x0 i0 h1 x1 i1 h2 x2 i2 h3 i3 : Int) : Prop where
  F : Bk w f [.int .i64 h0, .slice (some ⟨a, 0, none⟩) 1 1, .slice none 0 0, .int .i64 i0, .slice none 0 0, .slice none 0 0, .int .i64 h1, .slice (some ⟨b, 0, none⟩) 1 1, .slice none 0 0, .int .i64 i1, .slice none 0 0, .slice none 0 0, .int .i64 h2, .slice none 0 0, .slice (some ⟨c, 0, none⟩) 1 1, .int .i64 i2, .slice none 0 0, .slice none 0 0, .int .i64 h3, .slice none 0 0, .slice none 0 0, .int .i64 i3, .slice none 0 0, .slice none 0 0]
  A : Bk w a [.int .i64 x0]
  B : Bk w b [.int .i64 x1]
  C : Bk w c [.int .i64 x2]
  fa : f ≠ a
  fb : f ≠ b
  fc : f ≠ c
  ab : a ≠ b
  ac : a ≠ c
  bc : b ≠ c
theorem St.keep {w w' : World} {f a b c : Nat} {h0 x0 i0 h1 x1 i1 h2 x2 i2 h3 i3 : Int} (h : St w f a b c h0 x0 i0 h1 x1 i1 h2 x2 i2 h3 i3) (hb : Below w.heap.size w w') : St w' f a b c h0 x0 i0 h1 x1 i1 h2 x2 i2 h3 i3 :=
  ⟨h.F.keep hb, h.A.keep hb, h.B.keep hb, h.C.keep hb, h.fa, h.fb, h.fc, h.ab, h.ac, h.bc⟩
theorem St.other {w : World} {f a b c g o : Nat} {v : Value} {h0 x0 i0 h1 x1 i1 h2 x2 i2 h3 i3 : Int} (h : St w f a b c h0 x0 i0 h1 x1 i1 h2 x2 i2 h3 i3) (hf : g ≠ f) (ha : g ≠ a) (hb : g ≠ b) (hc : g ≠ c) : St (w.setCell ⟨g, o, none⟩ v) f a b c h0 x0 i0 h1 x1 i1 h2 x2 i2 h3 i3 :=
  ⟨h.F.other hf, h.A.other ha, h.B.other hb, h.C.other hc, h.fa, h.fb, h.fc, h.ab, h.ac, h.bc⟩
/-- A new store's value: where it lies. -/
def New (w w' : World) (v : Value) : Prop := ∃ f a b c, v = .slice (some ⟨f, 0, none⟩) 4 4 ∧ w.heap.size ≤ f ∧ w.heap.size ≤ a ∧ w.heap.size ≤ b ∧ w.heap.size ≤ c ∧ St w' f a b c 1 127 0 2 126 0 3 127 0 4 0 ∧ Below w.heap.size w w'
theorem new_of (w : World) : New w ((((w.alloc (.cells #[.int .i64 127] 2)).alloc (.cells #[.int .i64 126] 2)).alloc (.cells #[.int .i64 127] 2)).alloc (.cells #[.int .i64 1, .slice (some ⟨w.heap.size, 0, none⟩) 1 1, .slice none 0 0, .int .i64 0, .slice none 0 0, .slice none 0 0, .int .i64 2, .slice (some ⟨(w.heap.size + 1), 0, none⟩) 1 1, .slice none 0 0, .int .i64 0, .slice none 0 0, .slice none 0 0, .int .i64 3, .slice none 0 0, .slice (some ⟨(w.heap.size + 1 + 1), 0, none⟩) 1 1, .int .i64 0, .slice none 0 0, .slice none 0 0, .int .i64 4, .slice none 0 0, .slice none 0 0, .int .i64 0, .slice none 0 0, .slice none 0 0] 40)) (.slice (some ⟨w.heap.size + 1 + 1 + 1, 0, none⟩) 4 4) := by
  refine ⟨w.heap.size + 1 + 1 + 1, w.heap.size, w.heap.size + 1, w.heap.size + 1 + 1, rfl, by omega, by omega, by omega, by omega, ⟨?_, Bk.new.past.past.past, ?_, ?_, by omega, by omega, by omega, by omega, by omega, by omega⟩, (((Below.refl _ _).alloc (Nat.le_refl _) _).alloc (by simp) _).alloc (by simp; omega) _ |>.alloc (by simp; omega) _⟩
  · have := (Bk.new (w := ((w.alloc (.cells #[.int .i64 127] 2)).alloc (.cells #[.int .i64 126] 2)).alloc (.cells #[.int .i64 127] 2)) (cs := [.int .i64 1, .slice (some ⟨w.heap.size, 0, none⟩) 1 1, .slice none 0 0, .int .i64 0, .slice none 0 0, .slice none 0 0, .int .i64 2, .slice (some ⟨(w.heap.size + 1), 0, none⟩) 1 1, .slice none 0 0, .int .i64 0, .slice none 0 0, .slice none 0 0, .int .i64 3, .slice none 0 0, .slice (some ⟨(w.heap.size + 1 + 1), 0, none⟩) 1 1, .int .i64 0, .slice none 0 0, .slice none 0 0, .int .i64 4, .slice none 0 0, .slice none 0 0, .int .i64 0, .slice none 0 0, .slice none 0 0]) (t := 40))
    simpa using this
  · have := ((Bk.new (w := w.alloc (.cells #[.int .i64 127] 2)) (cs := [.int .i64 126]) (t := 2)).past (o := .cells #[.int .i64 127] 2)).past (o := .cells #[.int .i64 1, .slice (some ⟨w.heap.size, 0, none⟩) 1 1, .slice none 0 0, .int .i64 0, .slice none 0 0, .slice none 0 0, .int .i64 2, .slice (some ⟨(w.heap.size + 1), 0, none⟩) 1 1, .slice none 0 0, .int .i64 0, .slice none 0 0, .slice none 0 0, .int .i64 3, .slice none 0 0, .slice (some ⟨(w.heap.size + 1 + 1), 0, none⟩) 1 1, .int .i64 0, .slice none 0 0, .slice none 0 0, .int .i64 4, .slice none 0 0, .slice none 0 0, .int .i64 0, .slice none 0 0, .slice none 0 0] 40)
    simpa using this
  · have := (Bk.new (w := (w.alloc (.cells #[.int .i64 127] 2)).alloc (.cells #[.int .i64 126] 2)) (cs := [.int .i64 127]) (t := 2)).past (o := .cells #[.int .i64 1, .slice (some ⟨w.heap.size, 0, none⟩) 1 1, .slice none 0 0, .int .i64 0, .slice none 0 0, .slice none 0 0, .int .i64 2, .slice (some ⟨(w.heap.size + 1), 0, none⟩) 1 1, .slice none 0 0, .int .i64 0, .slice none 0 0, .slice none 0 0, .int .i64 3, .slice none 0 0, .slice (some ⟨(w.heap.size + 1 + 1), 0, none⟩) 1 1, .int .i64 0, .slice none 0 0, .slice none 0 0, .int .i64 4, .slice none 0 0, .slice none 0 0, .int .i64 0, .slice none 0 0, .slice none 0 0] 40)
    simpa using this
set_option maxHeartbeats 2000000 in
theorem host_c (w : World) :
    Calls Try.prog 9 #[] w fun e w' => ∃ v, e = .returned v ∧ New w w' v := by
  have T := Hid.mk' (new_of w)
  go_enter Try.func9, Try.ntmps9
  go_wp2
  go_ret
  exact ⟨_, rfl, T.out⟩
set_option maxHeartbeats 2000000 in
theorem inew_c (w : World) :
    Calls Try.prog 5 #[] w fun e w' => ∃ v, e = .returned (.agg #[v, .slice none 0 0, .slice none 0 0, .slice none 0 0, .slice none 0 0, .slice none 0 0, .slice none 0 0]) ∧ New w w' v := by
  have K := Hid.mk' (host_c (w.alloc (.cells #[.slice none 0 0, .slice none 0 0, .slice none 0 0, .slice none 0 0, .slice none 0 0, .slice none 0 0, .slice none 0 0] 30)))
  go_enter Try.func5, Try.ntmps5
  go_wp2_with fail
  refine K.out.mono ?_
  rintro e w1 ⟨v, rfl, f, a, b, c, rfl, lf, la, lb, lc, hs, hb⟩
  have bk : Bk w1 w.heap.size [.slice none 0 0, .slice none 0 0, .slice none 0 0, .slice none 0 0, .slice none 0 0, .slice none 0 0, .slice none 0 0] := Bk.new.keep hb
  have q0 : w1.cell? ⟨w.heap.size, 0, none⟩ = some (.slice none 0 0) := bk.2.1 0 _ rfl
  have z0 : w1.frozen? ⟨w.heap.size, 0, none⟩ = false := bk.2.2 0
  have q1 : w1.cell? ⟨w.heap.size, 1, none⟩ = some (.slice none 0 0) := bk.2.1 1 _ rfl
  have z1 : w1.frozen? ⟨w.heap.size, 1, none⟩ = false := bk.2.2 1
  have q2 : w1.cell? ⟨w.heap.size, 2, none⟩ = some (.slice none 0 0) := bk.2.1 2 _ rfl
  have z2 : w1.frozen? ⟨w.heap.size, 2, none⟩ = false := bk.2.2 2
  have q3 : w1.cell? ⟨w.heap.size, 3, none⟩ = some (.slice none 0 0) := bk.2.1 3 _ rfl
  have z3 : w1.frozen? ⟨w.heap.size, 3, none⟩ = false := bk.2.2 3
  have q4 : w1.cell? ⟨w.heap.size, 4, none⟩ = some (.slice none 0 0) := bk.2.1 4 _ rfl
  have z4 : w1.frozen? ⟨w.heap.size, 4, none⟩ = false := bk.2.2 4
  have q5 : w1.cell? ⟨w.heap.size, 5, none⟩ = some (.slice none 0 0) := bk.2.1 5 _ rfl
  have z5 : w1.frozen? ⟨w.heap.size, 5, none⟩ = false := bk.2.2 5
  have q6 : w1.cell? ⟨w.heap.size, 6, none⟩ = some (.slice none 0 0) := bk.2.1 6 _ rfl
  have z6 : w1.frozen? ⟨w.heap.size, 6, none⟩ = false := bk.2.2 6
  have HS := Hid.mk' hs
  have HB := Hid.mk' hb
  have BK := Hid.mk' bk
  have lf' : w.heap.size < f := by simp at lf; omega
  have la' : w.heap.size < a := by simp at la; omega
  have lb' : w.heap.size < b := by simp at lb; omega
  have lc' : w.heap.size < c := by simp at lc; omega
  clear hs hb bk K lf la lb lc
  go_wp2
  have nf : w.heap.size ≠ f := by omega
  have na : w.heap.size ≠ a := by omega
  have nb : w.heap.size ≠ b := by omega
  have nc : w.heap.size ≠ c := by omega
  have HB2 : Below w.heap.size w w1 := ((Below.refl _ _).alloc (Nat.le_refl _) _).trans (HB.out.mono (by simp))
  have B7 := (((((((BK.out.set (j := 0) (v := .slice (some ⟨f, 0, none⟩) 4 4)).set (j := 1) (v := .slice none 0 0)).set (j := 2) (v := .slice none 0 0)).set (j := 3) (v := .slice none 0 0)).set (j := 4) (v := .slice none 0 0)).set (j := 5) (v := .slice none 0 0)).set (j := 6) (v := .slice none 0 0))
  have S7 := (((((((HS.out.other (o := 0) (v := .slice (some ⟨f, 0, none⟩) 4 4) nf na nb nc).other (o := 1) (v := .slice none 0 0) nf na nb nc).other (o := 2) (v := .slice none 0 0) nf na nb nc).other (o := 3) (v := .slice none 0 0) nf na nb nc).other (o := 4) (v := .slice none 0 0) nf na nb nc).other (o := 5) (v := .slice none 0 0) nf na nb nc).other (o := 6) (v := .slice none 0 0) nf na nb nc)
  have L7 := (((((((HB2.setCell (p := ⟨w.heap.size, 0, none⟩) (Nat.le_refl _) (.slice (some ⟨f, 0, none⟩) 4 4)).setCell (p := ⟨w.heap.size, 1, none⟩) (Nat.le_refl _) (.slice none 0 0)).setCell (p := ⟨w.heap.size, 2, none⟩) (Nat.le_refl _) (.slice none 0 0)).setCell (p := ⟨w.heap.size, 3, none⟩) (Nat.le_refl _) (.slice none 0 0)).setCell (p := ⟨w.heap.size, 4, none⟩) (Nat.le_refl _) (.slice none 0 0)).setCell (p := ⟨w.heap.size, 5, none⟩) (Nat.le_refl _) (.slice none 0 0)).setCell (p := ⟨w.heap.size, 6, none⟩) (Nat.le_refl _) (.slice none 0 0))
  have s0 := B7.2.1 0 _ rfl
  have s1 := B7.2.1 1 _ rfl
  have s2 := B7.2.1 2 _ rfl
  have s3 := B7.2.1 3 _ rfl
  have s4 := B7.2.1 4 _ rfl
  have s5 := B7.2.1 5 _ rfl
  have s6 := B7.2.1 6 _ rfl
  exact bodyPost_ret (v := .agg #[.slice (some ⟨f, 0, none⟩) 4 4, .slice none 0 0, .slice none 0 0, .slice none 0 0, .slice none 0 0, .slice none 0 0, .slice none 0 0]) (by simp [results, Try.results5, go_sem, s0, s1, s2, s3, s4, s5, s6]) rfl ⟨_, rfl, f, a, b, c, rfl, by omega, by omega, by omega, by omega, S7, L7⟩
set_option maxHeartbeats 2000000 in
theorem snew_c (w : World) :
    Calls Try.prog 4 #[] w fun e w' => ∃ v, e = .returned (.agg #[v, .slice none 0 0, .slice none 0 0, .slice none 0 0, .slice none 0 0, .slice none 0 0, .slice none 0 0]) ∧ New w w' v := by
  have K := Hid.mk' (new_of (w.alloc (.cells #[.slice none 0 0, .slice none 0 0, .slice none 0 0, .slice none 0 0, .slice none 0 0, .slice none 0 0, .slice none 0 0] 30)))
  go_enter Try.func4, Try.ntmps4
  go_upto_region 2 with fail
  refine wp_gen (fun W => New (w.alloc (.cells #[.slice none 0 0, .slice none 0 0, .slice none 0 0, .slice none 0 0, .slice none 0 0, .slice none 0 0, .slice none 0 0] 30)) W (.slice (some ⟨w.heap.size + 1 + 1 + 1 + 1, 0, none⟩) 4 4)) (by simpa using K.out) ?_
  rintro w1 ⟨f, a, b, c, ev, lf, la, lb, lc, hs, hb⟩
  obtain rfl : w.heap.size + 1 + 1 + 1 + 1 = f := by simpa using ev
  clear ev
  have bk : Bk w1 w.heap.size [.slice none 0 0, .slice none 0 0, .slice none 0 0, .slice none 0 0, .slice none 0 0, .slice none 0 0, .slice none 0 0] := Bk.new.keep hb
  have q0 : w1.cell? ⟨w.heap.size, 0, none⟩ = some (.slice none 0 0) := bk.2.1 0 _ rfl
  have z0 : w1.frozen? ⟨w.heap.size, 0, none⟩ = false := bk.2.2 0
  have q1 : w1.cell? ⟨w.heap.size, 1, none⟩ = some (.slice none 0 0) := bk.2.1 1 _ rfl
  have z1 : w1.frozen? ⟨w.heap.size, 1, none⟩ = false := bk.2.2 1
  have q2 : w1.cell? ⟨w.heap.size, 2, none⟩ = some (.slice none 0 0) := bk.2.1 2 _ rfl
  have z2 : w1.frozen? ⟨w.heap.size, 2, none⟩ = false := bk.2.2 2
  have q3 : w1.cell? ⟨w.heap.size, 3, none⟩ = some (.slice none 0 0) := bk.2.1 3 _ rfl
  have z3 : w1.frozen? ⟨w.heap.size, 3, none⟩ = false := bk.2.2 3
  have q4 : w1.cell? ⟨w.heap.size, 4, none⟩ = some (.slice none 0 0) := bk.2.1 4 _ rfl
  have z4 : w1.frozen? ⟨w.heap.size, 4, none⟩ = false := bk.2.2 4
  have q5 : w1.cell? ⟨w.heap.size, 5, none⟩ = some (.slice none 0 0) := bk.2.1 5 _ rfl
  have z5 : w1.frozen? ⟨w.heap.size, 5, none⟩ = false := bk.2.2 5
  have q6 : w1.cell? ⟨w.heap.size, 6, none⟩ = some (.slice none 0 0) := bk.2.1 6 _ rfl
  have z6 : w1.frozen? ⟨w.heap.size, 6, none⟩ = false := bk.2.2 6
  have HS := Hid.mk' hs
  have HB := Hid.mk' hb
  have BK := Hid.mk' bk
  have lf' : w.heap.size < w.heap.size + 1 + 1 + 1 + 1 := by simp at lf; omega
  have la' : w.heap.size < a := by simp at la; omega
  have lb' : w.heap.size < b := by simp at lb; omega
  have lc' : w.heap.size < c := by simp at lc; omega
  clear hs hb bk K lf la lb lc
  go_wp2
  have nf : w.heap.size ≠ w.heap.size + 1 + 1 + 1 + 1 := by omega
  have na : w.heap.size ≠ a := by omega
  have nb : w.heap.size ≠ b := by omega
  have nc : w.heap.size ≠ c := by omega
  have HB2 : Below w.heap.size w w1 := ((Below.refl _ _).alloc (Nat.le_refl _) _).trans (HB.out.mono (by simp))
  have B7 := (((((((BK.out.set (j := 0) (v := .slice (some ⟨w.heap.size + 1 + 1 + 1 + 1, 0, none⟩) 4 4)).set (j := 1) (v := .slice none 0 0)).set (j := 2) (v := .slice none 0 0)).set (j := 3) (v := .slice none 0 0)).set (j := 4) (v := .slice none 0 0)).set (j := 5) (v := .slice none 0 0)).set (j := 6) (v := .slice none 0 0))
  have S7 := (((((((HS.out.other (o := 0) (v := .slice (some ⟨w.heap.size + 1 + 1 + 1 + 1, 0, none⟩) 4 4) nf na nb nc).other (o := 1) (v := .slice none 0 0) nf na nb nc).other (o := 2) (v := .slice none 0 0) nf na nb nc).other (o := 3) (v := .slice none 0 0) nf na nb nc).other (o := 4) (v := .slice none 0 0) nf na nb nc).other (o := 5) (v := .slice none 0 0) nf na nb nc).other (o := 6) (v := .slice none 0 0) nf na nb nc)
  have L7 := (((((((HB2.setCell (p := ⟨w.heap.size, 0, none⟩) (Nat.le_refl _) (.slice (some ⟨w.heap.size + 1 + 1 + 1 + 1, 0, none⟩) 4 4)).setCell (p := ⟨w.heap.size, 1, none⟩) (Nat.le_refl _) (.slice none 0 0)).setCell (p := ⟨w.heap.size, 2, none⟩) (Nat.le_refl _) (.slice none 0 0)).setCell (p := ⟨w.heap.size, 3, none⟩) (Nat.le_refl _) (.slice none 0 0)).setCell (p := ⟨w.heap.size, 4, none⟩) (Nat.le_refl _) (.slice none 0 0)).setCell (p := ⟨w.heap.size, 5, none⟩) (Nat.le_refl _) (.slice none 0 0)).setCell (p := ⟨w.heap.size, 6, none⟩) (Nat.le_refl _) (.slice none 0 0))
  have s0 := B7.2.1 0 _ rfl
  have s1 := B7.2.1 1 _ rfl
  have s2 := B7.2.1 2 _ rfl
  have s3 := B7.2.1 3 _ rfl
  have s4 := B7.2.1 4 _ rfl
  have s5 := B7.2.1 5 _ rfl
  have s6 := B7.2.1 6 _ rfl
  exact bodyPost_ret (v := .agg #[.slice (some ⟨w.heap.size + 1 + 1 + 1 + 1, 0, none⟩) 4 4, .slice none 0 0, .slice none 0 0, .slice none 0 0, .slice none 0 0, .slice none 0 0, .slice none 0 0]) (by simp [results, Try.results4, go_sem, s0, s1, s2, s3, s4, s5, s6]) rfl ⟨_, rfl, _, a, b, c, rfl, by omega, by omega, by omega, by omega, S7, L7⟩
end Go.Proofs.Ytkomhekccckdlaa
