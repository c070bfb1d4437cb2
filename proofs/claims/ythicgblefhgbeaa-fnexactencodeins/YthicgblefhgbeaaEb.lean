import Derived.Test.YthicgblefhgbeaaEa
set_option linter.all false
set_option linter.unusedVariables false
namespace Go.Proofs.Ythicgblefhgbeaa
open Go.RowKit Go.Sort
set_option maxRecDepth 100000
set_option maxHeartbeats 4000000 in
theorem wins_0 (p : Nat) (S : Nat → Prop) (xs : List Int) (op a b v : Int) (l : List Int) (la : Option Addr) (lc : Nat) (w : World) (hf : formR (rowOf op) = 0) (hl : xs.length ≤ 1048000) (hW : Wr w p S xs) :
    Calls Try.prog 35 #[.pointer (some ⟨p, 0, none⟩), inV ⟨op, a, b, v, l⟩ la lc] w fun e w' => e = .returned (.tuple #[]) ∧ Wr w' p S (xs ++ (op % 256 :: encF (0) ⟨op, a, b, v, l⟩)) ∧ Kept S w w' := by
  have HLT := Hid.mk' hW.lt
  have HF := Hid.mk' (iform_c op)
  rw [hf] at HF
  have HBX := Hid.mk' (Bx.box S w.heap.size)
  have HC := Hid.mk' (C5.new (w := w) (a := .int .i64 op) (b := .int .i64 a) (c := .int .i64 b) (d := .int .u64 v) (e := .slice la l.length lc) (t := 36))
  have KO := Hid.mk' (wone_c p (Bx S w.heap.size) xs op (w.alloc (.cells #[.int .i64 op, .int .i64 a, .int .i64 b, .int .u64 v, .slice la l.length lc] 36)) (by omega) (wr_box hW _))
  clear hf hW
  go_enter Try.func35, Try.ntmps35
  go_wp2_with fail
  refine (KO.out).mono ?_
  rintro e w1 ⟨rfl, hw1, hk1⟩
  obtain ⟨⟨c0, c1, c2, c3, c4⟩, cf⟩ := hk1.c5 HC.out HBX.out
  have HC1 := Hid.mk' (hk1.c5 HC.out HBX.out)
  have HW1 := Hid.mk' hw1
  have HK1 := Hid.mk' hk1
  clear hw1 hk1 KO HC cf
  go_wp2_with fail
  refine (HF.out _).mono ?_
  rintro e w2 ⟨rfl, hb2⟩
  obtain ⟨⟨d20, d21, d22, d23, d24⟩, df⟩ := HC1.out.keep hb2
  have HC2 := Hid.mk' (HC1.out.keep hb2)
  have HW2 := Hid.mk' (HW1.out.keep hb2)
  have HK2 := Hid.mk' (HK1.out.wr HW1.out hb2)
  clear hb2 HF HC1 HW1 HK1 df c0 c1 c2 c3 c4
  go_wp2_with fail
  go_end0
  obtain ⟨r1, r2⟩ := wr_fin (xs := xs ++ (op % 256 :: encF (0) ⟨op, a, b, v, l⟩)) HLT.out HW2.out HK2.out (by simp [encF])
  exact ⟨rfl, r1, r2⟩
set_option maxHeartbeats 4000000 in
theorem wins_1 (p : Nat) (S : Nat → Prop) (xs : List Int) (op a b v : Int) (l : List Int) (la : Option Addr) (lc : Nat) (w : World) (hf : formR (rowOf op) = 1) (hl : xs.length ≤ 1048000) (hW : Wr w p S xs) :
    Calls Try.prog 35 #[.pointer (some ⟨p, 0, none⟩), inV ⟨op, a, b, v, l⟩ la lc] w fun e w' => e = .returned (.tuple #[]) ∧ Wr w' p S (xs ++ (op % 256 :: encF (1) ⟨op, a, b, v, l⟩)) ∧ Kept S w w' := by
  have HLT := Hid.mk' hW.lt
  have HF := Hid.mk' (iform_c op)
  rw [hf] at HF
  have HBX := Hid.mk' (Bx.box S w.heap.size)
  have HC := Hid.mk' (C5.new (w := w) (a := .int .i64 op) (b := .int .i64 a) (c := .int .i64 b) (d := .int .u64 v) (e := .slice la l.length lc) (t := 36))
  have KO := Hid.mk' (wone_c p (Bx S w.heap.size) xs op (w.alloc (.cells #[.int .i64 op, .int .i64 a, .int .i64 b, .int .u64 v, .slice la l.length lc] 36)) (by omega) (wr_box hW _))
  clear hf hW
  go_enter Try.func35, Try.ntmps35
  go_wp2_with fail
  refine (KO.out).mono ?_
  rintro e w1 ⟨rfl, hw1, hk1⟩
  obtain ⟨⟨c0, c1, c2, c3, c4⟩, cf⟩ := hk1.c5 HC.out HBX.out
  have HC1 := Hid.mk' (hk1.c5 HC.out HBX.out)
  have HW1 := Hid.mk' hw1
  have HK1 := Hid.mk' hk1
  clear hw1 hk1 KO HC cf
  go_wp2_with fail
  refine (HF.out _).mono ?_
  rintro e w2 ⟨rfl, hb2⟩
  obtain ⟨⟨d20, d21, d22, d23, d24⟩, df⟩ := HC1.out.keep hb2
  have HC2 := Hid.mk' (HC1.out.keep hb2)
  have HW2 := Hid.mk' (HW1.out.keep hb2)
  have HK2 := Hid.mk' (HK1.out.wr HW1.out hb2)
  clear hb2 HF HC1 HW1 HK1 df c0 c1 c2 c3 c4
  have KN2 := Hid.mk' (wone_c p (Bx S w.heap.size) (xs ++ [op % 256]) a w2 (by simp only [List.length_append, List.length_cons, List.length_nil]; omega) HW2.out)
  go_wp2_with fail
  refine (KN2.out).mono ?_
  rintro e w3 ⟨rfl, hwn, hkn⟩
  obtain ⟨⟨d30, d31, d32, d33, d34⟩, ef⟩ := hkn.c5 HC2.out HBX.out
  have HC3 := Hid.mk' (hkn.c5 HC2.out HBX.out)
  have HW3 := Hid.mk' hwn
  have HK3 := Hid.mk' (HK2.out.trans hkn)
  clear hwn hkn KN2 HC2 HW2 HK2 ef d20 d21 d22 d23 d24
  go_wp2_with fail
  go_end0
  obtain ⟨r1, r2⟩ := wr_fin (xs := xs ++ (op % 256 :: encF (1) ⟨op, a, b, v, l⟩)) HLT.out HW3.out HK3.out (by simp [encF])
  exact ⟨rfl, r1, r2⟩
set_option maxHeartbeats 4000000 in
theorem wins_2 (p : Nat) (S : Nat → Prop) (xs : List Int) (op a b v : Int) (l : List Int) (la : Option Addr) (lc : Nat) (w : World) (hf : formR (rowOf op) = 2) (ha : 0 ≤ a) (ha1 : a ≤ 4294967295) (hl : xs.length ≤ 1048000) (hW : Wr w p S xs) :
    Calls Try.prog 35 #[.pointer (some ⟨p, 0, none⟩), inV ⟨op, a, b, v, l⟩ la lc] w fun e w' => e = .returned (.tuple #[]) ∧ Wr w' p S (xs ++ (op % 256 :: encF (2) ⟨op, a, b, v, l⟩)) ∧ Kept S w w' := by
  have HLT := Hid.mk' hW.lt
  have HF := Hid.mk' (iform_c op)
  rw [hf] at HF
  have HBX := Hid.mk' (Bx.box S w.heap.size)
  have HC := Hid.mk' (C5.new (w := w) (a := .int .i64 op) (b := .int .i64 a) (c := .int .i64 b) (d := .int .u64 v) (e := .slice la l.length lc) (t := 36))
  have KO := Hid.mk' (wone_c p (Bx S w.heap.size) xs op (w.alloc (.cells #[.int .i64 op, .int .i64 a, .int .i64 b, .int .u64 v, .slice la l.length lc] 36)) (by omega) (wr_box hW _))
  clear hf hW
  go_enter Try.func35, Try.ntmps35
  go_wp2_with fail
  refine (KO.out).mono ?_
  rintro e w1 ⟨rfl, hw1, hk1⟩
  obtain ⟨⟨c0, c1, c2, c3, c4⟩, cf⟩ := hk1.c5 HC.out HBX.out
  have HC1 := Hid.mk' (hk1.c5 HC.out HBX.out)
  have HW1 := Hid.mk' hw1
  have HK1 := Hid.mk' hk1
  clear hw1 hk1 KO HC cf
  go_wp2_with fail
  refine (HF.out _).mono ?_
  rintro e w2 ⟨rfl, hb2⟩
  obtain ⟨⟨d20, d21, d22, d23, d24⟩, df⟩ := HC1.out.keep hb2
  have HC2 := Hid.mk' (HC1.out.keep hb2)
  have HW2 := Hid.mk' (HW1.out.keep hb2)
  have HK2 := Hid.mk' (HK1.out.wr HW1.out hb2)
  clear hb2 HF HC1 HW1 HK1 df c0 c1 c2 c3 c4
  have KN2 := Hid.mk' (wu32_c p (Bx S w.heap.size) (xs ++ [op % 256]) a w2 ha (by omega) (by simp only [List.length_append, List.length_cons, List.length_nil]; omega) HW2.out)
  go_wp2_with fail
  refine (KN2.out).mono ?_
  rintro e w3 ⟨rfl, hwn, hkn⟩
  obtain ⟨⟨d30, d31, d32, d33, d34⟩, ef⟩ := hkn.c5 HC2.out HBX.out
  have HC3 := Hid.mk' (hkn.c5 HC2.out HBX.out)
  have HW3 := Hid.mk' hwn
  have HK3 := Hid.mk' (HK2.out.trans hkn)
  clear hwn hkn KN2 HC2 HW2 HK2 ef d20 d21 d22 d23 d24
  go_wp2_with fail
  go_end0
  obtain ⟨r1, r2⟩ := wr_fin (xs := xs ++ (op % 256 :: encF (2) ⟨op, a, b, v, l⟩)) HLT.out HW3.out HK3.out (by simp [encF])
  exact ⟨rfl, r1, r2⟩
end Go.Proofs.Ythicgblefhgbeaa

set_option linter.unusedVariables false
namespace Go.Proofs.Ythicgblefhgbeaa
open Go.RowKit Go.Sort
set_option maxRecDepth 100000
set_option maxHeartbeats 4000000 in
theorem wins_4 (p : Nat) (S : Nat → Prop) (xs : List Int) (op a b v : Int) (l : List Int) (la : Option Addr) (lc : Nat) (w : World) (hf : formR (rowOf op) = 4) (ha : 0 ≤ a) (ha1 : a ≤ 4294967295) (hl : xs.length ≤ 1048000) (hW : Wr w p S xs) :
    Calls Try.prog 35 #[.pointer (some ⟨p, 0, none⟩), inV ⟨op, a, b, v, l⟩ la lc] w fun e w' => e = .returned (.tuple #[]) ∧ Wr w' p S (xs ++ (op % 256 :: encF (4) ⟨op, a, b, v, l⟩)) ∧ Kept S w w' := by
  have HLT := Hid.mk' hW.lt
  have HF := Hid.mk' (iform_c op)
  rw [hf] at HF
  have HBX := Hid.mk' (Bx.box S w.heap.size)
  have HC := Hid.mk' (C5.new (w := w) (a := .int .i64 op) (b := .int .i64 a) (c := .int .i64 b) (d := .int .u64 v) (e := .slice la l.length lc) (t := 36))
  have KO := Hid.mk' (wone_c p (Bx S w.heap.size) xs op (w.alloc (.cells #[.int .i64 op, .int .i64 a, .int .i64 b, .int .u64 v, .slice la l.length lc] 36)) (by omega) (wr_box hW _))
  clear hf hW
  go_enter Try.func35, Try.ntmps35
  go_wp2_with fail
  refine (KO.out).mono ?_
  rintro e w1 ⟨rfl, hw1, hk1⟩
  obtain ⟨⟨c0, c1, c2, c3, c4⟩, cf⟩ := hk1.c5 HC.out HBX.out
  have HC1 := Hid.mk' (hk1.c5 HC.out HBX.out)
  have HW1 := Hid.mk' hw1
  have HK1 := Hid.mk' hk1
  clear hw1 hk1 KO HC cf
  go_wp2_with fail
  refine (HF.out _).mono ?_
  rintro e w2 ⟨rfl, hb2⟩
  obtain ⟨⟨d20, d21, d22, d23, d24⟩, df⟩ := HC1.out.keep hb2
  have HC2 := Hid.mk' (HC1.out.keep hb2)
  have HW2 := Hid.mk' (HW1.out.keep hb2)
  have HK2 := Hid.mk' (HK1.out.wr HW1.out hb2)
  clear hb2 HF HC1 HW1 HK1 df c0 c1 c2 c3 c4
  have KN2 := Hid.mk' (wu32_c p (Bx S w.heap.size) (xs ++ [op % 256]) a w2 ha (by omega) (by simp only [List.length_append, List.length_cons, List.length_nil]; omega) HW2.out)
  go_wp2_with fail
  refine (KN2.out).mono ?_
  rintro e w3 ⟨rfl, hwn, hkn⟩
  obtain ⟨⟨d30, d31, d32, d33, d34⟩, ef⟩ := hkn.c5 HC2.out HBX.out
  have HC3 := Hid.mk' (hkn.c5 HC2.out HBX.out)
  have HW3 := Hid.mk' hwn
  have HK3 := Hid.mk' (HK2.out.trans hkn)
  clear hwn hkn KN2 HC2 HW2 HK2 ef d20 d21 d22 d23 d24
  have KN3 := Hid.mk' (wone_c p (Bx S w.heap.size) ((xs ++ [op % 256]) ++ lebU 9 a) 0 w3 (by have := (lebU_len 9 a).2; simp only [List.length_append, List.length_cons, List.length_nil]; omega) HW3.out)
  go_wp2_with fail
  refine (KN3.out).mono ?_
  rintro e w4 ⟨rfl, hwn, hkn⟩
  obtain ⟨⟨d40, d41, d42, d43, d44⟩, ef⟩ := hkn.c5 HC3.out HBX.out
  have HC4 := Hid.mk' (hkn.c5 HC3.out HBX.out)
  have HW4 := Hid.mk' hwn
  have HK4 := Hid.mk' (HK3.out.trans hkn)
  clear hwn hkn KN3 HC3 HW3 HK3 ef d30 d31 d32 d33 d34
  go_wp2_with fail
  go_end0
  obtain ⟨r1, r2⟩ := wr_fin (xs := xs ++ (op % 256 :: encF (4) ⟨op, a, b, v, l⟩)) HLT.out HW4.out HK4.out (by simp [encF])
  exact ⟨rfl, r1, r2⟩
set_option maxHeartbeats 4000000 in
theorem wins_5 (p : Nat) (S : Nat → Prop) (xs : List Int) (op a b v : Int) (l : List Int) (la : Option Addr) (lc : Nat) (w : World) (hf : formR (rowOf op) = 5) (ha : 0 ≤ a) (ha1 : a ≤ 4294967295) (hb : 0 ≤ b) (hb1 : b ≤ 4294967295) (hl : xs.length ≤ 1048000) (hW : Wr w p S xs) :
    Calls Try.prog 35 #[.pointer (some ⟨p, 0, none⟩), inV ⟨op, a, b, v, l⟩ la lc] w fun e w' => e = .returned (.tuple #[]) ∧ Wr w' p S (xs ++ (op % 256 :: encF (5) ⟨op, a, b, v, l⟩)) ∧ Kept S w w' := by
  have HLT := Hid.mk' hW.lt
  have HF := Hid.mk' (iform_c op)
  rw [hf] at HF
  have HBX := Hid.mk' (Bx.box S w.heap.size)
  have HC := Hid.mk' (C5.new (w := w) (a := .int .i64 op) (b := .int .i64 a) (c := .int .i64 b) (d := .int .u64 v) (e := .slice la l.length lc) (t := 36))
  have KO := Hid.mk' (wone_c p (Bx S w.heap.size) xs op (w.alloc (.cells #[.int .i64 op, .int .i64 a, .int .i64 b, .int .u64 v, .slice la l.length lc] 36)) (by omega) (wr_box hW _))
  clear hf hW
  go_enter Try.func35, Try.ntmps35
  go_wp2_with fail
  refine (KO.out).mono ?_
  rintro e w1 ⟨rfl, hw1, hk1⟩
  obtain ⟨⟨c0, c1, c2, c3, c4⟩, cf⟩ := hk1.c5 HC.out HBX.out
  have HC1 := Hid.mk' (hk1.c5 HC.out HBX.out)
  have HW1 := Hid.mk' hw1
  have HK1 := Hid.mk' hk1
  clear hw1 hk1 KO HC cf
  go_wp2_with fail
  refine (HF.out _).mono ?_
  rintro e w2 ⟨rfl, hb2⟩
  obtain ⟨⟨d20, d21, d22, d23, d24⟩, df⟩ := HC1.out.keep hb2
  have HC2 := Hid.mk' (HC1.out.keep hb2)
  have HW2 := Hid.mk' (HW1.out.keep hb2)
  have HK2 := Hid.mk' (HK1.out.wr HW1.out hb2)
  clear hb2 HF HC1 HW1 HK1 df c0 c1 c2 c3 c4
  have KN2 := Hid.mk' (wu32_c p (Bx S w.heap.size) (xs ++ [op % 256]) a w2 ha (by omega) (by simp only [List.length_append, List.length_cons, List.length_nil]; omega) HW2.out)
  go_wp2_with fail
  refine (KN2.out).mono ?_
  rintro e w3 ⟨rfl, hwn, hkn⟩
  obtain ⟨⟨d30, d31, d32, d33, d34⟩, ef⟩ := hkn.c5 HC2.out HBX.out
  have HC3 := Hid.mk' (hkn.c5 HC2.out HBX.out)
  have HW3 := Hid.mk' hwn
  have HK3 := Hid.mk' (HK2.out.trans hkn)
  clear hwn hkn KN2 HC2 HW2 HK2 ef d20 d21 d22 d23 d24
  have KN3 := Hid.mk' (wu32_c p (Bx S w.heap.size) ((xs ++ [op % 256]) ++ lebU 9 a) b w3 hb (by omega) (by have := (lebU_len 9 a).2; simp only [List.length_append, List.length_cons, List.length_nil]; omega) HW3.out)
  go_wp2_with fail
  refine (KN3.out).mono ?_
  rintro e w4 ⟨rfl, hwn, hkn⟩
  obtain ⟨⟨d40, d41, d42, d43, d44⟩, ef⟩ := hkn.c5 HC3.out HBX.out
  have HC4 := Hid.mk' (hkn.c5 HC3.out HBX.out)
  have HW4 := Hid.mk' hwn
  have HK4 := Hid.mk' (HK3.out.trans hkn)
  clear hwn hkn KN3 HC3 HW3 HK3 ef d30 d31 d32 d33 d34
  go_wp2_with fail
  go_end0
  obtain ⟨r1, r2⟩ := wr_fin (xs := xs ++ (op % 256 :: encF (5) ⟨op, a, b, v, l⟩)) HLT.out HW4.out HK4.out (by simp [encF])
  exact ⟨rfl, r1, r2⟩
set_option maxHeartbeats 4000000 in
theorem wins_6 (p : Nat) (S : Nat → Prop) (xs : List Int) (op a b v : Int) (l : List Int) (la : Option Addr) (lc : Nat) (w : World) (hf : formR (rowOf op) = 6) (hl : xs.length ≤ 1048000) (hW : Wr w p S xs) :
    Calls Try.prog 35 #[.pointer (some ⟨p, 0, none⟩), inV ⟨op, a, b, v, l⟩ la lc] w fun e w' => e = .returned (.tuple #[]) ∧ Wr w' p S (xs ++ (op % 256 :: encF (6) ⟨op, a, b, v, l⟩)) ∧ Kept S w w' := by
  have HLT := Hid.mk' hW.lt
  have HF := Hid.mk' (iform_c op)
  rw [hf] at HF
  have HBX := Hid.mk' (Bx.box S w.heap.size)
  have HC := Hid.mk' (C5.new (w := w) (a := .int .i64 op) (b := .int .i64 a) (c := .int .i64 b) (d := .int .u64 v) (e := .slice la l.length lc) (t := 36))
  have KO := Hid.mk' (wone_c p (Bx S w.heap.size) xs op (w.alloc (.cells #[.int .i64 op, .int .i64 a, .int .i64 b, .int .u64 v, .slice la l.length lc] 36)) (by omega) (wr_box hW _))
  clear hf hW
  go_enter Try.func35, Try.ntmps35
  go_wp2_with fail
  refine (KO.out).mono ?_
  rintro e w1 ⟨rfl, hw1, hk1⟩
  obtain ⟨⟨c0, c1, c2, c3, c4⟩, cf⟩ := hk1.c5 HC.out HBX.out
  have HC1 := Hid.mk' (hk1.c5 HC.out HBX.out)
  have HW1 := Hid.mk' hw1
  have HK1 := Hid.mk' hk1
  clear hw1 hk1 KO HC cf
  go_wp2_with fail
  refine (HF.out _).mono ?_
  rintro e w2 ⟨rfl, hb2⟩
  obtain ⟨⟨d20, d21, d22, d23, d24⟩, df⟩ := HC1.out.keep hb2
  have HC2 := Hid.mk' (HC1.out.keep hb2)
  have HW2 := Hid.mk' (HW1.out.keep hb2)
  have HK2 := Hid.mk' (HK1.out.wr HW1.out hb2)
  clear hb2 HF HC1 HW1 HK1 df c0 c1 c2 c3 c4
  have KN2 := Hid.mk' (wone_c p (Bx S w.heap.size) (xs ++ [op % 256]) 0 w2 (by simp only [List.length_append, List.length_cons, List.length_nil]; omega) HW2.out)
  go_wp2_with fail
  refine (KN2.out).mono ?_
  rintro e w3 ⟨rfl, hwn, hkn⟩
  obtain ⟨⟨d30, d31, d32, d33, d34⟩, ef⟩ := hkn.c5 HC2.out HBX.out
  have HC3 := Hid.mk' (hkn.c5 HC2.out HBX.out)
  have HW3 := Hid.mk' hwn
  have HK3 := Hid.mk' (HK2.out.trans hkn)
  clear hwn hkn KN2 HC2 HW2 HK2 ef d20 d21 d22 d23 d24
  go_wp2_with fail
  go_end0
  obtain ⟨r1, r2⟩ := wr_fin (xs := xs ++ (op % 256 :: encF (6) ⟨op, a, b, v, l⟩)) HLT.out HW3.out HK3.out (by simp [encF])
  exact ⟨rfl, r1, r2⟩
end Go.Proofs.Ythicgblefhgbeaa

set_option linter.unusedVariables false
namespace Go.Proofs.Ythicgblefhgbeaa
open Go.RowKit Go.Sort
set_option maxRecDepth 100000
set_option maxHeartbeats 4000000 in
theorem wins_8 (p : Nat) (S : Nat → Prop) (xs : List Int) (op a b v : Int) (l : List Int) (la : Option Addr) (lc : Nat) (w : World) (hf : formR (rowOf op) = 8) (hv : 0 ≤ v) (hv1 : v ≤ 18446744073709551615) (hl : xs.length ≤ 1048000) (hW : Wr w p S xs) :
    Calls Try.prog 35 #[.pointer (some ⟨p, 0, none⟩), inV ⟨op, a, b, v, l⟩ la lc] w fun e w' => e = .returned (.tuple #[]) ∧ Wr w' p S (xs ++ (op % 256 :: encF (8) ⟨op, a, b, v, l⟩)) ∧ Kept S w w' := by
  have HLT := Hid.mk' hW.lt
  have HF := Hid.mk' (iform_c op)
  rw [hf] at HF
  have HBX := Hid.mk' (Bx.box S w.heap.size)
  have HC := Hid.mk' (C5.new (w := w) (a := .int .i64 op) (b := .int .i64 a) (c := .int .i64 b) (d := .int .u64 v) (e := .slice la l.length lc) (t := 36))
  have KO := Hid.mk' (wone_c p (Bx S w.heap.size) xs op (w.alloc (.cells #[.int .i64 op, .int .i64 a, .int .i64 b, .int .u64 v, .slice la l.length lc] 36)) (by omega) (wr_box hW _))
  clear hf hW
  go_enter Try.func35, Try.ntmps35
  go_wp2_with fail
  refine (KO.out).mono ?_
  rintro e w1 ⟨rfl, hw1, hk1⟩
  obtain ⟨⟨c0, c1, c2, c3, c4⟩, cf⟩ := hk1.c5 HC.out HBX.out
  have HC1 := Hid.mk' (hk1.c5 HC.out HBX.out)
  have HW1 := Hid.mk' hw1
  have HK1 := Hid.mk' hk1
  clear hw1 hk1 KO HC cf
  go_wp2_with fail
  refine (HF.out _).mono ?_
  rintro e w2 ⟨rfl, hb2⟩
  obtain ⟨⟨d20, d21, d22, d23, d24⟩, df⟩ := HC1.out.keep hb2
  have HC2 := Hid.mk' (HC1.out.keep hb2)
  have HW2 := Hid.mk' (HW1.out.keep hb2)
  have HK2 := Hid.mk' (HK1.out.wr HW1.out hb2)
  clear hb2 HF HC1 HW1 HK1 df c0 c1 c2 c3 c4
  have KN2 := Hid.mk' (wsig_c p (Bx S w.heap.size) (xs ++ [op % 256]) (wrap64 v) w2 (by unfold wrap64; omega) (by unfold wrap64; omega) (by simp only [List.length_append, List.length_cons, List.length_nil]; omega) HW2.out)
  go_wp2_with fail
  refine (KN2.out).mono ?_
  rintro e w3 ⟨rfl, hwn, hkn⟩
  obtain ⟨⟨d30, d31, d32, d33, d34⟩, ef⟩ := hkn.c5 HC2.out HBX.out
  have HC3 := Hid.mk' (hkn.c5 HC2.out HBX.out)
  have HW3 := Hid.mk' hwn
  have HK3 := Hid.mk' (HK2.out.trans hkn)
  clear hwn hkn KN2 HC2 HW2 HK2 ef d20 d21 d22 d23 d24
  go_wp2_with fail
  go_end0
  obtain ⟨r1, r2⟩ := wr_fin (xs := xs ++ (op % 256 :: encF (8) ⟨op, a, b, v, l⟩)) HLT.out HW3.out HK3.out (by simp [encF])
  exact ⟨rfl, r1, r2⟩
set_option maxHeartbeats 4000000 in
theorem wins_9 (p : Nat) (S : Nat → Prop) (xs : List Int) (op a b v : Int) (l : List Int) (la : Option Addr) (lc : Nat) (w : World) (hf : formR (rowOf op) = 9) (hv : 0 ≤ v) (hv1 : v ≤ 18446744073709551615) (hl : xs.length ≤ 1048000) (hW : Wr w p S xs) :
    Calls Try.prog 35 #[.pointer (some ⟨p, 0, none⟩), inV ⟨op, a, b, v, l⟩ la lc] w fun e w' => e = .returned (.tuple #[]) ∧ Wr w' p S (xs ++ (op % 256 :: encF (9) ⟨op, a, b, v, l⟩)) ∧ Kept S w w' := by
  have HLT := Hid.mk' hW.lt
  have HF := Hid.mk' (iform_c op)
  rw [hf] at HF
  have HBX := Hid.mk' (Bx.box S w.heap.size)
  have HC := Hid.mk' (C5.new (w := w) (a := .int .i64 op) (b := .int .i64 a) (c := .int .i64 b) (d := .int .u64 v) (e := .slice la l.length lc) (t := 36))
  have KO := Hid.mk' (wone_c p (Bx S w.heap.size) xs op (w.alloc (.cells #[.int .i64 op, .int .i64 a, .int .i64 b, .int .u64 v, .slice la l.length lc] 36)) (by omega) (wr_box hW _))
  clear hf hW
  go_enter Try.func35, Try.ntmps35
  go_wp2_with fail
  refine (KO.out).mono ?_
  rintro e w1 ⟨rfl, hw1, hk1⟩
  obtain ⟨⟨c0, c1, c2, c3, c4⟩, cf⟩ := hk1.c5 HC.out HBX.out
  have HC1 := Hid.mk' (hk1.c5 HC.out HBX.out)
  have HW1 := Hid.mk' hw1
  have HK1 := Hid.mk' hk1
  clear hw1 hk1 KO HC cf
  go_wp2_with fail
  refine (HF.out _).mono ?_
  rintro e w2 ⟨rfl, hb2⟩
  obtain ⟨⟨d20, d21, d22, d23, d24⟩, df⟩ := HC1.out.keep hb2
  have HC2 := Hid.mk' (HC1.out.keep hb2)
  have HW2 := Hid.mk' (HW1.out.keep hb2)
  have HK2 := Hid.mk' (HK1.out.wr HW1.out hb2)
  clear hb2 HF HC1 HW1 HK1 df c0 c1 c2 c3 c4
  have KN2 := Hid.mk' (wflt_c p (Bx S w.heap.size) (xs ++ [op % 256]) v 4 w2 (.inl rfl) hv hv1 (by simp only [List.length_append, List.length_cons, List.length_nil]; omega) HW2.out)
  go_wp2_with fail
  refine (KN2.out).mono ?_
  rintro e w3 ⟨rfl, hwn, hkn⟩
  obtain ⟨⟨d30, d31, d32, d33, d34⟩, ef⟩ := hkn.c5 HC2.out HBX.out
  have HC3 := Hid.mk' (hkn.c5 HC2.out HBX.out)
  have HW3 := Hid.mk' hwn
  have HK3 := Hid.mk' (HK2.out.trans hkn)
  clear hwn hkn KN2 HC2 HW2 HK2 ef d20 d21 d22 d23 d24
  go_wp2_with fail
  go_end0
  obtain ⟨r1, r2⟩ := wr_fin (xs := xs ++ (op % 256 :: encF (9) ⟨op, a, b, v, l⟩)) HLT.out HW3.out HK3.out (by simp [encF])
  exact ⟨rfl, r1, r2⟩
set_option maxHeartbeats 4000000 in
theorem wins_10 (p : Nat) (S : Nat → Prop) (xs : List Int) (op a b v : Int) (l : List Int) (la : Option Addr) (lc : Nat) (w : World) (hf : formR (rowOf op) = 10) (hv : 0 ≤ v) (hv1 : v ≤ 18446744073709551615) (hl : xs.length ≤ 1048000) (hW : Wr w p S xs) :
    Calls Try.prog 35 #[.pointer (some ⟨p, 0, none⟩), inV ⟨op, a, b, v, l⟩ la lc] w fun e w' => e = .returned (.tuple #[]) ∧ Wr w' p S (xs ++ (op % 256 :: encF (10) ⟨op, a, b, v, l⟩)) ∧ Kept S w w' := by
  have HLT := Hid.mk' hW.lt
  have HF := Hid.mk' (iform_c op)
  rw [hf] at HF
  have HBX := Hid.mk' (Bx.box S w.heap.size)
  have HC := Hid.mk' (C5.new (w := w) (a := .int .i64 op) (b := .int .i64 a) (c := .int .i64 b) (d := .int .u64 v) (e := .slice la l.length lc) (t := 36))
  have KO := Hid.mk' (wone_c p (Bx S w.heap.size) xs op (w.alloc (.cells #[.int .i64 op, .int .i64 a, .int .i64 b, .int .u64 v, .slice la l.length lc] 36)) (by omega) (wr_box hW _))
  clear hf hW
  go_enter Try.func35, Try.ntmps35
  go_wp2_with fail
  refine (KO.out).mono ?_
  rintro e w1 ⟨rfl, hw1, hk1⟩
  obtain ⟨⟨c0, c1, c2, c3, c4⟩, cf⟩ := hk1.c5 HC.out HBX.out
  have HC1 := Hid.mk' (hk1.c5 HC.out HBX.out)
  have HW1 := Hid.mk' hw1
  have HK1 := Hid.mk' hk1
  clear hw1 hk1 KO HC cf
  go_wp2_with fail
  refine (HF.out _).mono ?_
  rintro e w2 ⟨rfl, hb2⟩
  obtain ⟨⟨d20, d21, d22, d23, d24⟩, df⟩ := HC1.out.keep hb2
  have HC2 := Hid.mk' (HC1.out.keep hb2)
  have HW2 := Hid.mk' (HW1.out.keep hb2)
  have HK2 := Hid.mk' (HK1.out.wr HW1.out hb2)
  clear hb2 HF HC1 HW1 HK1 df c0 c1 c2 c3 c4
  have KN2 := Hid.mk' (wflt_c p (Bx S w.heap.size) (xs ++ [op % 256]) v 8 w2 (.inr rfl) hv hv1 (by simp only [List.length_append, List.length_cons, List.length_nil]; omega) HW2.out)
  go_wp2_with fail
  refine (KN2.out).mono ?_
  rintro e w3 ⟨rfl, hwn, hkn⟩
  obtain ⟨⟨d30, d31, d32, d33, d34⟩, ef⟩ := hkn.c5 HC2.out HBX.out
  have HC3 := Hid.mk' (hkn.c5 HC2.out HBX.out)
  have HW3 := Hid.mk' hwn
  have HK3 := Hid.mk' (HK2.out.trans hkn)
  clear hwn hkn KN2 HC2 HW2 HK2 ef d20 d21 d22 d23 d24
  go_wp2_with fail
  go_end0
  obtain ⟨r1, r2⟩ := wr_fin (xs := xs ++ (op % 256 :: encF (10) ⟨op, a, b, v, l⟩)) HLT.out HW3.out HK3.out (by simp [encF])
  exact ⟨rfl, r1, r2⟩
end Go.Proofs.Ythicgblefhgbeaa

set_option linter.unusedVariables false
namespace Go.Proofs.Ythicgblefhgbeaa
open Go.RowKit Go.Sort
set_option maxRecDepth 100000
set_option maxHeartbeats 4000000 in
theorem wins_3 (p : Nat) (S : Nat → Prop) (xs : List Int) (op a b v : Int) (l : List Int) (la : Option Addr) (lc : Nat) (w : World) (hf : formR (rowOf op) = 3) (ha : 0 ≤ a) (ha1 : a ≤ 4294967295) (hn : l.length ≤ 1048576) (hu : ∀ i, i < l.length → 0 ≤ l.getD i 0 ∧ l.getD i 0 ≤ 4294967295) (hH : ∀ w', Kept S w w' → Has w' la l) (hl : xs.length ≤ 1048000) (hW : Wr w p S xs) :
    Calls Try.prog 35 #[.pointer (some ⟨p, 0, none⟩), inV ⟨op, a, b, v, l⟩ la lc] w fun e w' => e = .returned (.tuple #[]) ∧ Wr w' p S (xs ++ (op % 256 :: encF (3) ⟨op, a, b, v, l⟩)) ∧ Kept S w w' := by
  have HLT := Hid.mk' hW.lt
  have HF := Hid.mk' (iform_c op)
  rw [hf] at HF
  have HBX := Hid.mk' (Bx.box S w.heap.size)
  have HC := Hid.mk' (C5.new (w := w) (a := .int .i64 op) (b := .int .i64 a) (c := .int .i64 b) (d := .int .u64 v) (e := .slice la l.length lc) (t := 36))
  have KO := Hid.mk' (wone_c p (Bx S w.heap.size) xs op (w.alloc (.cells #[.int .i64 op, .int .i64 a, .int .i64 b, .int .u64 v, .slice la l.length lc] 36)) (by omega) (wr_box hW _))
  have HHH : Hid (∀ w', Kept (Bx S w.heap.size) (w.alloc (.cells #[.int .i64 op, .int .i64 a, .int .i64 b, .int .u64 v, .slice la l.length lc] 36)) w' → Has w' la l) := fun w' h => hH w' ((Kept.of_below ((Below.refl w.heap.size w).alloc (Nat.le_refl _) _) hW.lt).trans (h.weak fun k hk => .inl hk))
  have HUU := Hid.mk' hu
  clear hH hu
  clear hf hW
  go_enter Try.func35, Try.ntmps35
  go_wp2_with fail
  refine (KO.out).mono ?_
  rintro e w1 ⟨rfl, hw1, hk1⟩
  obtain ⟨⟨c0, c1, c2, c3, c4⟩, cf⟩ := hk1.c5 HC.out HBX.out
  have HC1 := Hid.mk' (hk1.c5 HC.out HBX.out)
  have HW1 := Hid.mk' hw1
  have HK1 := Hid.mk' hk1
  clear hw1 hk1 KO HC cf
  go_wp2_with fail
  refine (HF.out _).mono ?_
  rintro e w2 ⟨rfl, hb2⟩
  obtain ⟨⟨d20, d21, d22, d23, d24⟩, df⟩ := HC1.out.keep hb2
  have HC2 := Hid.mk' (HC1.out.keep hb2)
  have HW2 := Hid.mk' (HW1.out.keep hb2)
  have HK2 := Hid.mk' (HK1.out.wr HW1.out hb2)
  clear hb2 HF HC1 HW1 HK1 df c0 c1 c2 c3 c4
  have KN2 := Hid.mk' (wvec_c p (Bx S w.heap.size) (xs ++ [op % 256]) l la lc w2 hn HUU.out (by simp only [List.length_append, List.length_cons, List.length_nil]; omega) (fun w' h => HHH.out w' (HK2.out.trans h)) HW2.out)
  go_wp2_with fail
  refine (KN2.out).mono ?_
  rintro e w3 ⟨rfl, hwn, hkn⟩
  obtain ⟨⟨d30, d31, d32, d33, d34⟩, ef⟩ := hkn.c5 HC2.out HBX.out
  have HC3 := Hid.mk' (hkn.c5 HC2.out HBX.out)
  have HW3 := Hid.mk' hwn
  have HK3 := Hid.mk' (HK2.out.trans hkn)
  clear hwn hkn KN2 HC2 HW2 HK2 ef d20 d21 d22 d23 d24
  have KN3 := Hid.mk' (wu32_c p (Bx S w.heap.size) ((xs ++ [op % 256]) ++ (lebU 9 l.length ++ nums l)) a w3 ha (by omega) (by have := (lebU_len 9 l.length).2; have := nums_len l; simp only [List.length_append, List.length_cons, List.length_nil]; omega) HW3.out)
  go_wp2_with fail
  refine (KN3.out).mono ?_
  rintro e w4 ⟨rfl, hwn, hkn⟩
  obtain ⟨⟨d40, d41, d42, d43, d44⟩, ef⟩ := hkn.c5 HC3.out HBX.out
  have HC4 := Hid.mk' (hkn.c5 HC3.out HBX.out)
  have HW4 := Hid.mk' hwn
  have HK4 := Hid.mk' (HK3.out.trans hkn)
  clear hwn hkn KN3 HC3 HW3 HK3 ef d30 d31 d32 d33 d34
  go_wp2_with fail
  go_end0
  obtain ⟨r1, r2⟩ := wr_fin (xs := xs ++ (op % 256 :: encF (3) ⟨op, a, b, v, l⟩)) HLT.out HW4.out HK4.out (by simp [encF])
  exact ⟨rfl, r1, r2⟩
end Go.Proofs.Ythicgblefhgbeaa

set_option linter.unusedVariables false
namespace Go.Proofs.Ythicgblefhgbeaa
open Go.RowKit Go.Sort
set_option maxRecDepth 100000
set_option maxHeartbeats 4000000 in
theorem wins_7 (p : Nat) (S : Nat → Prop) (xs : List Int) (op a b v : Int) (l : List Int) (la : Option Addr) (lc : Nat) (w : World) (hf : formR (rowOf op) = 7) (hv : 0 ≤ v) (hv1 : v ≤ 4294967295) (hl : xs.length ≤ 1048000) (hW : Wr w p S xs) :
    Calls Try.prog 35 #[.pointer (some ⟨p, 0, none⟩), inV ⟨op, a, b, v, l⟩ la lc] w fun e w' => e = .returned (.tuple #[]) ∧ Wr w' p S (xs ++ (op % 256 :: encF (7) ⟨op, a, b, v, l⟩)) ∧ Kept S w w' := by
  have HLT := Hid.mk' hW.lt
  have HF := Hid.mk' (iform_c op)
  rw [hf] at HF
  have HBX := Hid.mk' (Bx.box S w.heap.size)
  have HC := Hid.mk' (C5.new (w := w) (a := .int .i64 op) (b := .int .i64 a) (c := .int .i64 b) (d := .int .u64 v) (e := .slice la l.length lc) (t := 36))
  have KO := Hid.mk' (wone_c p (Bx S w.heap.size) xs op (w.alloc (.cells #[.int .i64 op, .int .i64 a, .int .i64 b, .int .u64 v, .slice la l.length lc] 36)) (by omega) (wr_box hW _))
  clear hf hW
  go_enter Try.func35, Try.ntmps35
  go_wp2_with fail
  refine (KO.out).mono ?_
  rintro e w1 ⟨rfl, hw1, hk1⟩
  obtain ⟨⟨c0, c1, c2, c3, c4⟩, cf⟩ := hk1.c5 HC.out HBX.out
  have HC1 := Hid.mk' (hk1.c5 HC.out HBX.out)
  have HW1 := Hid.mk' hw1
  have HK1 := Hid.mk' hk1
  clear hw1 hk1 KO HC cf
  go_wp2_with fail
  refine (HF.out _).mono ?_
  rintro e w2 ⟨rfl, hb2⟩
  obtain ⟨⟨d20, d21, d22, d23, d24⟩, df⟩ := HC1.out.keep hb2
  have HC2 := Hid.mk' (HC1.out.keep hb2)
  have HW2 := Hid.mk' (HW1.out.keep hb2)
  have HK2 := Hid.mk' (HK1.out.wr HW1.out hb2)
  clear hb2 HF HC1 HW1 HK1 df c0 c1 c2 c3 c4
  have hs32 : wrap32 v = s32 v := by unfold wrap32 s32; split <;> omega
  have hs64 : wrap64 (s32 v) = s32 v := by unfold wrap64 s32; split <;> omega
  have KN2 := Hid.mk' (wsig_c p (Bx S w.heap.size) (xs ++ [op % 256]) (s32 v) w2 (by unfold s32; split <;> omega) (by unfold s32; split <;> omega) (by simp only [List.length_append, List.length_cons, List.length_nil]; omega) HW2.out)
  go_wp2_with fail
  refine (KN2.out).mono ?_
  rintro e w3 ⟨rfl, hwn, hkn⟩
  obtain ⟨⟨d30, d31, d32, d33, d34⟩, ef⟩ := hkn.c5 HC2.out HBX.out
  have HC3 := Hid.mk' (hkn.c5 HC2.out HBX.out)
  have HW3 := Hid.mk' hwn
  have HK3 := Hid.mk' (HK2.out.trans hkn)
  clear hwn hkn KN2 HC2 HW2 HK2 ef d20 d21 d22 d23 d24
  go_wp2_with fail
  go_end0
  obtain ⟨r1, r2⟩ := wr_fin (xs := xs ++ (op % 256 :: encF (7) ⟨op, a, b, v, l⟩)) HLT.out HW3.out HK3.out (by simp [encF])
  exact ⟨rfl, r1, r2⟩
end Go.Proofs.Ythicgblefhgbeaa
