import Derived.Test.YtgjpgcfpgeonlaaDoorPs3
import Derived.Test.YtgjpgcfpgeonlaaDoorPn
import Derived.Test.YtgjpgcfpgeonlaaDoorK7
set_option linter.all false
set_option linter.unusedVariables false
namespace Go.Proofs.YtgjpgcfpgeonlaaDoor
open Go.RowKit Go.Sort
set_option maxRecDepth 100000
def nmL (op : Int) : List UInt8 := (rowOf op).nm.data.toList
theorem nmL_S (op : Int) : (rowOf op).nm = S (nmL op) := (S_data _).symm
theorem nmL_len (op : Int) : (nmL op).length ≤ 100 := by
  unfold nmL rowOf
  split
  · rename_i h
    have : ∀ k, k < 192 → (tbl.getD k Z0).nm.data.toList.length ≤ 100 := by decide
    exact this op.toNat (by omega)
  · decide
/-- The words behind an instruction's name. -/
def fld (f : Int) (x : In) : List (List UInt8) :=
  if f = 1 then (if x.a = 64 then [] else [typT x.a]) else if f = 2 then [Lib.itoa x.a] else if f = 3 then x.l.map Lib.itoa ++ [Lib.itoa x.a] else if f = 4 then [Lib.itoa x.a]
  else if f = 5 then [Lib.itoa x.a, Lib.itoa x.b] else if f = 7 then [Lib.itoa (wrap32 x.v)] else if f = 8 then [Lib.itoa (wrap64 x.v)]
  else if f = 9 then [bitsT 8 x.v.toNat] else if f = 10 then [bitsT 16 x.v.toNat] else []
theorem sType_c (t : Int) (w : World) : Calls Tryd.prog 25 #[.int .i64 t] w fun e w' => e = .returned (.string (S (typT t))) ∧ w = w' := by
  by_cases h1 : t = 127
  · subst h1
    go_enter Tryd.func25, Tryd.ntmps25
    go_wp2
    go_ret
    exact ⟨rfl, rfl⟩
  by_cases h2 : t = 126
  · subst h2
    go_enter Tryd.func25, Tryd.ntmps25
    go_wp2
    go_ret
    exact ⟨rfl, rfl⟩
  by_cases h3 : t = 125
  · subst h3
    go_enter Tryd.func25, Tryd.ntmps25
    go_wp2
    go_ret
    exact ⟨rfl, rfl⟩
  have e1 : (t == (127 : Int)) = false := by simp [h1]
  have e2 : (t == (126 : Int)) = false := by simp [h2]
  have e3 : (t == (125 : Int)) = false := by simp [h3]
  have ht : typT t = [102, 54, 52] := by simp [typT, h1, h2, h3]
  rw [ht]
  clear ht h1 h2 h3
  go_enter Tryd.func25, Tryd.ntmps25
  go_wp2
  go_ret
  exact ⟨rfl, rfl⟩
def lnT (f : Int) (x : In) : List UInt8 := nmL x.op ++ tl (fld f x)
theorem S1 (N L : List UInt8) : S N ++ ⟨#[32]⟩ ++ S L = S (N ++ tl [L]) := by
  rw [show (⟨#[32]⟩ : ByteArray) = S [32] from rfl, S_app, S_app, tl_cons, tl_nil]
  simp
theorem bits_len (n u : Nat) : (bitsT n u).length = n + 2 := by simp [bitsT, hexN_length]
set_option maxHeartbeats 2000000 in
theorem s8_0 (op a b v : Int) (l : List Int) (la : Option Addr) (lc : Nat) (w : World) (hf : formR (rowOf op) = 0) :
    Calls Tryd.prog 15 #[inV ⟨op, a, b, v, l⟩ la lc] w fun e w' => e = .returned (.string (S (lnT 0 ⟨op, a, b, v, l⟩))) ∧ Below w.heap.size w w' := by
  have HN := Hid.mk' (fun w => sname_c op w)
  rw [nmL_S] at HN
  have HF := Hid.mk' (sform_c op)
  rw [hf] at HF
  have hnl := nmL_len op
  have HL : Hid (lnT 0 ⟨op, a, b, v, l⟩ = nmL op ++ tl ([])) := by show _ = _; simp [lnT, fld]
  generalize nmL op = N at *
  have hC : C5 (w.alloc (.cells #[.int .i64 op, .int .i64 a, .int .i64 b, .int .u64 v, .slice la l.length lc] 29)) w.heap.size 0 (.int .i64 op) (.int .i64 a) (.int .i64 b) (.int .u64 v) (.slice la l.length lc) := C5.new
  have HC := Hid.mk' hC
  have HB := Hid.mk' (show Below w.heap.size w (w.alloc (.cells #[.int .i64 op, .int .i64 a, .int .i64 b, .int .u64 v, .slice la l.length lc] 29)) from (Below.refl _ _).alloc (Nat.le_refl _) _)
  obtain ⟨⟨c0, c1, c2, c3, c4⟩, cf⟩ := id hC
  clear hf hC cf
  go_enter Tryd.func15, Tryd.ntmps15
  go_wp2_with fail
  refine (HN.out _).mono ?_
  rintro e w1 ⟨rfl, hb1⟩
  have C1 := Hid.mk' (HC.out.keep hb1)
  have B1 := Hid.mk' (HB.out.trans (hb1.mono (by simp)))
  obtain ⟨⟨d0, d1, d2, d3, d4⟩, df⟩ := C1.out
  clear hb1 HC HB HN c0 c1 c2 c3 c4 df
  go_wp2_with fail
  refine (HF.out _).mono ?_
  rintro e w2 ⟨rfl, rfl⟩
  clear HF
  go_wp2
  go_ret
  exact ⟨by rw [HL.out, tl_nil, List.append_nil]; rfl, B1.out⟩
set_option maxHeartbeats 2000000 in
theorem s8_6 (op a b v : Int) (l : List Int) (la : Option Addr) (lc : Nat) (w : World) (hf : formR (rowOf op) = 6) :
    Calls Tryd.prog 15 #[inV ⟨op, a, b, v, l⟩ la lc] w fun e w' => e = .returned (.string (S (lnT 6 ⟨op, a, b, v, l⟩))) ∧ Below w.heap.size w w' := by
  have HN := Hid.mk' (fun w => sname_c op w)
  rw [nmL_S] at HN
  have HF := Hid.mk' (sform_c op)
  rw [hf] at HF
  have hnl := nmL_len op
  have HL : Hid (lnT 6 ⟨op, a, b, v, l⟩ = nmL op ++ tl ([])) := by show _ = _; simp [lnT, fld]
  generalize nmL op = N at *
  have hC : C5 (w.alloc (.cells #[.int .i64 op, .int .i64 a, .int .i64 b, .int .u64 v, .slice la l.length lc] 29)) w.heap.size 0 (.int .i64 op) (.int .i64 a) (.int .i64 b) (.int .u64 v) (.slice la l.length lc) := C5.new
  have HC := Hid.mk' hC
  have HB := Hid.mk' (show Below w.heap.size w (w.alloc (.cells #[.int .i64 op, .int .i64 a, .int .i64 b, .int .u64 v, .slice la l.length lc] 29)) from (Below.refl _ _).alloc (Nat.le_refl _) _)
  obtain ⟨⟨c0, c1, c2, c3, c4⟩, cf⟩ := id hC
  clear hf hC cf
  go_enter Tryd.func15, Tryd.ntmps15
  go_wp2_with fail
  refine (HN.out _).mono ?_
  rintro e w1 ⟨rfl, hb1⟩
  have C1 := Hid.mk' (HC.out.keep hb1)
  have B1 := Hid.mk' (HB.out.trans (hb1.mono (by simp)))
  obtain ⟨⟨d0, d1, d2, d3, d4⟩, df⟩ := C1.out
  clear hb1 HC HB HN c0 c1 c2 c3 c4 df
  go_wp2_with fail
  refine (HF.out _).mono ?_
  rintro e w2 ⟨rfl, rfl⟩
  clear HF
  go_wp2
  go_ret
  exact ⟨by rw [HL.out, tl_nil, List.append_nil]; rfl, B1.out⟩
set_option maxHeartbeats 2000000 in
theorem s8_1 (op b v : Int) (l : List Int) (la : Option Addr) (lc : Nat) (w : World) (hf : formR (rowOf op) = 1) :
    Calls Tryd.prog 15 #[inV ⟨op, 64, b, v, l⟩ la lc] w fun e w' => e = .returned (.string (S (lnT 1 ⟨op, 64, b, v, l⟩))) ∧ Below w.heap.size w w' := by
  have HN := Hid.mk' (fun w => sname_c op w)
  rw [nmL_S] at HN
  have HF := Hid.mk' (sform_c op)
  rw [hf] at HF
  have hnl := nmL_len op
  have HL : Hid (lnT 1 ⟨op, 64, b, v, l⟩ = nmL op ++ tl ([])) := by show _ = _; simp [lnT, fld]
  generalize nmL op = N at *
  have hC : C5 (w.alloc (.cells #[.int .i64 op, .int .i64 64, .int .i64 b, .int .u64 v, .slice la l.length lc] 29)) w.heap.size 0 (.int .i64 op) (.int .i64 64) (.int .i64 b) (.int .u64 v) (.slice la l.length lc) := C5.new
  have HC := Hid.mk' hC
  have HB := Hid.mk' (show Below w.heap.size w (w.alloc (.cells #[.int .i64 op, .int .i64 64, .int .i64 b, .int .u64 v, .slice la l.length lc] 29)) from (Below.refl _ _).alloc (Nat.le_refl _) _)
  obtain ⟨⟨c0, c1, c2, c3, c4⟩, cf⟩ := id hC
  clear hf hC cf
  go_enter Tryd.func15, Tryd.ntmps15
  go_wp2_with fail
  refine (HN.out _).mono ?_
  rintro e w1 ⟨rfl, hb1⟩
  have C1 := Hid.mk' (HC.out.keep hb1)
  have B1 := Hid.mk' (HB.out.trans (hb1.mono (by simp)))
  obtain ⟨⟨d0, d1, d2, d3, d4⟩, df⟩ := C1.out
  clear hb1 HC HB HN c0 c1 c2 c3 c4 df
  go_wp2_with fail
  refine (HF.out _).mono ?_
  rintro e w2 ⟨rfl, rfl⟩
  clear HF
  go_wp2
  go_ret
  exact ⟨by rw [HL.out, tl_nil, List.append_nil]; rfl, B1.out⟩
set_option maxHeartbeats 2000000 in
theorem s8_1n (op a b v : Int) (l : List Int) (la : Option Addr) (lc : Nat) (w : World) (hf : formR (rowOf op) = 1) (ha : ¬ a = 64) :
    Calls Tryd.prog 15 #[inV ⟨op, a, b, v, l⟩ la lc] w fun e w' => e = .returned (.string (S (lnT 1 ⟨op, a, b, v, l⟩))) ∧ Below w.heap.size w w' := by
  have HN := Hid.mk' (fun w => sname_c op w)
  rw [nmL_S] at HN
  have HF := Hid.mk' (sform_c op)
  rw [hf] at HF
  have hnl := nmL_len op
  have HL : Hid (lnT 1 ⟨op, a, b, v, l⟩ = nmL op ++ tl ([typT a])) := by show _ = _; simp [lnT, fld, ha]
  have KT := Hid.mk' (fun w => sType_c a w)
  have hll := typT_len a
  generalize typT a = L at *
  generalize nmL op = N at *
  have hC : C5 (w.alloc (.cells #[.int .i64 op, .int .i64 a, .int .i64 b, .int .u64 v, .slice la l.length lc] 29)) w.heap.size 0 (.int .i64 op) (.int .i64 a) (.int .i64 b) (.int .u64 v) (.slice la l.length lc) := C5.new
  have HC := Hid.mk' hC
  have HB := Hid.mk' (show Below w.heap.size w (w.alloc (.cells #[.int .i64 op, .int .i64 a, .int .i64 b, .int .u64 v, .slice la l.length lc] 29)) from (Below.refl _ _).alloc (Nat.le_refl _) _)
  obtain ⟨⟨c0, c1, c2, c3, c4⟩, cf⟩ := id hC
  clear hf hC cf
  go_enter Tryd.func15, Tryd.ntmps15
  go_wp2_with fail
  refine (HN.out _).mono ?_
  rintro e w1 ⟨rfl, hb1⟩
  have C1 := Hid.mk' (HC.out.keep hb1)
  have B1 := Hid.mk' (HB.out.trans (hb1.mono (by simp)))
  obtain ⟨⟨d0, d1, d2, d3, d4⟩, df⟩ := C1.out
  clear hb1 HC HB HN c0 c1 c2 c3 c4 df
  go_wp2_with fail
  refine (HF.out _).mono ?_
  rintro e w2 ⟨rfl, rfl⟩
  clear HF
  have hne : (a != (64 : Int)) = true := by simp [ha]
  have q1 : ¬ 9223372036854775807 < (S N).size + 1 := by rw [S_size]; omega
  have q2 : ¬ 9223372036854775807 < (S N).size + 1 + (S L).size := by rw [S_size, S_size]; omega
  clear hnl hll
  go_wp2_with (go_at_call 25; refine (KT.out _).mono ?_; rintro e w3 ⟨rfl, rfl⟩)
  go_wp2
  go_ret
  exact ⟨by rw [HL.out, ← S1]; rfl, B1.out⟩
set_option maxHeartbeats 2000000 in
theorem s8_2 (op a b v : Int) (l : List Int) (la : Option Addr) (lc : Nat) (w : World) (hf : formR (rowOf op) = 2) (h0 : 0 ≤ a) (h1 : a ≤ 4294967295) :
    Calls Tryd.prog 15 #[inV ⟨op, a, b, v, l⟩ la lc] w fun e w' => e = .returned (.string (S (lnT 2 ⟨op, a, b, v, l⟩))) ∧ Below w.heap.size w w' := by
  have HN := Hid.mk' (fun w => sname_c op w)
  rw [nmL_S] at HN
  have HF := Hid.mk' (sform_c op)
  rw [hf] at HF
  have hnl := nmL_len op
  have HL : Hid (lnT 2 ⟨op, a, b, v, l⟩ = nmL op ++ tl ([Lib.itoa a])) := by show _ = _; simp [lnT, fld]
  have KT := Hid.mk' (fun w => sDec_c a w (by omega) (by omega))
  have hll := itoa_len a (by omega) (by omega)
  generalize Lib.itoa a = L at *
  generalize nmL op = N at *
  have hC : C5 (w.alloc (.cells #[.int .i64 op, .int .i64 a, .int .i64 b, .int .u64 v, .slice la l.length lc] 29)) w.heap.size 0 (.int .i64 op) (.int .i64 a) (.int .i64 b) (.int .u64 v) (.slice la l.length lc) := C5.new
  have HC := Hid.mk' hC
  have HB := Hid.mk' (show Below w.heap.size w (w.alloc (.cells #[.int .i64 op, .int .i64 a, .int .i64 b, .int .u64 v, .slice la l.length lc] 29)) from (Below.refl _ _).alloc (Nat.le_refl _) _)
  obtain ⟨⟨c0, c1, c2, c3, c4⟩, cf⟩ := id hC
  clear hf hC cf
  go_enter Tryd.func15, Tryd.ntmps15
  go_wp2_with fail
  refine (HN.out _).mono ?_
  rintro e w1 ⟨rfl, hb1⟩
  have C1 := Hid.mk' (HC.out.keep hb1)
  have B1 := Hid.mk' (HB.out.trans (hb1.mono (by simp)))
  obtain ⟨⟨d0, d1, d2, d3, d4⟩, df⟩ := C1.out
  clear hb1 HC HB HN c0 c1 c2 c3 c4 df
  go_wp2_with fail
  refine (HF.out _).mono ?_
  rintro e w2 ⟨rfl, rfl⟩
  clear HF
  have q1 : ¬ 9223372036854775807 < (S N).size + 1 := by rw [S_size]; omega
  have q2 : ¬ 9223372036854775807 < (S N).size + 1 + (S L).size := by rw [S_size, S_size]; omega
  clear hnl hll
  go_wp2_with (go_at_call 26; refine (KT.out _).mono ?_; rintro e w3 ⟨rfl, hb3⟩; have B2 := Hid.mk' (B1.out.trans (hb3.mono B1.out.size)); clear hb3)
  go_wp2
  go_ret
  exact ⟨by rw [HL.out, ← S1]; rfl, B2.out⟩
set_option maxHeartbeats 2000000 in
theorem s8_4 (op a b v : Int) (l : List Int) (la : Option Addr) (lc : Nat) (w : World) (hf : formR (rowOf op) = 4) (h0 : 0 ≤ a) (h1 : a ≤ 4294967295) :
    Calls Tryd.prog 15 #[inV ⟨op, a, b, v, l⟩ la lc] w fun e w' => e = .returned (.string (S (lnT 4 ⟨op, a, b, v, l⟩))) ∧ Below w.heap.size w w' := by
  have HN := Hid.mk' (fun w => sname_c op w)
  rw [nmL_S] at HN
  have HF := Hid.mk' (sform_c op)
  rw [hf] at HF
  have hnl := nmL_len op
  have HL : Hid (lnT 4 ⟨op, a, b, v, l⟩ = nmL op ++ tl ([Lib.itoa a])) := by show _ = _; simp [lnT, fld]
  have KT := Hid.mk' (fun w => sDec_c a w (by omega) (by omega))
  have hll := itoa_len a (by omega) (by omega)
  generalize Lib.itoa a = L at *
  generalize nmL op = N at *
  have hC : C5 (w.alloc (.cells #[.int .i64 op, .int .i64 a, .int .i64 b, .int .u64 v, .slice la l.length lc] 29)) w.heap.size 0 (.int .i64 op) (.int .i64 a) (.int .i64 b) (.int .u64 v) (.slice la l.length lc) := C5.new
  have HC := Hid.mk' hC
  have HB := Hid.mk' (show Below w.heap.size w (w.alloc (.cells #[.int .i64 op, .int .i64 a, .int .i64 b, .int .u64 v, .slice la l.length lc] 29)) from (Below.refl _ _).alloc (Nat.le_refl _) _)
  obtain ⟨⟨c0, c1, c2, c3, c4⟩, cf⟩ := id hC
  clear hf hC cf
  go_enter Tryd.func15, Tryd.ntmps15
  go_wp2_with fail
  refine (HN.out _).mono ?_
  rintro e w1 ⟨rfl, hb1⟩
  have C1 := Hid.mk' (HC.out.keep hb1)
  have B1 := Hid.mk' (HB.out.trans (hb1.mono (by simp)))
  obtain ⟨⟨d0, d1, d2, d3, d4⟩, df⟩ := C1.out
  clear hb1 HC HB HN c0 c1 c2 c3 c4 df
  go_wp2_with fail
  refine (HF.out _).mono ?_
  rintro e w2 ⟨rfl, rfl⟩
  clear HF
  have q1 : ¬ 9223372036854775807 < (S N).size + 1 := by rw [S_size]; omega
  have q2 : ¬ 9223372036854775807 < (S N).size + 1 + (S L).size := by rw [S_size, S_size]; omega
  clear hnl hll
  go_wp2_with (go_at_call 26; refine (KT.out _).mono ?_; rintro e w3 ⟨rfl, hb3⟩; have B2 := Hid.mk' (B1.out.trans (hb3.mono B1.out.size)); clear hb3)
  go_wp2
  go_ret
  exact ⟨by rw [HL.out, ← S1]; rfl, B2.out⟩
set_option maxHeartbeats 2000000 in
theorem s8_7 (op a b v : Int) (l : List Int) (la : Option Addr) (lc : Nat) (w : World) (hf : formR (rowOf op) = 7) (h0 : 0 ≤ v) (h1 : v ≤ 4294967295) :
    Calls Tryd.prog 15 #[inV ⟨op, a, b, v, l⟩ la lc] w fun e w' => e = .returned (.string (S (lnT 7 ⟨op, a, b, v, l⟩))) ∧ Below w.heap.size w w' := by
  have HN := Hid.mk' (fun w => sname_c op w)
  rw [nmL_S] at HN
  have HF := Hid.mk' (sform_c op)
  rw [hf] at HF
  have hnl := nmL_len op
  have HL : Hid (lnT 7 ⟨op, a, b, v, l⟩ = nmL op ++ tl ([Lib.itoa (wrap32 v)])) := by show _ = _; simp [lnT, fld]
  have KS := Hid.mk' (fun w => signed32 v w h0 h1)
  have hr : -9223372036854775808 ≤ wrap32 v ∧ wrap32 v ≤ 9223372036854775807 := by unfold wrap32; omega
  generalize wrap32 v = y at *
  have KT := Hid.mk' (fun w => sDec_c y w hr.1 hr.2)
  have hll := itoa_len y hr.1 hr.2
  generalize Lib.itoa y = L at *
  clear hr
  generalize nmL op = N at *
  have hC : C5 (w.alloc (.cells #[.int .i64 op, .int .i64 a, .int .i64 b, .int .u64 v, .slice la l.length lc] 29)) w.heap.size 0 (.int .i64 op) (.int .i64 a) (.int .i64 b) (.int .u64 v) (.slice la l.length lc) := C5.new
  have HC := Hid.mk' hC
  have HB := Hid.mk' (show Below w.heap.size w (w.alloc (.cells #[.int .i64 op, .int .i64 a, .int .i64 b, .int .u64 v, .slice la l.length lc] 29)) from (Below.refl _ _).alloc (Nat.le_refl _) _)
  obtain ⟨⟨c0, c1, c2, c3, c4⟩, cf⟩ := id hC
  clear hf hC cf
  go_enter Tryd.func15, Tryd.ntmps15
  go_wp2_with fail
  refine (HN.out _).mono ?_
  rintro e w1 ⟨rfl, hb1⟩
  have C1 := Hid.mk' (HC.out.keep hb1)
  have B1 := Hid.mk' (HB.out.trans (hb1.mono (by simp)))
  obtain ⟨⟨d0, d1, d2, d3, d4⟩, df⟩ := C1.out
  clear hb1 HC HB HN c0 c1 c2 c3 c4 df
  go_wp2_with fail
  refine (HF.out _).mono ?_
  rintro e w2 ⟨rfl, rfl⟩
  clear HF
  have q1 : ¬ 9223372036854775807 < (S N).size + 1 := by rw [S_size]; omega
  have q2 : ¬ 9223372036854775807 < (S N).size + 1 + (S L).size := by rw [S_size, S_size]; omega
  clear hnl hll
  go_wp2_with (first | (go_at_call 28; refine (KS.out _).mono ?_; rintro e w4 ⟨rfl, rfl⟩) | (go_at_call 26; refine (KT.out _).mono ?_; rintro e w3 ⟨rfl, hb3⟩; have B2 := Hid.mk' (B1.out.trans (hb3.mono B1.out.size)); clear hb3))
  go_wp2
  go_ret
  exact ⟨by rw [HL.out, ← S1]; rfl, B2.out⟩
set_option maxHeartbeats 2000000 in
theorem s8_8 (op a b v : Int) (l : List Int) (la : Option Addr) (lc : Nat) (w : World) (hf : formR (rowOf op) = 8) (h0 : 0 ≤ v) (h1 : v ≤ 18446744073709551615) :
    Calls Tryd.prog 15 #[inV ⟨op, a, b, v, l⟩ la lc] w fun e w' => e = .returned (.string (S (lnT 8 ⟨op, a, b, v, l⟩))) ∧ Below w.heap.size w w' := by
  have HN := Hid.mk' (fun w => sname_c op w)
  rw [nmL_S] at HN
  have HF := Hid.mk' (sform_c op)
  rw [hf] at HF
  have hnl := nmL_len op
  have HL : Hid (lnT 8 ⟨op, a, b, v, l⟩ = nmL op ++ tl ([Lib.itoa (wrap64 v)])) := by show _ = _; simp [lnT, fld]
  have hr : -9223372036854775808 ≤ wrap64 v ∧ wrap64 v ≤ 9223372036854775807 := by unfold wrap64; omega
  have hw : IntKind.i64.wrap v = wrap64 v := by rw [IntKind.wrap_i64, wrap64]
  generalize wrap64 v = y at *
  have KT := Hid.mk' (fun w => sDec_c y w hr.1 hr.2)
  have hll := itoa_len y hr.1 hr.2
  generalize Lib.itoa y = L at *
  clear hr
  generalize nmL op = N at *
  have hC : C5 (w.alloc (.cells #[.int .i64 op, .int .i64 a, .int .i64 b, .int .u64 v, .slice la l.length lc] 29)) w.heap.size 0 (.int .i64 op) (.int .i64 a) (.int .i64 b) (.int .u64 v) (.slice la l.length lc) := C5.new
  have HC := Hid.mk' hC
  have HB := Hid.mk' (show Below w.heap.size w (w.alloc (.cells #[.int .i64 op, .int .i64 a, .int .i64 b, .int .u64 v, .slice la l.length lc] 29)) from (Below.refl _ _).alloc (Nat.le_refl _) _)
  obtain ⟨⟨c0, c1, c2, c3, c4⟩, cf⟩ := id hC
  clear hf hC cf
  go_enter Tryd.func15, Tryd.ntmps15
  go_wp2_with fail
  refine (HN.out _).mono ?_
  rintro e w1 ⟨rfl, hb1⟩
  have C1 := Hid.mk' (HC.out.keep hb1)
  have B1 := Hid.mk' (HB.out.trans (hb1.mono (by simp)))
  obtain ⟨⟨d0, d1, d2, d3, d4⟩, df⟩ := C1.out
  clear hb1 HC HB HN c0 c1 c2 c3 c4 df
  go_wp2_with fail
  refine (HF.out _).mono ?_
  rintro e w2 ⟨rfl, rfl⟩
  clear HF
  have q1 : ¬ 9223372036854775807 < (S N).size + 1 := by rw [S_size]; omega
  have q2 : ¬ 9223372036854775807 < (S N).size + 1 + (S L).size := by rw [S_size, S_size]; omega
  clear hnl hll
  go_wp2_with (go_at_call 26; refine (KT.out _).mono ?_; rintro e w3 ⟨rfl, hb3⟩; have B2 := Hid.mk' (B1.out.trans (hb3.mono B1.out.size)); clear hb3)
  go_wp2
  go_ret
  exact ⟨by rw [HL.out, ← S1]; rfl, B2.out⟩
set_option maxHeartbeats 2000000 in
theorem s8_9 (op a b v : Int) (l : List Int) (la : Option Addr) (lc : Nat) (w : World) (hf : formR (rowOf op) = 9) (h0 : 0 ≤ v) (h1 : v ≤ 18446744073709551615) :
    Calls Tryd.prog 15 #[inV ⟨op, a, b, v, l⟩ la lc] w fun e w' => e = .returned (.string (S (lnT 9 ⟨op, a, b, v, l⟩))) ∧ Below w.heap.size w w' := by
  have HN := Hid.mk' (fun w => sname_c op w)
  rw [nmL_S] at HN
  have HF := Hid.mk' (sform_c op)
  rw [hf] at HF
  have hnl := nmL_len op
  have HL : Hid (lnT 9 ⟨op, a, b, v, l⟩ = nmL op ++ tl ([bitsT 8 v.toNat])) := by show _ = _; simp [lnT, fld]
  have KT := Hid.mk' (fun w => sHex_c v.toNat 8 w (by omega) (by omega) (by omega))
  rw [Int.toNat_of_nonneg h0] at KT
  have hll := bits_len 8 v.toNat
  generalize bitsT 8 v.toNat = L at *
  generalize nmL op = N at *
  have hC : C5 (w.alloc (.cells #[.int .i64 op, .int .i64 a, .int .i64 b, .int .u64 v, .slice la l.length lc] 29)) w.heap.size 0 (.int .i64 op) (.int .i64 a) (.int .i64 b) (.int .u64 v) (.slice la l.length lc) := C5.new
  have HC := Hid.mk' hC
  have HB := Hid.mk' (show Below w.heap.size w (w.alloc (.cells #[.int .i64 op, .int .i64 a, .int .i64 b, .int .u64 v, .slice la l.length lc] 29)) from (Below.refl _ _).alloc (Nat.le_refl _) _)
  obtain ⟨⟨c0, c1, c2, c3, c4⟩, cf⟩ := id hC
  clear hf hC cf
  go_enter Tryd.func15, Tryd.ntmps15
  go_wp2_with fail
  refine (HN.out _).mono ?_
  rintro e w1 ⟨rfl, hb1⟩
  have C1 := Hid.mk' (HC.out.keep hb1)
  have B1 := Hid.mk' (HB.out.trans (hb1.mono (by simp)))
  obtain ⟨⟨d0, d1, d2, d3, d4⟩, df⟩ := C1.out
  clear hb1 HC HB HN c0 c1 c2 c3 c4 df
  go_wp2_with fail
  refine (HF.out _).mono ?_
  rintro e w2 ⟨rfl, rfl⟩
  clear HF
  have q1 : ¬ 9223372036854775807 < (S N).size + 1 := by rw [S_size]; omega
  have q2 : ¬ 9223372036854775807 < (S N).size + 1 + (S L).size := by rw [S_size, S_size]; omega
  clear hnl hll
  go_wp2_with (go_at_call 29; refine (KT.out _).mono ?_; rintro e w3 ⟨rfl, hb3⟩; have B2 := Hid.mk' (B1.out.trans (hb3.mono B1.out.size)); clear hb3)
  go_wp2
  go_ret
  exact ⟨by rw [HL.out, ← S1]; rfl, B2.out⟩
set_option maxHeartbeats 2000000 in
theorem s8_10 (op a b v : Int) (l : List Int) (la : Option Addr) (lc : Nat) (w : World) (hf : formR (rowOf op) = 10) (h0 : 0 ≤ v) (h1 : v ≤ 18446744073709551615) :
    Calls Tryd.prog 15 #[inV ⟨op, a, b, v, l⟩ la lc] w fun e w' => e = .returned (.string (S (lnT 10 ⟨op, a, b, v, l⟩))) ∧ Below w.heap.size w w' := by
  have HN := Hid.mk' (fun w => sname_c op w)
  rw [nmL_S] at HN
  have HF := Hid.mk' (sform_c op)
  rw [hf] at HF
  have hnl := nmL_len op
  have HL : Hid (lnT 10 ⟨op, a, b, v, l⟩ = nmL op ++ tl ([bitsT 16 v.toNat])) := by show _ = _; simp [lnT, fld]
  have KT := Hid.mk' (fun w => sHex_c v.toNat 16 w (by omega) (by omega) (by omega))
  rw [Int.toNat_of_nonneg h0] at KT
  have hll := bits_len 16 v.toNat
  generalize bitsT 16 v.toNat = L at *
  generalize nmL op = N at *
  have hC : C5 (w.alloc (.cells #[.int .i64 op, .int .i64 a, .int .i64 b, .int .u64 v, .slice la l.length lc] 29)) w.heap.size 0 (.int .i64 op) (.int .i64 a) (.int .i64 b) (.int .u64 v) (.slice la l.length lc) := C5.new
  have HC := Hid.mk' hC
  have HB := Hid.mk' (show Below w.heap.size w (w.alloc (.cells #[.int .i64 op, .int .i64 a, .int .i64 b, .int .u64 v, .slice la l.length lc] 29)) from (Below.refl _ _).alloc (Nat.le_refl _) _)
  obtain ⟨⟨c0, c1, c2, c3, c4⟩, cf⟩ := id hC
  clear hf hC cf
  go_enter Tryd.func15, Tryd.ntmps15
  go_wp2_with fail
  refine (HN.out _).mono ?_
  rintro e w1 ⟨rfl, hb1⟩
  have C1 := Hid.mk' (HC.out.keep hb1)
  have B1 := Hid.mk' (HB.out.trans (hb1.mono (by simp)))
  obtain ⟨⟨d0, d1, d2, d3, d4⟩, df⟩ := C1.out
  clear hb1 HC HB HN c0 c1 c2 c3 c4 df
  go_wp2_with fail
  refine (HF.out _).mono ?_
  rintro e w2 ⟨rfl, rfl⟩
  clear HF
  have q1 : ¬ 9223372036854775807 < (S N).size + 1 := by rw [S_size]; omega
  have q2 : ¬ 9223372036854775807 < (S N).size + 1 + (S L).size := by rw [S_size, S_size]; omega
  clear hnl hll
  go_wp2_with (go_at_call 29; refine (KT.out _).mono ?_; rintro e w3 ⟨rfl, hb3⟩; have B2 := Hid.mk' (B1.out.trans (hb3.mono B1.out.size)); clear hb3)
  go_wp2
  go_ret
  exact ⟨by rw [HL.out, ← S1]; rfl, B2.out⟩
set_option maxHeartbeats 2000000 in
theorem s8_5 (op a b v : Int) (l : List Int) (la : Option Addr) (lc : Nat) (w : World) (hf : formR (rowOf op) = 5) (h0 : 0 ≤ a) (h1 : a ≤ 4294967295) (h2 : 0 ≤ b) (h3 : b ≤ 4294967295) :
    Calls Tryd.prog 15 #[inV ⟨op, a, b, v, l⟩ la lc] w fun e w' => e = .returned (.string (S (lnT 5 ⟨op, a, b, v, l⟩))) ∧ Below w.heap.size w w' := by
  have HN := Hid.mk' (fun w => sname_c op w)
  rw [nmL_S] at HN
  have HF := Hid.mk' (sform_c op)
  rw [hf] at HF
  have hnl := nmL_len op
  have HL : Hid (lnT 5 ⟨op, a, b, v, l⟩ = nmL op ++ tl ([Lib.itoa a, Lib.itoa b])) := by show _ = _; simp [lnT, fld]
  have KA := Hid.mk' (fun w => sDec_c a w (by omega) (by omega))
  have KB := Hid.mk' (fun w => sDec_c b w (by omega) (by omega))
  have hla := itoa_len a (by omega) (by omega)
  have hlb := itoa_len b (by omega) (by omega)
  generalize Lib.itoa a = L at *
  generalize Lib.itoa b = M at *
  generalize nmL op = N at *
  have hC : C5 (w.alloc (.cells #[.int .i64 op, .int .i64 a, .int .i64 b, .int .u64 v, .slice la l.length lc] 29)) w.heap.size 0 (.int .i64 op) (.int .i64 a) (.int .i64 b) (.int .u64 v) (.slice la l.length lc) := C5.new
  have HC := Hid.mk' hC
  have HB := Hid.mk' (show Below w.heap.size w (w.alloc (.cells #[.int .i64 op, .int .i64 a, .int .i64 b, .int .u64 v, .slice la l.length lc] 29)) from (Below.refl _ _).alloc (Nat.le_refl _) _)
  obtain ⟨⟨c0, c1, c2, c3, c4⟩, cf⟩ := id hC
  clear hf hC cf
  go_enter Tryd.func15, Tryd.ntmps15
  go_wp2_with fail
  refine (HN.out _).mono ?_
  rintro e w1 ⟨rfl, hb1⟩
  have C1 := Hid.mk' (HC.out.keep hb1)
  have B1 := Hid.mk' (HB.out.trans (hb1.mono (by simp)))
  obtain ⟨⟨d0, d1, d2, d3, d4⟩, df⟩ := C1.out
  clear hb1 HC HB HN c0 c1 c2 c3 c4 df
  go_wp2_with fail
  refine (HF.out _).mono ?_
  rintro e w2 ⟨rfl, rfl⟩
  clear HF
  have q1 : ¬ 9223372036854775807 < (S N).size + 1 := by rw [S_size]; omega
  have q2 : ¬ 9223372036854775807 < (S N).size + 1 + (S L).size := by rw [S_size, S_size]; omega
  have q3 : ¬ 9223372036854775807 < (S N).size + 1 + (S L).size + 1 := by rw [S_size, S_size]; omega
  have q4 : ¬ 9223372036854775807 < (S N).size + 1 + (S L).size + 1 + (S M).size := by rw [S_size, S_size, S_size]; omega
  clear hnl hla hlb
  go_wp2_with fail
  go_region_law (first
    | (go_simp
       go_at_call 26
       first
         | (refine (KA.out _).mono ?_
            rintro e w3 ⟨rfl, hb3⟩
            have hb3' : Below w1.heap.size w1 w3 := (Below.refl _ _).drew.trans hb3
            have C3 := Hid.mk' (C1.out.keep hb3')
            have B3 := Hid.mk' (B1.out.trans (hb3'.mono B1.out.size))
            obtain ⟨⟨e0, e1, e2, e3, e4⟩, ef⟩ := C3.out
            clear hb3 hb3' ef KA)
         | (refine (KB.out _).mono ?_
            rintro e w4 ⟨rfl, hb4⟩
            have B4 := Hid.mk' (B3.out.trans (hb4.mono B3.out.size))
            obtain ⟨⟨i0, i1, i2, i3, i4⟩, jf⟩ := C3.out.keep hb4
            clear hb4 jf)))
  all_goals
    go_wp2
    go_ret
    exact ⟨by rw [HL.out, show N ++ tl [L, M] = (N ++ tl [L]) ++ tl [M] by simp [tl_cons, tl_nil], ← S1, ← S1]; rfl, B4.out⟩
set_option maxHeartbeats 2000000 in
theorem s8_3 (op a b v : Int) (l : List Int) (la : Option Addr) (lc : Nat) (w : World) (hf : formR (rowOf op) = 3) (h0 : 0 ≤ a) (h1 : a ≤ 4294967295) (hn : l.length ≤ 1048576) (hu : ∀ i, i < l.length → -9223372036854775808 ≤ l.getD i 0 ∧ l.getD i 0 ≤ 9223372036854775807) (hH : Has w la l) :
    Calls Tryd.prog 15 #[inV ⟨op, a, b, v, l⟩ la lc] w fun e w' => e = .returned (.string (S (lnT 3 ⟨op, a, b, v, l⟩))) ∧ Below w.heap.size w w' := by
  have HN := Hid.mk' (fun w => sname_c op w)
  rw [nmL_S] at HN
  have HF := Hid.mk' (sform_c op)
  rw [hf] at HF
  have hnl := nmL_len op
  have HL : Hid (lnT 3 ⟨op, a, b, v, l⟩ = nmL op ++ tl (l.map Lib.itoa ++ [Lib.itoa a])) := by show _ = _; simp [lnT, fld]
  have HH := Hid.mk' hH
  have KA := Hid.mk' (fun w h => sNums_c l la lc w hn hu h)
  have KB := Hid.mk' (fun w => sDec_c a w (by omega) (by omega))
  have hla := nmT_len l hu l.length
  rw [List.take_length] at hla
  have hlb := itoa_len a (by omega) (by omega)
  rw [tl_app, show tl (l.map Lib.itoa) = nmT l from rfl] at HL
  generalize nmT l = L at *
  generalize Lib.itoa a = M at *
  clear hu hH
  generalize nmL op = N at *
  have hC : C5 (w.alloc (.cells #[.int .i64 op, .int .i64 a, .int .i64 b, .int .u64 v, .slice la l.length lc] 29)) w.heap.size 0 (.int .i64 op) (.int .i64 a) (.int .i64 b) (.int .u64 v) (.slice la l.length lc) := C5.new
  have HC := Hid.mk' hC
  have HB := Hid.mk' (show Below w.heap.size w (w.alloc (.cells #[.int .i64 op, .int .i64 a, .int .i64 b, .int .u64 v, .slice la l.length lc] 29)) from (Below.refl _ _).alloc (Nat.le_refl _) _)
  obtain ⟨⟨c0, c1, c2, c3, c4⟩, cf⟩ := id hC
  clear hf hC cf
  go_enter Tryd.func15, Tryd.ntmps15
  go_wp2_with fail
  refine (HN.out _).mono ?_
  rintro e w1 ⟨rfl, hb1⟩
  have C1 := Hid.mk' (HC.out.keep hb1)
  have B1 := Hid.mk' (HB.out.trans (hb1.mono (by simp)))
  obtain ⟨⟨d0, d1, d2, d3, d4⟩, df⟩ := C1.out
  clear hb1 HC HB HN c0 c1 c2 c3 c4 df
  go_wp2_with fail
  refine (HF.out _).mono ?_
  rintro e w2 ⟨rfl, rfl⟩
  clear HF
  have q1 : ¬ 9223372036854775807 < (S N).size + (S L).size := by rw [S_size, S_size]; omega
  have q2 : ¬ 9223372036854775807 < (S N).size + (S L).size + 1 := by rw [S_size, S_size]; omega
  have q4 : ¬ 9223372036854775807 < (S N).size + (S L).size + 1 + (S M).size := by rw [S_size, S_size, S_size]; omega
  clear hnl hla hlb
  go_wp2_with fail
  go_region_law (first
    | (go_simp
       go_at_call 27
       refine (KA.out _ (HH.out.keep B1.out.drew)).mono ?_
       rintro e w3 ⟨rfl, hb3⟩
       have hb3' : Below w1.heap.size w1 w3 := (Below.refl _ _).drew.trans hb3
       have C3 := Hid.mk' (C1.out.keep hb3')
       have B3 := Hid.mk' (B1.out.trans (hb3'.mono B1.out.size))
       obtain ⟨⟨e0, e1, e2, e3, e4⟩, ef⟩ := C3.out
       clear hb3 hb3' ef KA)
    | (go_simp
       go_at_call 26
       refine (KB.out _).mono ?_
       rintro e w4 ⟨rfl, hb4⟩
       have B4 := Hid.mk' (B3.out.trans (hb4.mono B3.out.size))
       obtain ⟨⟨i0, i1, i2, i3, i4⟩, jf⟩ := C3.out.keep hb4
       clear hb4 jf))
  all_goals
    go_wp2
    go_ret
    exact ⟨by rw [HL.out, ← List.append_assoc, ← S1, ← S_app]; rfl, B4.out⟩
end Go.Proofs.YtgjpgcfpgeonlaaDoor
