import Derived.Test.YtgjpgcfpgeonlaaDoorPi2
set_option linter.all false
set_option linter.unusedVariables false
namespace Go.Proofs.YtgjpgcfpgeonlaaDoor
open Go.RowKit Go.Sort
set_option maxRecDepth 100000
/-- A row of words that lies at or behind B. -/
def Wd (w : World) (B : Nat) (v : Value) (r : List (List UInt8)) : Prop := w.ownsRow B 9 1 v r.length (Sv r)
theorem wd_one {w w1 : World} (hb : Below w.heap.size w w1) (L : List UInt8) : Wd (w1.alloc (.cells #[.string (S L)] 9)) w.heap.size (.slice (some ⟨w1.heap.size, 0, none⟩) 1 1) [L] :=
  World.ownsRow_lit w1 #[.string (S L)] 1 hb.size (by unfold maxLen; omega) rfl
theorem wd_two {w w1 : World} (hb : Below w.heap.size w w1) (L M : List UInt8) : Wd (w1.alloc (.cells #[.string (S L), .string (S M)] 9)) w.heap.size (.slice (some ⟨w1.heap.size, 0, none⟩) 2 2) [L, M] :=
  World.ownsRow_lit w1 #[.string (S L), .string (S M)] 2 hb.size (by unfold maxLen; omega) rfl
theorem wd_two' {w w1 : World} (hb : Below w.heap.size w w1) (L M : List UInt8) : Wd (w1.alloc (.cells #[.string (S L), .string (S M)] 9)) w.heap.size (.slice (some ⟨w1.heap.size, 0, none⟩) 2 2) [L, M] := wd_two hb L M
set_option maxHeartbeats 2000000 in
theorem f8_0 (op a b v : Int) (l : List Int) (la : Option Addr) (lc : Nat) (w : World) (hf : formR (rowOf op) = 0) (hV : Vs w) :
    Calls Tryd.prog 36 #[inV ⟨op, a, b, v, l⟩ la lc] w fun e w' => ∃ u, e = .returned u ∧ Wd w' w.heap.size u (fld 0 ⟨op, a, b, v, l⟩) ∧ Below w.heap.size w w' := by
  have HF := Hid.mk' (fun w => iform_c op w)
  rw [hf] at HF
  have HL : Hid (fld 0 ⟨op, a, b, v, l⟩ = []) := by show _ = _; simp [fld]
  have hC : C5 (w.alloc (.cells #[.int .i64 op, .int .i64 a, .int .i64 b, .int .u64 v, .slice la l.length lc] 29)) w.heap.size 0 (.int .i64 op) (.int .i64 a) (.int .i64 b) (.int .u64 v) (.slice la l.length lc) := C5.new
  have HC := Hid.mk' hC
  have HB := Hid.mk' (show Below w.heap.size w (w.alloc (.cells #[.int .i64 op, .int .i64 a, .int .i64 b, .int .u64 v, .slice la l.length lc] 29)) from (Below.refl _ _).alloc (Nat.le_refl _) _)
  have HV := Hid.mk' hV
  obtain ⟨⟨c0, c1, c2, c3, c4⟩, cf⟩ := id hC
  clear hf hC cf hV
  go_enter Tryd.func36, Tryd.ntmps36
  go_wp2_with fail
  refine (HF.out _).mono ?_
  rintro e w1 ⟨rfl, hb1⟩
  have C1 := Hid.mk' (HC.out.keep hb1)
  have B1 := Hid.mk' (HB.out.trans (hb1.mono (by simp)))
  obtain ⟨⟨d0, d1, d2, d3, d4⟩, df⟩ := C1.out
  clear hb1 HC HB c0 c1 c2 c3 c4 df HF
  go_wp2
  go_ret
  exact ⟨_, rfl, by rw [HL.out]; exact World.ownsRow_nil _ _ _ _, B1.out⟩
set_option maxHeartbeats 2000000 in
theorem f8_6 (op a b v : Int) (l : List Int) (la : Option Addr) (lc : Nat) (w : World) (hf : formR (rowOf op) = 6) (hV : Vs w) :
    Calls Tryd.prog 36 #[inV ⟨op, a, b, v, l⟩ la lc] w fun e w' => ∃ u, e = .returned u ∧ Wd w' w.heap.size u (fld 6 ⟨op, a, b, v, l⟩) ∧ Below w.heap.size w w' := by
  have HF := Hid.mk' (fun w => iform_c op w)
  rw [hf] at HF
  have HL : Hid (fld 6 ⟨op, a, b, v, l⟩ = []) := by show _ = _; simp [fld]
  have hC : C5 (w.alloc (.cells #[.int .i64 op, .int .i64 a, .int .i64 b, .int .u64 v, .slice la l.length lc] 29)) w.heap.size 0 (.int .i64 op) (.int .i64 a) (.int .i64 b) (.int .u64 v) (.slice la l.length lc) := C5.new
  have HC := Hid.mk' hC
  have HB := Hid.mk' (show Below w.heap.size w (w.alloc (.cells #[.int .i64 op, .int .i64 a, .int .i64 b, .int .u64 v, .slice la l.length lc] 29)) from (Below.refl _ _).alloc (Nat.le_refl _) _)
  have HV := Hid.mk' hV
  obtain ⟨⟨c0, c1, c2, c3, c4⟩, cf⟩ := id hC
  clear hf hC cf hV
  go_enter Tryd.func36, Tryd.ntmps36
  go_wp2_with fail
  refine (HF.out _).mono ?_
  rintro e w1 ⟨rfl, hb1⟩
  have C1 := Hid.mk' (HC.out.keep hb1)
  have B1 := Hid.mk' (HB.out.trans (hb1.mono (by simp)))
  obtain ⟨⟨d0, d1, d2, d3, d4⟩, df⟩ := C1.out
  clear hb1 HC HB c0 c1 c2 c3 c4 df HF
  go_wp2
  go_ret
  exact ⟨_, rfl, by rw [HL.out]; exact World.ownsRow_nil _ _ _ _, B1.out⟩
set_option maxHeartbeats 2000000 in
theorem f8_1 (op b v : Int) (l : List Int) (la : Option Addr) (lc : Nat) (w : World) (hf : formR (rowOf op) = 1) (hV : Vs w) :
    Calls Tryd.prog 36 #[inV ⟨op, 64, b, v, l⟩ la lc] w fun e w' => ∃ u, e = .returned u ∧ Wd w' w.heap.size u (fld 1 ⟨op, 64, b, v, l⟩) ∧ Below w.heap.size w w' := by
  have HF := Hid.mk' (fun w => iform_c op w)
  rw [hf] at HF
  have HL : Hid (fld 1 ⟨op, 64, b, v, l⟩ = []) := by show _ = _; simp [fld]
  have hC : C5 (w.alloc (.cells #[.int .i64 op, .int .i64 64, .int .i64 b, .int .u64 v, .slice la l.length lc] 29)) w.heap.size 0 (.int .i64 op) (.int .i64 64) (.int .i64 b) (.int .u64 v) (.slice la l.length lc) := C5.new
  have HC := Hid.mk' hC
  have HB := Hid.mk' (show Below w.heap.size w (w.alloc (.cells #[.int .i64 op, .int .i64 64, .int .i64 b, .int .u64 v, .slice la l.length lc] 29)) from (Below.refl _ _).alloc (Nat.le_refl _) _)
  have HV := Hid.mk' hV
  obtain ⟨⟨c0, c1, c2, c3, c4⟩, cf⟩ := id hC
  clear hf hC cf hV
  go_enter Tryd.func36, Tryd.ntmps36
  go_wp2_with fail
  refine (HF.out _).mono ?_
  rintro e w1 ⟨rfl, hb1⟩
  have C1 := Hid.mk' (HC.out.keep hb1)
  have B1 := Hid.mk' (HB.out.trans (hb1.mono (by simp)))
  obtain ⟨⟨d0, d1, d2, d3, d4⟩, df⟩ := C1.out
  clear hb1 HC HB c0 c1 c2 c3 c4 df HF
  go_wp2
  go_ret
  exact ⟨_, rfl, by rw [HL.out]; exact World.ownsRow_nil _ _ _ _, B1.out⟩
set_option maxHeartbeats 2000000 in
theorem f8_1n (op a b v : Int) (l : List Int) (la : Option Addr) (lc : Nat) (w : World) (hf : formR (rowOf op) = 1) (hV : Vs w) (ha : ¬ a = 64) (hb : a = 127 ∨ a = 126 ∨ a = 125 ∨ a = 124) :
    Calls Tryd.prog 36 #[inV ⟨op, a, b, v, l⟩ la lc] w fun e w' => ∃ u, e = .returned u ∧ Wd w' w.heap.size u (fld 1 ⟨op, a, b, v, l⟩) ∧ Below w.heap.size w w' := by
  have HF := Hid.mk' (fun w => iform_c op w)
  rw [hf] at HF
  have HL : Hid (fld 1 ⟨op, a, b, v, l⟩ = [typT a]) := by show _ = _; simp [fld, ha]
  have KT := Hid.mk' (fun w (_ : True) => typ_c a w hb)
  generalize typT a = L at *
  have hne : (a != (64 : Int)) = true := by simp [ha]
  clear hb ha
  have hC : C5 (w.alloc (.cells #[.int .i64 op, .int .i64 a, .int .i64 b, .int .u64 v, .slice la l.length lc] 29)) w.heap.size 0 (.int .i64 op) (.int .i64 a) (.int .i64 b) (.int .u64 v) (.slice la l.length lc) := C5.new
  have HC := Hid.mk' hC
  have HB := Hid.mk' (show Below w.heap.size w (w.alloc (.cells #[.int .i64 op, .int .i64 a, .int .i64 b, .int .u64 v, .slice la l.length lc] 29)) from (Below.refl _ _).alloc (Nat.le_refl _) _)
  have HV := Hid.mk' hV
  obtain ⟨⟨c0, c1, c2, c3, c4⟩, cf⟩ := id hC
  clear hf hC cf hV
  go_enter Tryd.func36, Tryd.ntmps36
  go_wp2_with fail
  refine (HF.out _).mono ?_
  rintro e w1 ⟨rfl, hb1⟩
  have C1 := Hid.mk' (HC.out.keep hb1)
  have B1 := Hid.mk' (HB.out.trans (hb1.mono (by simp)))
  obtain ⟨⟨d0, d1, d2, d3, d4⟩, df⟩ := C1.out
  clear hb1 HC HB c0 c1 c2 c3 c4 df HF
  go_wp2_with (go_at_call 51; refine (KT.out _ trivial).mono ?_; rintro e w3 ⟨rfl, hb3⟩; have B2 := Hid.mk' (B1.out.trans (hb3.mono B1.out.size)); clear hb3)
  go_ret
  exact ⟨_, rfl, by rw [HL.out]; exact wd_one B2.out _, B2.out.alloc B2.out.size _⟩
set_option maxHeartbeats 2000000 in
theorem f8_2 (op a b v : Int) (l : List Int) (la : Option Addr) (lc : Nat) (w : World) (hf : formR (rowOf op) = 2) (hV : Vs w) (h0 : 0 ≤ a) (h1 : a ≤ 4294967295) :
    Calls Tryd.prog 36 #[inV ⟨op, a, b, v, l⟩ la lc] w fun e w' => ∃ u, e = .returned u ∧ Wd w' w.heap.size u (fld 2 ⟨op, a, b, v, l⟩) ∧ Below w.heap.size w w' := by
  have HF := Hid.mk' (fun w => iform_c op w)
  rw [hf] at HF
  have HL : Hid (fld 2 ⟨op, a, b, v, l⟩ = [Lib.itoa a]) := by show _ = _; simp [fld]
  have KT := Hid.mk' (fun w h => num_c a w (by omega) (by omega) h)
  generalize Lib.itoa a = L at *
  have hC : C5 (w.alloc (.cells #[.int .i64 op, .int .i64 a, .int .i64 b, .int .u64 v, .slice la l.length lc] 29)) w.heap.size 0 (.int .i64 op) (.int .i64 a) (.int .i64 b) (.int .u64 v) (.slice la l.length lc) := C5.new
  have HC := Hid.mk' hC
  have HB := Hid.mk' (show Below w.heap.size w (w.alloc (.cells #[.int .i64 op, .int .i64 a, .int .i64 b, .int .u64 v, .slice la l.length lc] 29)) from (Below.refl _ _).alloc (Nat.le_refl _) _)
  have HV := Hid.mk' hV
  obtain ⟨⟨c0, c1, c2, c3, c4⟩, cf⟩ := id hC
  clear hf hC cf hV
  go_enter Tryd.func36, Tryd.ntmps36
  go_wp2_with fail
  refine (HF.out _).mono ?_
  rintro e w1 ⟨rfl, hb1⟩
  have C1 := Hid.mk' (HC.out.keep hb1)
  have B1 := Hid.mk' (HB.out.trans (hb1.mono (by simp)))
  obtain ⟨⟨d0, d1, d2, d3, d4⟩, df⟩ := C1.out
  clear hb1 HC HB c0 c1 c2 c3 c4 df HF
  go_wp2_with (go_at_call 52; refine (KT.out _ (HV.out.keep B1.out)).mono ?_; rintro e w3 ⟨rfl, hb3⟩; have B2 := Hid.mk' (B1.out.trans (hb3.mono B1.out.size)); clear hb3)
  go_ret
  exact ⟨_, rfl, by rw [HL.out]; exact wd_one B2.out _, B2.out.alloc B2.out.size _⟩
set_option maxHeartbeats 2000000 in
theorem f8_4 (op a b v : Int) (l : List Int) (la : Option Addr) (lc : Nat) (w : World) (hf : formR (rowOf op) = 4) (hV : Vs w) (h0 : 0 ≤ a) (h1 : a ≤ 4294967295) :
    Calls Tryd.prog 36 #[inV ⟨op, a, b, v, l⟩ la lc] w fun e w' => ∃ u, e = .returned u ∧ Wd w' w.heap.size u (fld 4 ⟨op, a, b, v, l⟩) ∧ Below w.heap.size w w' := by
  have HF := Hid.mk' (fun w => iform_c op w)
  rw [hf] at HF
  have HL : Hid (fld 4 ⟨op, a, b, v, l⟩ = [Lib.itoa a]) := by show _ = _; simp [fld]
  have KT := Hid.mk' (fun w h => num_c a w (by omega) (by omega) h)
  generalize Lib.itoa a = L at *
  have hC : C5 (w.alloc (.cells #[.int .i64 op, .int .i64 a, .int .i64 b, .int .u64 v, .slice la l.length lc] 29)) w.heap.size 0 (.int .i64 op) (.int .i64 a) (.int .i64 b) (.int .u64 v) (.slice la l.length lc) := C5.new
  have HC := Hid.mk' hC
  have HB := Hid.mk' (show Below w.heap.size w (w.alloc (.cells #[.int .i64 op, .int .i64 a, .int .i64 b, .int .u64 v, .slice la l.length lc] 29)) from (Below.refl _ _).alloc (Nat.le_refl _) _)
  have HV := Hid.mk' hV
  obtain ⟨⟨c0, c1, c2, c3, c4⟩, cf⟩ := id hC
  clear hf hC cf hV
  go_enter Tryd.func36, Tryd.ntmps36
  go_wp2_with fail
  refine (HF.out _).mono ?_
  rintro e w1 ⟨rfl, hb1⟩
  have C1 := Hid.mk' (HC.out.keep hb1)
  have B1 := Hid.mk' (HB.out.trans (hb1.mono (by simp)))
  obtain ⟨⟨d0, d1, d2, d3, d4⟩, df⟩ := C1.out
  clear hb1 HC HB c0 c1 c2 c3 c4 df HF
  go_wp2_with (go_at_call 52; refine (KT.out _ (HV.out.keep B1.out)).mono ?_; rintro e w3 ⟨rfl, hb3⟩; have B2 := Hid.mk' (B1.out.trans (hb3.mono B1.out.size)); clear hb3)
  go_ret
  exact ⟨_, rfl, by rw [HL.out]; exact wd_one B2.out _, B2.out.alloc B2.out.size _⟩
set_option maxHeartbeats 2000000 in
theorem f8_7 (op a b v : Int) (l : List Int) (la : Option Addr) (lc : Nat) (w : World) (hf : formR (rowOf op) = 7) (hV : Vs w) (h0 : 0 ≤ v) (h1 : v ≤ 4294967295) :
    Calls Tryd.prog 36 #[inV ⟨op, a, b, v, l⟩ la lc] w fun e w' => ∃ u, e = .returned u ∧ Wd w' w.heap.size u (fld 7 ⟨op, a, b, v, l⟩) ∧ Below w.heap.size w w' := by
  have HF := Hid.mk' (fun w => iform_c op w)
  rw [hf] at HF
  have HL : Hid (fld 7 ⟨op, a, b, v, l⟩ = [Lib.itoa (wrap32 v)]) := by show _ = _; simp [fld]
  have hr : -9223372036854775808 ≤ wrap32 v ∧ wrap32 v ≤ 9223372036854775807 := by unfold wrap32; omega
  have hw : IntKind.i32.wrap v = wrap32 v := by rw [IntKind.wrap_i32, wrap32]
  have hw2 : IntKind.i64.wrap (wrap32 v) = wrap32 v := by rw [IntKind.wrap_i64]; omega
  generalize wrap32 v = y at *
  have KT := Hid.mk' (fun w h => num_c y w hr.1 hr.2 h)
  generalize Lib.itoa y = L at *
  clear hr
  have hC : C5 (w.alloc (.cells #[.int .i64 op, .int .i64 a, .int .i64 b, .int .u64 v, .slice la l.length lc] 29)) w.heap.size 0 (.int .i64 op) (.int .i64 a) (.int .i64 b) (.int .u64 v) (.slice la l.length lc) := C5.new
  have HC := Hid.mk' hC
  have HB := Hid.mk' (show Below w.heap.size w (w.alloc (.cells #[.int .i64 op, .int .i64 a, .int .i64 b, .int .u64 v, .slice la l.length lc] 29)) from (Below.refl _ _).alloc (Nat.le_refl _) _)
  have HV := Hid.mk' hV
  obtain ⟨⟨c0, c1, c2, c3, c4⟩, cf⟩ := id hC
  clear hf hC cf hV
  go_enter Tryd.func36, Tryd.ntmps36
  go_wp2_with fail
  refine (HF.out _).mono ?_
  rintro e w1 ⟨rfl, hb1⟩
  have C1 := Hid.mk' (HC.out.keep hb1)
  have B1 := Hid.mk' (HB.out.trans (hb1.mono (by simp)))
  obtain ⟨⟨d0, d1, d2, d3, d4⟩, df⟩ := C1.out
  clear hb1 HC HB c0 c1 c2 c3 c4 df HF
  go_wp2_with (go_at_call 52; refine (KT.out _ (HV.out.keep B1.out)).mono ?_; rintro e w3 ⟨rfl, hb3⟩; have B2 := Hid.mk' (B1.out.trans (hb3.mono B1.out.size)); clear hb3)
  go_ret
  exact ⟨_, rfl, by rw [HL.out]; exact wd_one B2.out _, B2.out.alloc B2.out.size _⟩
set_option maxHeartbeats 2000000 in
theorem f8_8 (op a b v : Int) (l : List Int) (la : Option Addr) (lc : Nat) (w : World) (hf : formR (rowOf op) = 8) (hV : Vs w) (h0 : 0 ≤ v) (h1 : v ≤ 18446744073709551615) :
    Calls Tryd.prog 36 #[inV ⟨op, a, b, v, l⟩ la lc] w fun e w' => ∃ u, e = .returned u ∧ Wd w' w.heap.size u (fld 8 ⟨op, a, b, v, l⟩) ∧ Below w.heap.size w w' := by
  have HF := Hid.mk' (fun w => iform_c op w)
  rw [hf] at HF
  have HL : Hid (fld 8 ⟨op, a, b, v, l⟩ = [Lib.itoa (wrap64 v)]) := by show _ = _; simp [fld]
  have hr : -9223372036854775808 ≤ wrap64 v ∧ wrap64 v ≤ 9223372036854775807 := by unfold wrap64; omega
  have hw : IntKind.i64.wrap v = wrap64 v := by rw [IntKind.wrap_i64, wrap64]
  generalize wrap64 v = y at *
  have KT := Hid.mk' (fun w h => num_c y w hr.1 hr.2 h)
  generalize Lib.itoa y = L at *
  clear hr
  have hC : C5 (w.alloc (.cells #[.int .i64 op, .int .i64 a, .int .i64 b, .int .u64 v, .slice la l.length lc] 29)) w.heap.size 0 (.int .i64 op) (.int .i64 a) (.int .i64 b) (.int .u64 v) (.slice la l.length lc) := C5.new
  have HC := Hid.mk' hC
  have HB := Hid.mk' (show Below w.heap.size w (w.alloc (.cells #[.int .i64 op, .int .i64 a, .int .i64 b, .int .u64 v, .slice la l.length lc] 29)) from (Below.refl _ _).alloc (Nat.le_refl _) _)
  have HV := Hid.mk' hV
  obtain ⟨⟨c0, c1, c2, c3, c4⟩, cf⟩ := id hC
  clear hf hC cf hV
  go_enter Tryd.func36, Tryd.ntmps36
  go_wp2_with fail
  refine (HF.out _).mono ?_
  rintro e w1 ⟨rfl, hb1⟩
  have C1 := Hid.mk' (HC.out.keep hb1)
  have B1 := Hid.mk' (HB.out.trans (hb1.mono (by simp)))
  obtain ⟨⟨d0, d1, d2, d3, d4⟩, df⟩ := C1.out
  clear hb1 HC HB c0 c1 c2 c3 c4 df HF
  go_wp2_with (go_at_call 52; refine (KT.out _ (HV.out.keep B1.out)).mono ?_; rintro e w3 ⟨rfl, hb3⟩; have B2 := Hid.mk' (B1.out.trans (hb3.mono B1.out.size)); clear hb3)
  go_ret
  exact ⟨_, rfl, by rw [HL.out]; exact wd_one B2.out _, B2.out.alloc B2.out.size _⟩
set_option maxHeartbeats 2000000 in
theorem f8_9 (op a b v : Int) (l : List Int) (la : Option Addr) (lc : Nat) (w : World) (hf : formR (rowOf op) = 9) (hV : Vs w) (h0 : 0 ≤ v) (h1 : v ≤ 4294967295) :
    Calls Tryd.prog 36 #[inV ⟨op, a, b, v, l⟩ la lc] w fun e w' => ∃ u, e = .returned u ∧ Wd w' w.heap.size u (fld 9 ⟨op, a, b, v, l⟩) ∧ Below w.heap.size w w' := by
  have HF := Hid.mk' (fun w => iform_c op w)
  rw [hf] at HF
  have HL : Hid (fld 9 ⟨op, a, b, v, l⟩ = [bitsT 8 v.toNat]) := by show _ = _; simp [fld]
  have e16 : (16 : Nat) ^ 8 = 4294967296 := by decide
  have KT := Hid.mk' (fun w h => bits_c v.toNat 8 w (by omega) (by omega) (by rw [e16]; omega) h)
  rw [Int.toNat_of_nonneg h0] at KT
  generalize bitsT 8 v.toNat = L at *
  clear e16
  have hC : C5 (w.alloc (.cells #[.int .i64 op, .int .i64 a, .int .i64 b, .int .u64 v, .slice la l.length lc] 29)) w.heap.size 0 (.int .i64 op) (.int .i64 a) (.int .i64 b) (.int .u64 v) (.slice la l.length lc) := C5.new
  have HC := Hid.mk' hC
  have HB := Hid.mk' (show Below w.heap.size w (w.alloc (.cells #[.int .i64 op, .int .i64 a, .int .i64 b, .int .u64 v, .slice la l.length lc] 29)) from (Below.refl _ _).alloc (Nat.le_refl _) _)
  have HV := Hid.mk' hV
  obtain ⟨⟨c0, c1, c2, c3, c4⟩, cf⟩ := id hC
  clear hf hC cf hV
  go_enter Tryd.func36, Tryd.ntmps36
  go_wp2_with fail
  refine (HF.out _).mono ?_
  rintro e w1 ⟨rfl, hb1⟩
  have C1 := Hid.mk' (HC.out.keep hb1)
  have B1 := Hid.mk' (HB.out.trans (hb1.mono (by simp)))
  obtain ⟨⟨d0, d1, d2, d3, d4⟩, df⟩ := C1.out
  clear hb1 HC HB c0 c1 c2 c3 c4 df HF
  go_wp2_with (go_at_call 54; refine (KT.out _ (HV.out.keep B1.out)).mono ?_; rintro e w3 ⟨rfl, hb3⟩; have B2 := Hid.mk' (B1.out.trans (hb3.mono B1.out.size)); clear hb3)
  go_ret
  exact ⟨_, rfl, by rw [HL.out]; exact wd_one B2.out _, B2.out.alloc B2.out.size _⟩
set_option maxHeartbeats 2000000 in
theorem f8_10 (op a b v : Int) (l : List Int) (la : Option Addr) (lc : Nat) (w : World) (hf : formR (rowOf op) = 10) (hV : Vs w) (h0 : 0 ≤ v) (h1 : v ≤ 18446744073709551615) :
    Calls Tryd.prog 36 #[inV ⟨op, a, b, v, l⟩ la lc] w fun e w' => ∃ u, e = .returned u ∧ Wd w' w.heap.size u (fld 10 ⟨op, a, b, v, l⟩) ∧ Below w.heap.size w w' := by
  have HF := Hid.mk' (fun w => iform_c op w)
  rw [hf] at HF
  have HL : Hid (fld 10 ⟨op, a, b, v, l⟩ = [bitsT 16 v.toNat]) := by show _ = _; simp [fld]
  have e16 : (16 : Nat) ^ 16 = 18446744073709551616 := by decide
  have KT := Hid.mk' (fun w h => bits_c v.toNat 16 w (by omega) (by omega) (by rw [e16]; omega) h)
  rw [Int.toNat_of_nonneg h0] at KT
  generalize bitsT 16 v.toNat = L at *
  clear e16
  have hC : C5 (w.alloc (.cells #[.int .i64 op, .int .i64 a, .int .i64 b, .int .u64 v, .slice la l.length lc] 29)) w.heap.size 0 (.int .i64 op) (.int .i64 a) (.int .i64 b) (.int .u64 v) (.slice la l.length lc) := C5.new
  have HC := Hid.mk' hC
  have HB := Hid.mk' (show Below w.heap.size w (w.alloc (.cells #[.int .i64 op, .int .i64 a, .int .i64 b, .int .u64 v, .slice la l.length lc] 29)) from (Below.refl _ _).alloc (Nat.le_refl _) _)
  have HV := Hid.mk' hV
  obtain ⟨⟨c0, c1, c2, c3, c4⟩, cf⟩ := id hC
  clear hf hC cf hV
  go_enter Tryd.func36, Tryd.ntmps36
  go_wp2_with fail
  refine (HF.out _).mono ?_
  rintro e w1 ⟨rfl, hb1⟩
  have C1 := Hid.mk' (HC.out.keep hb1)
  have B1 := Hid.mk' (HB.out.trans (hb1.mono (by simp)))
  obtain ⟨⟨d0, d1, d2, d3, d4⟩, df⟩ := C1.out
  clear hb1 HC HB c0 c1 c2 c3 c4 df HF
  go_wp2_with (go_at_call 54; refine (KT.out _ (HV.out.keep B1.out)).mono ?_; rintro e w3 ⟨rfl, hb3⟩; have B2 := Hid.mk' (B1.out.trans (hb3.mono B1.out.size)); clear hb3)
  go_ret
  exact ⟨_, rfl, by rw [HL.out]; exact wd_one B2.out _, B2.out.alloc B2.out.size _⟩
set_option maxHeartbeats 2000000 in
theorem f8_5 (op a b v : Int) (l : List Int) (la : Option Addr) (lc : Nat) (w : World) (hf : formR (rowOf op) = 5) (hV : Vs w) (h0 : 0 ≤ a) (h1 : a ≤ 4294967295) (h2 : 0 ≤ b) (h3 : b ≤ 4294967295) :
    Calls Tryd.prog 36 #[inV ⟨op, a, b, v, l⟩ la lc] w fun e w' => ∃ u, e = .returned u ∧ Wd w' w.heap.size u (fld 5 ⟨op, a, b, v, l⟩) ∧ Below w.heap.size w w' := by
  have HF := Hid.mk' (fun w => iform_c op w)
  rw [hf] at HF
  have HL : Hid (fld 5 ⟨op, a, b, v, l⟩ = [Lib.itoa a, Lib.itoa b]) := by show _ = _; simp [fld]
  have KA := Hid.mk' (fun w h => num_c a w (by omega) (by omega) h)
  have KB := Hid.mk' (fun w h => num_c b w (by omega) (by omega) h)
  generalize Lib.itoa a = L at *
  generalize Lib.itoa b = M at *
  have hC : C5 (w.alloc (.cells #[.int .i64 op, .int .i64 a, .int .i64 b, .int .u64 v, .slice la l.length lc] 29)) w.heap.size 0 (.int .i64 op) (.int .i64 a) (.int .i64 b) (.int .u64 v) (.slice la l.length lc) := C5.new
  have HC := Hid.mk' hC
  have HB := Hid.mk' (show Below w.heap.size w (w.alloc (.cells #[.int .i64 op, .int .i64 a, .int .i64 b, .int .u64 v, .slice la l.length lc] 29)) from (Below.refl _ _).alloc (Nat.le_refl _) _)
  have HV := Hid.mk' hV
  obtain ⟨⟨c0, c1, c2, c3, c4⟩, cf⟩ := id hC
  clear hf hC cf hV
  go_enter Tryd.func36, Tryd.ntmps36
  go_wp2_with fail
  refine (HF.out _).mono ?_
  rintro e w1 ⟨rfl, hb1⟩
  have C1 := Hid.mk' (HC.out.keep hb1)
  have B1 := Hid.mk' (HB.out.trans (hb1.mono (by simp)))
  obtain ⟨⟨d0, d1, d2, d3, d4⟩, df⟩ := C1.out
  clear hb1 HC HB c0 c1 c2 c3 c4 df HF
  go_wp2_with fail
  go_region_law (first
    | (go_simp
       go_at_call 52
       first
         | (refine (KA.out _ (HV.out.keep B1.out.drew)).mono ?_
            rintro e w3 ⟨rfl, hb3⟩
            have hb3' : Below w1.heap.size w1 w3 := (Below.refl _ _).drew.trans hb3
            have C3 := Hid.mk' (C1.out.keep hb3')
            have B3 := Hid.mk' (B1.out.trans (hb3'.mono B1.out.size))
            obtain ⟨⟨e0, e1, e2, e3, e4⟩, ef⟩ := C3.out
            clear hb3 hb3' ef KA)
         | (refine (KB.out _ (HV.out.keep B3.out)).mono ?_
            rintro e w4 ⟨rfl, hb4⟩
            have B4 := Hid.mk' (B3.out.trans (hb4.mono B3.out.size))
            obtain ⟨⟨i0, i1, i2, i3, i4⟩, jf⟩ := C3.out.keep hb4
            clear hb4 jf)))
  all_goals
    go_wp2
    go_ret
    exact ⟨_, rfl, by rw [HL.out]; exact wd_two B4.out _ _, B4.out.alloc B4.out.size _⟩
set_option maxHeartbeats 2000000 in
theorem f8_3 (op a b v : Int) (l : List Int) (la : Option Addr) (lc : Nat) (w : World) (hf : formR (rowOf op) = 3) (hV : Vs w) (h0 : 0 ≤ a) (h1 : a ≤ 4294967295) (hn : l.length ≤ 1048576) (hu : ∀ i, i < l.length → -9223372036854775808 ≤ l.getD i 0 ∧ l.getD i 0 ≤ 9223372036854775807) (hH : Has w la l) :
    Calls Tryd.prog 36 #[inV ⟨op, a, b, v, l⟩ la lc] w fun e w' => ∃ u, e = .returned u ∧ Wd w' w.heap.size u (fld 3 ⟨op, a, b, v, l⟩) ∧ Below w.heap.size w w' := by
  have HF := Hid.mk' (fun w => iform_c op w)
  rw [hf] at HF
  have HL : Hid (fld 3 ⟨op, a, b, v, l⟩ = l.map Lib.itoa ++ [Lib.itoa a]) := by show _ = _; simp [fld]
  have HH := Hid.mk' hH
  have KA := Hid.mk' (fun w h hv => each_c l la lc w hn hu h hv)
  have KB := Hid.mk' (fun w h => num_c a w (by omega) (by omega) h)
  have hml : (l.map Lib.itoa).length = l.length := by simp
  generalize l.map Lib.itoa = Ls at *
  generalize Lib.itoa a = M at *
  obtain ⟨i0, hi, hz0, hz1, hz2⟩ := info_parts Tryd.info9
  clear hu hH
  have hC : C5 (w.alloc (.cells #[.int .i64 op, .int .i64 a, .int .i64 b, .int .u64 v, .slice la l.length lc] 29)) w.heap.size 0 (.int .i64 op) (.int .i64 a) (.int .i64 b) (.int .u64 v) (.slice la l.length lc) := C5.new
  have HC := Hid.mk' hC
  have HB := Hid.mk' (show Below w.heap.size w (w.alloc (.cells #[.int .i64 op, .int .i64 a, .int .i64 b, .int .u64 v, .slice la l.length lc] 29)) from (Below.refl _ _).alloc (Nat.le_refl _) _)
  have HV := Hid.mk' hV
  obtain ⟨⟨c0, c1, c2, c3, c4⟩, cf⟩ := id hC
  clear hf hC cf hV
  go_enter Tryd.func36, Tryd.ntmps36
  go_wp2_with fail
  refine (HF.out _).mono ?_
  rintro e w1 ⟨rfl, hb1⟩
  have C1 := Hid.mk' (HC.out.keep hb1)
  have B1 := Hid.mk' (HB.out.trans (hb1.mono (by simp)))
  obtain ⟨⟨d0, d1, d2, d3, d4⟩, df⟩ := C1.out
  clear hb1 HC HB c0 c1 c2 c3 c4 df HF
  go_wp2_with fail
  go_region_law (first
    | (refine step_append_src rfl (.tmp 26) (.tmp 30) 53 rfl w1.heap.size 9 i0 (.string ⟨#[]⟩) 1 16 Tryd.underlying53 hi hz0 hz1 hz2 rfl (by decide) (.slice ga l.length gc) l.length (Sv Ls) (by simp [Act.eval, Act.put]) (O4.out.alloc _) ⟨w4.heap.size, 0, none⟩ 1 1 [.string (S M)] (by simp [Act.eval, Act.put]) rfl (cell_one_new _ _ _) (oneS _) (by unfold maxLen; omega) (by omega) (by have := Z4.out; simp; omega) ?_
       intro v5 w5 own5 gr5 hloc
       have O5 := Hid.mk' own5
       have B5 := Hid.mk' ((B4.out.alloc B4.out.size _).grown gr5 (by have := B4.out.size; simp; omega) (fun t ht => by have h1 := (O4.out.lt t ht).1; have h2 := B1.out.size; omega))
       clear own5 gr5 hloc)
    | (go_simp
       go_at_call 53
       refine (KA.out _ (HH.out.keep B1.out.drew) (HV.out.keep B1.out.drew)).mono ?_
       rintro e w3 ⟨v3, rfl, o3, hb3⟩
       obtain ⟨ga, gc, rfl⟩ := ownE_slice o3
       have hb3' : Below w1.heap.size w1 w3 := (Below.refl _ _).drew.trans hb3
       have C3 := Hid.mk' (C1.out.keep hb3')
       have B3 := Hid.mk' (B1.out.trans (hb3'.mono B1.out.size))
       have O3 : Hid (w3.ownsRow w1.heap.size 9 1 (.slice ga l.length gc) l.length (Sv Ls)) := o3
       have Z3 := Hid.mk' hb3'.size
       obtain ⟨⟨e0, e1, e2, e3, e4⟩, ef⟩ := C3.out
       clear hb3 hb3' ef KA o3)
    | (go_simp
       go_at_call 52
       refine (KB.out _ (HV.out.keep B3.out)).mono ?_
       rintro e w4 ⟨rfl, hb4⟩
       have B4 := Hid.mk' (B3.out.trans (hb4.mono B3.out.size))
       have O4 := Hid.mk' (ownE_keep O3.out hb4 (Nat.le_refl _))
       have Z4 := Hid.mk' (Nat.le_trans Z3.out hb4.size)
       obtain ⟨⟨f0, f1, f2, f3, f4⟩, jf⟩ := C3.out.keep hb4
       clear hb4 jf))
  all_goals
    go_wp2
    go_ret
    refine ⟨_, rfl, ?_, B5.out⟩
    rw [HL.out]
    have h : Wd w5 w.heap.size v5 (Ls ++ [M]) := by
      have h := ownE_down O5.out B1.out.size
      unfold Wd
      rw [List.length_append, hml]
      simpa [Sv] using h
    exact h
end Go.Proofs.YtgjpgcfpgeonlaaDoor
