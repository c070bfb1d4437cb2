import Derived.Test.YteaegmlnacnofaaS8
set_option linter.all false
set_option linter.unusedVariables false
namespace Go.Proofs.Yteaegmlnacnofaa
open Go.RowKit Go.Sort
set_option maxRecDepth 100000
set_option maxHeartbeats 8000000 in
theorem sins_4 (s : Nat) (ba : Option Addr) (bc : BC) (bs : List Int) (p : Nat) (op dep : Int) (w : World) (hf : formR (rowOf op) = 4) (h : Sr w s ba bc bs p 0 0) (hA : AllB bs) (hl : bs.length ≤ 1099511627776) :
    Calls Try.prog 26 #[.pointer (some ⟨s, 0, none⟩), .int .i64 op, .int .i64 dep] w (SiP (decF 4 op bs p) w s ba bc.n bs) := by
  have HF := Hid.mk' (sform_c op)
  rw [hf] at HF
  obtain ⟨W, hW⟩ : ∃ W, W = (w.alloc (.cells #[.int .i64 0, .int .i64 0, .int .i64 0, .int .u64 0, .slice none 0 0] 26)).alloc (.cells #[.int .i64 op, .int .i64 0, .int .i64 0, .int .u64 0, .slice none 0 0] 26) := ⟨_, rfl⟩
  obtain ⟨hz, hx, hb⟩ := two_box w op
  rw [← hW] at hz hx hb
  have hsl : s < w.heap.size := h.lt
  have HW := Hid.mk' hW
  have HZ := Hid.mk' hz
  have HX := Hid.mk' hx
  have HRW := Hid.mk' (h.keep hb)
  have HGW := Hid.mk' (show w.grownBy W (some s) from below_grown' hb)
  clear hf hW hz hx hb h
  show Calls _ _ _ _ (SiP ((numM false 32 bs p).bind fun v1 p1 => (markM bs p1).bind fun v2 p2 => .ok ⟨op, v1, 0, 0, []⟩ p2) _ _ _ _ _)
  have K1 := Hid.mk' (fun V (hV : Sr V s ba bc bs p 0 0) => u32_sc s ba bc bs p V hV hA hl)
  have hnz1 : (numM false 32 bs p).nz := nz_num _ _ _ _
  generalize numM false 32 bs p = M1 at *
  cases M1 with
  | bad er a =>
    have hne := hnz1 er a rfl
    clear hnz1
    go_enter Try.func26, Try.ntmps26
    go_wp2_with fail
    rw [show (w.alloc (.cells #[.int .i64 0, .int .i64 0, .int .i64 0, .int .u64 0, .slice none 0 0] 26)).alloc (.cells #[.int .i64 op, .int .i64 0, .int .i64 0, .int .u64 0, .slice none 0 0] 26) = W from HW.out.symm]
    refine (HF.out _).mono ?_
    rintro e w2 ⟨rfl, rfl⟩
    have HR2 := HRW
    have HX2 := HX
    have HZ2 := HZ
    have HG2 := HGW
    obtain ⟨⟨y0, y1, y2, y3, y4⟩, yf⟩ := HX2.out
    have yf1 := yf 1
    have yf2 := yf 2
    have yf3 := yf 3
    obtain ⟨⟨z0, z1, z2, z3, z4⟩, zf⟩ := HZ2.out
    have zf0 := zf 0
    have zf1 := zf 1
    have zf2 := zf 2
    have zf3 := zf 3
    have zf4 := zf 4
    clear HF HW yf zf
    go_wp2_with fail
    refine (K1.out _ HR2.out).mono ?_
    rintro e w3 ⟨hg, u, q, rfl, ⟨v0, rfl⟩, hr⟩
    have ha2 := Hid.mk' (c5_grown HX2.out hg (by omega))
    have hb2 := Hid.mk' (c5_grown HZ2.out hg (by omega))
    have hc2 := Hid.mk' (grown_trans HG2.out hg)
    have hd2 := Hid.mk' hr
    clear y0 y1 y2 y3 y4 yf1 yf2 yf3 z0 z1 z2 z3 z4 zf0 zf1 zf2 zf3 zf4
    obtain ⟨⟨y0, y1, y2, y3, y4⟩, yf⟩ := ha2.out
    have yf1 := yf 1
    have yf2 := yf 2
    have yf3 := yf 3
    obtain ⟨⟨z0, z1, z2, z3, z4⟩, zf⟩ := hb2.out
    have zf0 := zf 0
    have zf1 := zf 1
    have zf2 := zf 2
    have zf3 := zf 3
    have zf4 := zf 4
    clear hg hr yf zf
    have HX3 := Hid.mk' (c5_set1 (v := .int .i64 v0) ha2.out)
    have HZ3 := Hid.mk' (c5_far (X := w.heap.size + 1) (i := 1) (v := .int .i64 v0) hb2.out (by omega))
    have HG3 := Hid.mk' (sg_far hc2.out (show w.heap.size ≤ w.heap.size + 1 by omega) 1 (.int .i64 v0))
    have HR3 := Hid.mk' (hd2.out.far (show s < w.heap.size + 1 by omega) 1 (.int .i64 v0))
    have KE1 := Hid.mk' (fun (V : World) q (hV : Sr V s ba bc bs q er a) => one_se s ba bc bs q er a V hV hne)
    go_wp2_with fail
    refine (KE1.out _ _ HR3.out).mono ?_
    rintro e w4 ⟨rfl, rfl⟩
    have HX4 := HX3
    have HZ4 := HZ3
    have HG4 := HG3
    have HR4 := HR3
    go_wp2_with fail
    exact bodyPost_ret (v := inV (⟨op, v0, 0, 0, []⟩ : In) none 0) (by simp [results, Try.results26, go_sem, y0, y1, y2, y3, y4, z0, z1, z2, z3, z4]) rfl (by
      obtain ⟨t1, t2⟩ := sr_fin HR4.out HG4.out hsl
      exact ⟨t1, _, _, _, rfl, hne, _, _, t2⟩)
  | ok v1 p1 =>
    show Calls _ _ _ _ (SiP ((markM bs p1).bind fun v2 p2 => .ok ⟨op, v1, 0, 0, []⟩ p2) _ _ _ _ _)
    clear hnz1
    have K2 := Hid.mk' (fun V (hV : Sr V s ba bc bs p1 0 0) => one_sc s ba bc bs p1 V hV hA hl)
    have hnz2 : (markM bs p1).nz := nz_mark _ _
    generalize markM bs p1 = M2 at *
    cases M2 with
    | bad er a =>
      have hne := hnz2 er a rfl
      clear hnz2
      go_enter Try.func26, Try.ntmps26
      go_wp2_with fail
      rw [show (w.alloc (.cells #[.int .i64 0, .int .i64 0, .int .i64 0, .int .u64 0, .slice none 0 0] 26)).alloc (.cells #[.int .i64 op, .int .i64 0, .int .i64 0, .int .u64 0, .slice none 0 0] 26) = W from HW.out.symm]
      refine (HF.out _).mono ?_
      rintro e w2 ⟨rfl, rfl⟩
      have HR2 := HRW
      have HX2 := HX
      have HZ2 := HZ
      have HG2 := HGW
      obtain ⟨⟨y0, y1, y2, y3, y4⟩, yf⟩ := HX2.out
      have yf1 := yf 1
      have yf2 := yf 2
      have yf3 := yf 3
      obtain ⟨⟨z0, z1, z2, z3, z4⟩, zf⟩ := HZ2.out
      have zf0 := zf 0
      have zf1 := zf 1
      have zf2 := zf 2
      have zf3 := zf 3
      have zf4 := zf 4
      clear HF HW yf zf
      go_wp2_with fail
      refine (K1.out _ HR2.out).mono ?_
      rintro e w3 ⟨hg, rfl, hr⟩
      have ha2 := Hid.mk' (c5_grown HX2.out hg (by omega))
      have hb2 := Hid.mk' (c5_grown HZ2.out hg (by omega))
      have hc2 := Hid.mk' (grown_trans HG2.out hg)
      have hd2 := Hid.mk' hr
      clear y0 y1 y2 y3 y4 yf1 yf2 yf3 z0 z1 z2 z3 z4 zf0 zf1 zf2 zf3 zf4
      obtain ⟨⟨y0, y1, y2, y3, y4⟩, yf⟩ := ha2.out
      have yf1 := yf 1
      have yf2 := yf 2
      have yf3 := yf 3
      obtain ⟨⟨z0, z1, z2, z3, z4⟩, zf⟩ := hb2.out
      have zf0 := zf 0
      have zf1 := zf 1
      have zf2 := zf 2
      have zf3 := zf 3
      have zf4 := zf 4
      clear hg hr yf zf
      have HX3 := Hid.mk' (c5_set1 (v := .int .i64 v1) ha2.out)
      have HZ3 := Hid.mk' (c5_far (X := w.heap.size + 1) (i := 1) (v := .int .i64 v1) hb2.out (by omega))
      have HG3 := Hid.mk' (sg_far hc2.out (show w.heap.size ≤ w.heap.size + 1 by omega) 1 (.int .i64 v1))
      have HR3 := Hid.mk' (hd2.out.far (show s < w.heap.size + 1 by omega) 1 (.int .i64 v1))
      go_wp2_with fail
      refine (K2.out _ HR3.out).mono ?_
      rintro e w4 ⟨hg, u, q, rfl, ⟨v0, rfl⟩, hr⟩
      have ha3 := Hid.mk' (c5_grown HX3.out hg (by omega))
      have hb3 := Hid.mk' (c5_grown HZ3.out hg (by omega))
      have hc3 := Hid.mk' (grown_trans HG3.out hg)
      have hd3 := Hid.mk' hr
      clear y0 y1 y2 y3 y4 yf1 yf2 yf3 z0 z1 z2 z3 z4 zf0 zf1 zf2 zf3 zf4
      obtain ⟨⟨y0, y1, y2, y3, y4⟩, yf⟩ := ha3.out
      have yf1 := yf 1
      have yf2 := yf 2
      have yf3 := yf 3
      obtain ⟨⟨z0, z1, z2, z3, z4⟩, zf⟩ := hb3.out
      have zf0 := zf 0
      have zf1 := zf 1
      have zf2 := zf 2
      have zf3 := zf 3
      have zf4 := zf 4
      clear hg hr yf zf
      have HX4 := ha3
      have HZ4 := hb3
      have HG4 := hc3
      have HR4 := hd3
      go_wp2_with fail
      exact bodyPost_ret (v := inV (⟨op, v1, 0, 0, []⟩ : In) none 0) (by simp [results, Try.results26, go_sem, y0, y1, y2, y3, y4, z0, z1, z2, z3, z4]) rfl (by
        obtain ⟨t1, t2⟩ := sr_fin HR4.out HG4.out hsl
        exact ⟨t1, _, _, _, rfl, hne, _, _, t2⟩)
    | ok v2 p2 =>
      show Calls _ _ _ _ (SiP (.ok ⟨op, v1, 0, 0, []⟩ p2) _ _ _ _ _)
      clear hnz2
      go_enter Try.func26, Try.ntmps26
      go_wp2_with fail
      rw [show (w.alloc (.cells #[.int .i64 0, .int .i64 0, .int .i64 0, .int .u64 0, .slice none 0 0] 26)).alloc (.cells #[.int .i64 op, .int .i64 0, .int .i64 0, .int .u64 0, .slice none 0 0] 26) = W from HW.out.symm]
      refine (HF.out _).mono ?_
      rintro e w2 ⟨rfl, rfl⟩
      have HR2 := HRW
      have HX2 := HX
      have HZ2 := HZ
      have HG2 := HGW
      obtain ⟨⟨y0, y1, y2, y3, y4⟩, yf⟩ := HX2.out
      have yf1 := yf 1
      have yf2 := yf 2
      have yf3 := yf 3
      obtain ⟨⟨z0, z1, z2, z3, z4⟩, zf⟩ := HZ2.out
      have zf0 := zf 0
      have zf1 := zf 1
      have zf2 := zf 2
      have zf3 := zf 3
      have zf4 := zf 4
      clear HF HW yf zf
      go_wp2_with fail
      refine (K1.out _ HR2.out).mono ?_
      rintro e w3 ⟨hg, rfl, hr⟩
      have ha2 := Hid.mk' (c5_grown HX2.out hg (by omega))
      have hb2 := Hid.mk' (c5_grown HZ2.out hg (by omega))
      have hc2 := Hid.mk' (grown_trans HG2.out hg)
      have hd2 := Hid.mk' hr
      clear y0 y1 y2 y3 y4 yf1 yf2 yf3 z0 z1 z2 z3 z4 zf0 zf1 zf2 zf3 zf4
      obtain ⟨⟨y0, y1, y2, y3, y4⟩, yf⟩ := ha2.out
      have yf1 := yf 1
      have yf2 := yf 2
      have yf3 := yf 3
      obtain ⟨⟨z0, z1, z2, z3, z4⟩, zf⟩ := hb2.out
      have zf0 := zf 0
      have zf1 := zf 1
      have zf2 := zf 2
      have zf3 := zf 3
      have zf4 := zf 4
      clear hg hr yf zf
      have HX3 := Hid.mk' (c5_set1 (v := .int .i64 v1) ha2.out)
      have HZ3 := Hid.mk' (c5_far (X := w.heap.size + 1) (i := 1) (v := .int .i64 v1) hb2.out (by omega))
      have HG3 := Hid.mk' (sg_far hc2.out (show w.heap.size ≤ w.heap.size + 1 by omega) 1 (.int .i64 v1))
      have HR3 := Hid.mk' (hd2.out.far (show s < w.heap.size + 1 by omega) 1 (.int .i64 v1))
      go_wp2_with fail
      refine (K2.out _ HR3.out).mono ?_
      rintro e w4 ⟨hg, rfl, hr⟩
      have ha3 := Hid.mk' (c5_grown HX3.out hg (by omega))
      have hb3 := Hid.mk' (c5_grown HZ3.out hg (by omega))
      have hc3 := Hid.mk' (grown_trans HG3.out hg)
      have hd3 := Hid.mk' hr
      clear y0 y1 y2 y3 y4 yf1 yf2 yf3 z0 z1 z2 z3 z4 zf0 zf1 zf2 zf3 zf4
      obtain ⟨⟨y0, y1, y2, y3, y4⟩, yf⟩ := ha3.out
      have yf1 := yf 1
      have yf2 := yf 2
      have yf3 := yf 3
      obtain ⟨⟨z0, z1, z2, z3, z4⟩, zf⟩ := hb3.out
      have zf0 := zf 0
      have zf1 := zf 1
      have zf2 := zf 2
      have zf3 := zf 3
      have zf4 := zf 4
      clear hg hr yf zf
      have HX4 := ha3
      have HZ4 := hb3
      have HG4 := hc3
      have HR4 := hd3
      go_wp2_with fail
      exact bodyPost_ret (v := inV (⟨op, v1, 0, 0, []⟩ : In) none 0) (by simp [results, Try.results26, go_sem, y0, y1, y2, y3, y4, z0, z1, z2, z3, z4]) rfl (by
        obtain ⟨t1, t2⟩ := sr_fin HR4.out HG4.out hsl
        exact ⟨t1, _, _, _, rfl, rfl, World.ownsRow_nil _ _ _ _, _, t2⟩)
end Go.Proofs.Yteaegmlnacnofaa

set_option linter.unusedVariables false
namespace Go.Proofs.Yteaegmlnacnofaa
open Go.RowKit Go.Sort
set_option maxRecDepth 100000
set_option maxHeartbeats 8000000 in
theorem sins_5 (s : Nat) (ba : Option Addr) (bc : BC) (bs : List Int) (p : Nat) (op dep : Int) (w : World) (hf : formR (rowOf op) = 5) (h : Sr w s ba bc bs p 0 0) (hA : AllB bs) (hl : bs.length ≤ 1099511627776) :
    Calls Try.prog 26 #[.pointer (some ⟨s, 0, none⟩), .int .i64 op, .int .i64 dep] w (SiP (decF 5 op bs p) w s ba bc.n bs) := by
  have HF := Hid.mk' (sform_c op)
  rw [hf] at HF
  obtain ⟨W, hW⟩ : ∃ W, W = (w.alloc (.cells #[.int .i64 0, .int .i64 0, .int .i64 0, .int .u64 0, .slice none 0 0] 26)).alloc (.cells #[.int .i64 op, .int .i64 0, .int .i64 0, .int .u64 0, .slice none 0 0] 26) := ⟨_, rfl⟩
  obtain ⟨hz, hx, hb⟩ := two_box w op
  rw [← hW] at hz hx hb
  have hsl : s < w.heap.size := h.lt
  have HW := Hid.mk' hW
  have HZ := Hid.mk' hz
  have HX := Hid.mk' hx
  have HRW := Hid.mk' (h.keep hb)
  have HGW := Hid.mk' (show w.grownBy W (some s) from below_grown' hb)
  clear hf hW hz hx hb h
  show Calls _ _ _ _ (SiP ((numM false 32 bs p).bind fun v1 p1 => (numM false 32 bs p1).bind fun v2 p2 => .ok ⟨op, v1, v2, 0, []⟩ p2) _ _ _ _ _)
  have K1 := Hid.mk' (fun V (hV : Sr V s ba bc bs p 0 0) => u32_sc s ba bc bs p V hV hA hl)
  have hnz1 : (numM false 32 bs p).nz := nz_num _ _ _ _
  generalize numM false 32 bs p = M1 at *
  cases M1 with
  | bad er a =>
    have hne := hnz1 er a rfl
    clear hnz1
    go_enter Try.func26, Try.ntmps26
    go_wp2_with fail
    rw [show (w.alloc (.cells #[.int .i64 0, .int .i64 0, .int .i64 0, .int .u64 0, .slice none 0 0] 26)).alloc (.cells #[.int .i64 op, .int .i64 0, .int .i64 0, .int .u64 0, .slice none 0 0] 26) = W from HW.out.symm]
    refine (HF.out _).mono ?_
    rintro e w2 ⟨rfl, rfl⟩
    have HR2 := HRW
    have HX2 := HX
    have HZ2 := HZ
    have HG2 := HGW
    obtain ⟨⟨y0, y1, y2, y3, y4⟩, yf⟩ := HX2.out
    have yf1 := yf 1
    have yf2 := yf 2
    have yf3 := yf 3
    obtain ⟨⟨z0, z1, z2, z3, z4⟩, zf⟩ := HZ2.out
    have zf0 := zf 0
    have zf1 := zf 1
    have zf2 := zf 2
    have zf3 := zf 3
    have zf4 := zf 4
    clear HF HW yf zf
    go_wp2_with fail
    refine (K1.out _ HR2.out).mono ?_
    rintro e w3 ⟨hg, u, q, rfl, ⟨v0, rfl⟩, hr⟩
    have ha2 := Hid.mk' (c5_grown HX2.out hg (by omega))
    have hb2 := Hid.mk' (c5_grown HZ2.out hg (by omega))
    have hc2 := Hid.mk' (grown_trans HG2.out hg)
    have hd2 := Hid.mk' hr
    clear y0 y1 y2 y3 y4 yf1 yf2 yf3 z0 z1 z2 z3 z4 zf0 zf1 zf2 zf3 zf4
    obtain ⟨⟨y0, y1, y2, y3, y4⟩, yf⟩ := ha2.out
    have yf1 := yf 1
    have yf2 := yf 2
    have yf3 := yf 3
    obtain ⟨⟨z0, z1, z2, z3, z4⟩, zf⟩ := hb2.out
    have zf0 := zf 0
    have zf1 := zf 1
    have zf2 := zf 2
    have zf3 := zf 3
    have zf4 := zf 4
    clear hg hr yf zf
    have HX3 := Hid.mk' (c5_set1 (v := .int .i64 v0) ha2.out)
    have HZ3 := Hid.mk' (c5_far (X := w.heap.size + 1) (i := 1) (v := .int .i64 v0) hb2.out (by omega))
    have HG3 := Hid.mk' (sg_far hc2.out (show w.heap.size ≤ w.heap.size + 1 by omega) 1 (.int .i64 v0))
    have HR3 := Hid.mk' (hd2.out.far (show s < w.heap.size + 1 by omega) 1 (.int .i64 v0))
    have KE1 := Hid.mk' (fun (V : World) q (hV : Sr V s ba bc bs q er a) => u32_se s ba bc bs q er a V hV hne)
    go_wp2_with fail
    refine (KE1.out _ _ HR3.out).mono ?_
    rintro e w4 ⟨rfl, rfl⟩
    have HX4 := Hid.mk' (c5_set2 (v := .int .i64 0) HX3.out)
    have HZ4 := Hid.mk' (c5_far (X := w.heap.size + 1) (i := 2) (v := .int .i64 0) HZ3.out (by omega))
    have HG4 := Hid.mk' (sg_far HG3.out (show w.heap.size ≤ w.heap.size + 1 by omega) 2 (.int .i64 0))
    have HR4 := Hid.mk' (HR3.out.far (show s < w.heap.size + 1 by omega) 2 (.int .i64 0))
    go_wp2_with fail
    exact bodyPost_ret (v := inV (⟨op, v0, 0, 0, []⟩ : In) none 0) (by simp [results, Try.results26, go_sem, y0, y1, y2, y3, y4, z0, z1, z2, z3, z4]) rfl (by
      obtain ⟨t1, t2⟩ := sr_fin HR4.out HG4.out hsl
      exact ⟨t1, _, _, _, rfl, hne, _, _, t2⟩)
  | ok v1 p1 =>
    show Calls _ _ _ _ (SiP ((numM false 32 bs p1).bind fun v2 p2 => .ok ⟨op, v1, v2, 0, []⟩ p2) _ _ _ _ _)
    clear hnz1
    have K2 := Hid.mk' (fun V (hV : Sr V s ba bc bs p1 0 0) => u32_sc s ba bc bs p1 V hV hA hl)
    have hnz2 : (numM false 32 bs p1).nz := nz_num _ _ _ _
    generalize numM false 32 bs p1 = M2 at *
    cases M2 with
    | bad er a =>
      have hne := hnz2 er a rfl
      clear hnz2
      go_enter Try.func26, Try.ntmps26
      go_wp2_with fail
      rw [show (w.alloc (.cells #[.int .i64 0, .int .i64 0, .int .i64 0, .int .u64 0, .slice none 0 0] 26)).alloc (.cells #[.int .i64 op, .int .i64 0, .int .i64 0, .int .u64 0, .slice none 0 0] 26) = W from HW.out.symm]
      refine (HF.out _).mono ?_
      rintro e w2 ⟨rfl, rfl⟩
      have HR2 := HRW
      have HX2 := HX
      have HZ2 := HZ
      have HG2 := HGW
      obtain ⟨⟨y0, y1, y2, y3, y4⟩, yf⟩ := HX2.out
      have yf1 := yf 1
      have yf2 := yf 2
      have yf3 := yf 3
      obtain ⟨⟨z0, z1, z2, z3, z4⟩, zf⟩ := HZ2.out
      have zf0 := zf 0
      have zf1 := zf 1
      have zf2 := zf 2
      have zf3 := zf 3
      have zf4 := zf 4
      clear HF HW yf zf
      go_wp2_with fail
      refine (K1.out _ HR2.out).mono ?_
      rintro e w3 ⟨hg, rfl, hr⟩
      have ha2 := Hid.mk' (c5_grown HX2.out hg (by omega))
      have hb2 := Hid.mk' (c5_grown HZ2.out hg (by omega))
      have hc2 := Hid.mk' (grown_trans HG2.out hg)
      have hd2 := Hid.mk' hr
      clear y0 y1 y2 y3 y4 yf1 yf2 yf3 z0 z1 z2 z3 z4 zf0 zf1 zf2 zf3 zf4
      obtain ⟨⟨y0, y1, y2, y3, y4⟩, yf⟩ := ha2.out
      have yf1 := yf 1
      have yf2 := yf 2
      have yf3 := yf 3
      obtain ⟨⟨z0, z1, z2, z3, z4⟩, zf⟩ := hb2.out
      have zf0 := zf 0
      have zf1 := zf 1
      have zf2 := zf 2
      have zf3 := zf 3
      have zf4 := zf 4
      clear hg hr yf zf
      have HX3 := Hid.mk' (c5_set1 (v := .int .i64 v1) ha2.out)
      have HZ3 := Hid.mk' (c5_far (X := w.heap.size + 1) (i := 1) (v := .int .i64 v1) hb2.out (by omega))
      have HG3 := Hid.mk' (sg_far hc2.out (show w.heap.size ≤ w.heap.size + 1 by omega) 1 (.int .i64 v1))
      have HR3 := Hid.mk' (hd2.out.far (show s < w.heap.size + 1 by omega) 1 (.int .i64 v1))
      go_wp2_with fail
      refine (K2.out _ HR3.out).mono ?_
      rintro e w4 ⟨hg, u, q, rfl, ⟨v0, rfl⟩, hr⟩
      have ha3 := Hid.mk' (c5_grown HX3.out hg (by omega))
      have hb3 := Hid.mk' (c5_grown HZ3.out hg (by omega))
      have hc3 := Hid.mk' (grown_trans HG3.out hg)
      have hd3 := Hid.mk' hr
      clear y0 y1 y2 y3 y4 yf1 yf2 yf3 z0 z1 z2 z3 z4 zf0 zf1 zf2 zf3 zf4
      obtain ⟨⟨y0, y1, y2, y3, y4⟩, yf⟩ := ha3.out
      have yf1 := yf 1
      have yf2 := yf 2
      have yf3 := yf 3
      obtain ⟨⟨z0, z1, z2, z3, z4⟩, zf⟩ := hb3.out
      have zf0 := zf 0
      have zf1 := zf 1
      have zf2 := zf 2
      have zf3 := zf 3
      have zf4 := zf 4
      clear hg hr yf zf
      have HX4 := Hid.mk' (c5_set2 (v := .int .i64 v0) ha3.out)
      have HZ4 := Hid.mk' (c5_far (X := w.heap.size + 1) (i := 2) (v := .int .i64 v0) hb3.out (by omega))
      have HG4 := Hid.mk' (sg_far hc3.out (show w.heap.size ≤ w.heap.size + 1 by omega) 2 (.int .i64 v0))
      have HR4 := Hid.mk' (hd3.out.far (show s < w.heap.size + 1 by omega) 2 (.int .i64 v0))
      go_wp2_with fail
      exact bodyPost_ret (v := inV (⟨op, v1, v0, 0, []⟩ : In) none 0) (by simp [results, Try.results26, go_sem, y0, y1, y2, y3, y4, z0, z1, z2, z3, z4]) rfl (by
        obtain ⟨t1, t2⟩ := sr_fin HR4.out HG4.out hsl
        exact ⟨t1, _, _, _, rfl, hne, _, _, t2⟩)
    | ok v2 p2 =>
      show Calls _ _ _ _ (SiP (.ok ⟨op, v1, v2, 0, []⟩ p2) _ _ _ _ _)
      clear hnz2
      go_enter Try.func26, Try.ntmps26
      go_wp2_with fail
      rw [show (w.alloc (.cells #[.int .i64 0, .int .i64 0, .int .i64 0, .int .u64 0, .slice none 0 0] 26)).alloc (.cells #[.int .i64 op, .int .i64 0, .int .i64 0, .int .u64 0, .slice none 0 0] 26) = W from HW.out.symm]
      refine (HF.out _).mono ?_
      rintro e w2 ⟨rfl, rfl⟩
      have HR2 := HRW
      have HX2 := HX
      have HZ2 := HZ
      have HG2 := HGW
      obtain ⟨⟨y0, y1, y2, y3, y4⟩, yf⟩ := HX2.out
      have yf1 := yf 1
      have yf2 := yf 2
      have yf3 := yf 3
      obtain ⟨⟨z0, z1, z2, z3, z4⟩, zf⟩ := HZ2.out
      have zf0 := zf 0
      have zf1 := zf 1
      have zf2 := zf 2
      have zf3 := zf 3
      have zf4 := zf 4
      clear HF HW yf zf
      go_wp2_with fail
      refine (K1.out _ HR2.out).mono ?_
      rintro e w3 ⟨hg, rfl, hr⟩
      have ha2 := Hid.mk' (c5_grown HX2.out hg (by omega))
      have hb2 := Hid.mk' (c5_grown HZ2.out hg (by omega))
      have hc2 := Hid.mk' (grown_trans HG2.out hg)
      have hd2 := Hid.mk' hr
      clear y0 y1 y2 y3 y4 yf1 yf2 yf3 z0 z1 z2 z3 z4 zf0 zf1 zf2 zf3 zf4
      obtain ⟨⟨y0, y1, y2, y3, y4⟩, yf⟩ := ha2.out
      have yf1 := yf 1
      have yf2 := yf 2
      have yf3 := yf 3
      obtain ⟨⟨z0, z1, z2, z3, z4⟩, zf⟩ := hb2.out
      have zf0 := zf 0
      have zf1 := zf 1
      have zf2 := zf 2
      have zf3 := zf 3
      have zf4 := zf 4
      clear hg hr yf zf
      have HX3 := Hid.mk' (c5_set1 (v := .int .i64 v1) ha2.out)
      have HZ3 := Hid.mk' (c5_far (X := w.heap.size + 1) (i := 1) (v := .int .i64 v1) hb2.out (by omega))
      have HG3 := Hid.mk' (sg_far hc2.out (show w.heap.size ≤ w.heap.size + 1 by omega) 1 (.int .i64 v1))
      have HR3 := Hid.mk' (hd2.out.far (show s < w.heap.size + 1 by omega) 1 (.int .i64 v1))
      go_wp2_with fail
      refine (K2.out _ HR3.out).mono ?_
      rintro e w4 ⟨hg, rfl, hr⟩
      have ha3 := Hid.mk' (c5_grown HX3.out hg (by omega))
      have hb3 := Hid.mk' (c5_grown HZ3.out hg (by omega))
      have hc3 := Hid.mk' (grown_trans HG3.out hg)
      have hd3 := Hid.mk' hr
      clear y0 y1 y2 y3 y4 yf1 yf2 yf3 z0 z1 z2 z3 z4 zf0 zf1 zf2 zf3 zf4
      obtain ⟨⟨y0, y1, y2, y3, y4⟩, yf⟩ := ha3.out
      have yf1 := yf 1
      have yf2 := yf 2
      have yf3 := yf 3
      obtain ⟨⟨z0, z1, z2, z3, z4⟩, zf⟩ := hb3.out
      have zf0 := zf 0
      have zf1 := zf 1
      have zf2 := zf 2
      have zf3 := zf 3
      have zf4 := zf 4
      clear hg hr yf zf
      have HX4 := Hid.mk' (c5_set2 (v := .int .i64 v2) ha3.out)
      have HZ4 := Hid.mk' (c5_far (X := w.heap.size + 1) (i := 2) (v := .int .i64 v2) hb3.out (by omega))
      have HG4 := Hid.mk' (sg_far hc3.out (show w.heap.size ≤ w.heap.size + 1 by omega) 2 (.int .i64 v2))
      have HR4 := Hid.mk' (hd3.out.far (show s < w.heap.size + 1 by omega) 2 (.int .i64 v2))
      go_wp2_with fail
      exact bodyPost_ret (v := inV (⟨op, v1, v2, 0, []⟩ : In) none 0) (by simp [results, Try.results26, go_sem, y0, y1, y2, y3, y4, z0, z1, z2, z3, z4]) rfl (by
        obtain ⟨t1, t2⟩ := sr_fin HR4.out HG4.out hsl
        exact ⟨t1, _, _, _, rfl, rfl, World.ownsRow_nil _ _ _ _, _, t2⟩)
end Go.Proofs.Yteaegmlnacnofaa

set_option linter.unusedVariables false
namespace Go.Proofs.Yteaegmlnacnofaa
open Go.RowKit Go.Sort
set_option maxRecDepth 100000
set_option maxHeartbeats 8000000 in
theorem sins_9 (s : Nat) (ba : Option Addr) (bc : BC) (bs : List Int) (p : Nat) (op dep : Int) (w : World) (hf : formR (rowOf op) = 9) (h : Sr w s ba bc bs p 0 0) (hA : AllB bs) (hl : bs.length ≤ 1099511627776) :
    Calls Try.prog 26 #[.pointer (some ⟨s, 0, none⟩), .int .i64 op, .int .i64 dep] w (SiP (decF 9 op bs p) w s ba bc.n bs) := by
  have HF := Hid.mk' (sform_c op)
  rw [hf] at HF
  obtain ⟨W, hW⟩ : ∃ W, W = (w.alloc (.cells #[.int .i64 0, .int .i64 0, .int .i64 0, .int .u64 0, .slice none 0 0] 26)).alloc (.cells #[.int .i64 op, .int .i64 0, .int .i64 0, .int .u64 0, .slice none 0 0] 26) := ⟨_, rfl⟩
  obtain ⟨hz, hx, hb⟩ := two_box w op
  rw [← hW] at hz hx hb
  have hsl : s < w.heap.size := h.lt
  have HW := Hid.mk' hW
  have HZ := Hid.mk' hz
  have HX := Hid.mk' hx
  have HRW := Hid.mk' (h.keep hb)
  have HGW := Hid.mk' (show w.grownBy W (some s) from below_grown' hb)
  clear hf hW hz hx hb h
  show Calls _ _ _ _ (SiP ((fixM bs p 4).bind fun v1 p1 => .ok ⟨op, 0, 0, v1, []⟩ p1) _ _ _ _ _)
  have K1 := Hid.mk' (fun V (hV : Sr V s ba bc bs p 0 0) => fix_sc s ba bc bs p 4 V hV hA hl (by omega))
  have hnz1 : (fixM bs p 4).nz := nz_fix _ _ _
  generalize fixM bs p 4 = M1 at *
  cases M1 with
  | bad er a =>
    have hne := hnz1 er a rfl
    clear hnz1
    go_enter Try.func26, Try.ntmps26
    go_wp2_with fail
    rw [show (w.alloc (.cells #[.int .i64 0, .int .i64 0, .int .i64 0, .int .u64 0, .slice none 0 0] 26)).alloc (.cells #[.int .i64 op, .int .i64 0, .int .i64 0, .int .u64 0, .slice none 0 0] 26) = W from HW.out.symm]
    refine (HF.out _).mono ?_
    rintro e w2 ⟨rfl, rfl⟩
    have HR2 := HRW
    have HX2 := HX
    have HZ2 := HZ
    have HG2 := HGW
    obtain ⟨⟨y0, y1, y2, y3, y4⟩, yf⟩ := HX2.out
    have yf1 := yf 1
    have yf2 := yf 2
    have yf3 := yf 3
    obtain ⟨⟨z0, z1, z2, z3, z4⟩, zf⟩ := HZ2.out
    have zf0 := zf 0
    have zf1 := zf 1
    have zf2 := zf 2
    have zf3 := zf 3
    have zf4 := zf 4
    clear HF HW yf zf
    go_wp2_with fail
    refine (K1.out _ HR2.out).mono ?_
    rintro e w3 ⟨hg, u, q, rfl, ⟨v0, rfl⟩, hr⟩
    have ha2 := Hid.mk' (c5_grown HX2.out hg (by omega))
    have hb2 := Hid.mk' (c5_grown HZ2.out hg (by omega))
    have hc2 := Hid.mk' (grown_trans HG2.out hg)
    have hd2 := Hid.mk' hr
    clear y0 y1 y2 y3 y4 yf1 yf2 yf3 z0 z1 z2 z3 z4 zf0 zf1 zf2 zf3 zf4
    obtain ⟨⟨y0, y1, y2, y3, y4⟩, yf⟩ := ha2.out
    have yf1 := yf 1
    have yf2 := yf 2
    have yf3 := yf 3
    obtain ⟨⟨z0, z1, z2, z3, z4⟩, zf⟩ := hb2.out
    have zf0 := zf 0
    have zf1 := zf 1
    have zf2 := zf 2
    have zf3 := zf 3
    have zf4 := zf 4
    clear hg hr yf zf
    have HX3 := Hid.mk' (c5_set3 (v := .int .u64 v0) ha2.out)
    have HZ3 := Hid.mk' (c5_far (X := w.heap.size + 1) (i := 3) (v := .int .u64 v0) hb2.out (by omega))
    have HG3 := Hid.mk' (sg_far hc2.out (show w.heap.size ≤ w.heap.size + 1 by omega) 3 (.int .u64 v0))
    have HR3 := Hid.mk' (hd2.out.far (show s < w.heap.size + 1 by omega) 3 (.int .u64 v0))
    go_wp2_with fail
    exact bodyPost_ret (v := inV (⟨op, 0, 0, v0, []⟩ : In) none 0) (by simp [results, Try.results26, go_sem, y0, y1, y2, y3, y4, z0, z1, z2, z3, z4]) rfl (by
      obtain ⟨t1, t2⟩ := sr_fin HR3.out HG3.out hsl
      exact ⟨t1, _, _, _, rfl, hne, _, _, t2⟩)
  | ok v1 p1 =>
    show Calls _ _ _ _ (SiP (.ok ⟨op, 0, 0, v1, []⟩ p1) _ _ _ _ _)
    clear hnz1
    go_enter Try.func26, Try.ntmps26
    go_wp2_with fail
    rw [show (w.alloc (.cells #[.int .i64 0, .int .i64 0, .int .i64 0, .int .u64 0, .slice none 0 0] 26)).alloc (.cells #[.int .i64 op, .int .i64 0, .int .i64 0, .int .u64 0, .slice none 0 0] 26) = W from HW.out.symm]
    refine (HF.out _).mono ?_
    rintro e w2 ⟨rfl, rfl⟩
    have HR2 := HRW
    have HX2 := HX
    have HZ2 := HZ
    have HG2 := HGW
    obtain ⟨⟨y0, y1, y2, y3, y4⟩, yf⟩ := HX2.out
    have yf1 := yf 1
    have yf2 := yf 2
    have yf3 := yf 3
    obtain ⟨⟨z0, z1, z2, z3, z4⟩, zf⟩ := HZ2.out
    have zf0 := zf 0
    have zf1 := zf 1
    have zf2 := zf 2
    have zf3 := zf 3
    have zf4 := zf 4
    clear HF HW yf zf
    go_wp2_with fail
    refine (K1.out _ HR2.out).mono ?_
    rintro e w3 ⟨hg, rfl, hr⟩
    have ha2 := Hid.mk' (c5_grown HX2.out hg (by omega))
    have hb2 := Hid.mk' (c5_grown HZ2.out hg (by omega))
    have hc2 := Hid.mk' (grown_trans HG2.out hg)
    have hd2 := Hid.mk' hr
    clear y0 y1 y2 y3 y4 yf1 yf2 yf3 z0 z1 z2 z3 z4 zf0 zf1 zf2 zf3 zf4
    obtain ⟨⟨y0, y1, y2, y3, y4⟩, yf⟩ := ha2.out
    have yf1 := yf 1
    have yf2 := yf 2
    have yf3 := yf 3
    obtain ⟨⟨z0, z1, z2, z3, z4⟩, zf⟩ := hb2.out
    have zf0 := zf 0
    have zf1 := zf 1
    have zf2 := zf 2
    have zf3 := zf 3
    have zf4 := zf 4
    clear hg hr yf zf
    have HX3 := Hid.mk' (c5_set3 (v := .int .u64 v1) ha2.out)
    have HZ3 := Hid.mk' (c5_far (X := w.heap.size + 1) (i := 3) (v := .int .u64 v1) hb2.out (by omega))
    have HG3 := Hid.mk' (sg_far hc2.out (show w.heap.size ≤ w.heap.size + 1 by omega) 3 (.int .u64 v1))
    have HR3 := Hid.mk' (hd2.out.far (show s < w.heap.size + 1 by omega) 3 (.int .u64 v1))
    go_wp2_with fail
    exact bodyPost_ret (v := inV (⟨op, 0, 0, v1, []⟩ : In) none 0) (by simp [results, Try.results26, go_sem, y0, y1, y2, y3, y4, z0, z1, z2, z3, z4]) rfl (by
      obtain ⟨t1, t2⟩ := sr_fin HR3.out HG3.out hsl
      exact ⟨t1, _, _, _, rfl, rfl, World.ownsRow_nil _ _ _ _, _, t2⟩)
set_option maxHeartbeats 8000000 in
theorem sins_10 (s : Nat) (ba : Option Addr) (bc : BC) (bs : List Int) (p : Nat) (op dep : Int) (w : World) (hf : formR (rowOf op) = 10) (h : Sr w s ba bc bs p 0 0) (hA : AllB bs) (hl : bs.length ≤ 1099511627776) :
    Calls Try.prog 26 #[.pointer (some ⟨s, 0, none⟩), .int .i64 op, .int .i64 dep] w (SiP (decF 10 op bs p) w s ba bc.n bs) := by
  have HF := Hid.mk' (sform_c op)
  rw [hf] at HF
  obtain ⟨W, hW⟩ : ∃ W, W = (w.alloc (.cells #[.int .i64 0, .int .i64 0, .int .i64 0, .int .u64 0, .slice none 0 0] 26)).alloc (.cells #[.int .i64 op, .int .i64 0, .int .i64 0, .int .u64 0, .slice none 0 0] 26) := ⟨_, rfl⟩
  obtain ⟨hz, hx, hb⟩ := two_box w op
  rw [← hW] at hz hx hb
  have hsl : s < w.heap.size := h.lt
  have HW := Hid.mk' hW
  have HZ := Hid.mk' hz
  have HX := Hid.mk' hx
  have HRW := Hid.mk' (h.keep hb)
  have HGW := Hid.mk' (show w.grownBy W (some s) from below_grown' hb)
  clear hf hW hz hx hb h
  show Calls _ _ _ _ (SiP ((fixM bs p 8).bind fun v1 p1 => .ok ⟨op, 0, 0, v1, []⟩ p1) _ _ _ _ _)
  have K1 := Hid.mk' (fun V (hV : Sr V s ba bc bs p 0 0) => fix_sc s ba bc bs p 8 V hV hA hl (by omega))
  have hnz1 : (fixM bs p 8).nz := nz_fix _ _ _
  generalize fixM bs p 8 = M1 at *
  cases M1 with
  | bad er a =>
    have hne := hnz1 er a rfl
    clear hnz1
    go_enter Try.func26, Try.ntmps26
    go_wp2_with fail
    rw [show (w.alloc (.cells #[.int .i64 0, .int .i64 0, .int .i64 0, .int .u64 0, .slice none 0 0] 26)).alloc (.cells #[.int .i64 op, .int .i64 0, .int .i64 0, .int .u64 0, .slice none 0 0] 26) = W from HW.out.symm]
    refine (HF.out _).mono ?_
    rintro e w2 ⟨rfl, rfl⟩
    have HR2 := HRW
    have HX2 := HX
    have HZ2 := HZ
    have HG2 := HGW
    obtain ⟨⟨y0, y1, y2, y3, y4⟩, yf⟩ := HX2.out
    have yf1 := yf 1
    have yf2 := yf 2
    have yf3 := yf 3
    obtain ⟨⟨z0, z1, z2, z3, z4⟩, zf⟩ := HZ2.out
    have zf0 := zf 0
    have zf1 := zf 1
    have zf2 := zf 2
    have zf3 := zf 3
    have zf4 := zf 4
    clear HF HW yf zf
    go_wp2_with fail
    refine (K1.out _ HR2.out).mono ?_
    rintro e w3 ⟨hg, u, q, rfl, ⟨v0, rfl⟩, hr⟩
    have ha2 := Hid.mk' (c5_grown HX2.out hg (by omega))
    have hb2 := Hid.mk' (c5_grown HZ2.out hg (by omega))
    have hc2 := Hid.mk' (grown_trans HG2.out hg)
    have hd2 := Hid.mk' hr
    clear y0 y1 y2 y3 y4 yf1 yf2 yf3 z0 z1 z2 z3 z4 zf0 zf1 zf2 zf3 zf4
    obtain ⟨⟨y0, y1, y2, y3, y4⟩, yf⟩ := ha2.out
    have yf1 := yf 1
    have yf2 := yf 2
    have yf3 := yf 3
    obtain ⟨⟨z0, z1, z2, z3, z4⟩, zf⟩ := hb2.out
    have zf0 := zf 0
    have zf1 := zf 1
    have zf2 := zf 2
    have zf3 := zf 3
    have zf4 := zf 4
    clear hg hr yf zf
    have HX3 := Hid.mk' (c5_set3 (v := .int .u64 v0) ha2.out)
    have HZ3 := Hid.mk' (c5_far (X := w.heap.size + 1) (i := 3) (v := .int .u64 v0) hb2.out (by omega))
    have HG3 := Hid.mk' (sg_far hc2.out (show w.heap.size ≤ w.heap.size + 1 by omega) 3 (.int .u64 v0))
    have HR3 := Hid.mk' (hd2.out.far (show s < w.heap.size + 1 by omega) 3 (.int .u64 v0))
    go_wp2_with fail
    exact bodyPost_ret (v := inV (⟨op, 0, 0, v0, []⟩ : In) none 0) (by simp [results, Try.results26, go_sem, y0, y1, y2, y3, y4, z0, z1, z2, z3, z4]) rfl (by
      obtain ⟨t1, t2⟩ := sr_fin HR3.out HG3.out hsl
      exact ⟨t1, _, _, _, rfl, hne, _, _, t2⟩)
  | ok v1 p1 =>
    show Calls _ _ _ _ (SiP (.ok ⟨op, 0, 0, v1, []⟩ p1) _ _ _ _ _)
    clear hnz1
    go_enter Try.func26, Try.ntmps26
    go_wp2_with fail
    rw [show (w.alloc (.cells #[.int .i64 0, .int .i64 0, .int .i64 0, .int .u64 0, .slice none 0 0] 26)).alloc (.cells #[.int .i64 op, .int .i64 0, .int .i64 0, .int .u64 0, .slice none 0 0] 26) = W from HW.out.symm]
    refine (HF.out _).mono ?_
    rintro e w2 ⟨rfl, rfl⟩
    have HR2 := HRW
    have HX2 := HX
    have HZ2 := HZ
    have HG2 := HGW
    obtain ⟨⟨y0, y1, y2, y3, y4⟩, yf⟩ := HX2.out
    have yf1 := yf 1
    have yf2 := yf 2
    have yf3 := yf 3
    obtain ⟨⟨z0, z1, z2, z3, z4⟩, zf⟩ := HZ2.out
    have zf0 := zf 0
    have zf1 := zf 1
    have zf2 := zf 2
    have zf3 := zf 3
    have zf4 := zf 4
    clear HF HW yf zf
    go_wp2_with fail
    refine (K1.out _ HR2.out).mono ?_
    rintro e w3 ⟨hg, rfl, hr⟩
    have ha2 := Hid.mk' (c5_grown HX2.out hg (by omega))
    have hb2 := Hid.mk' (c5_grown HZ2.out hg (by omega))
    have hc2 := Hid.mk' (grown_trans HG2.out hg)
    have hd2 := Hid.mk' hr
    clear y0 y1 y2 y3 y4 yf1 yf2 yf3 z0 z1 z2 z3 z4 zf0 zf1 zf2 zf3 zf4
    obtain ⟨⟨y0, y1, y2, y3, y4⟩, yf⟩ := ha2.out
    have yf1 := yf 1
    have yf2 := yf 2
    have yf3 := yf 3
    obtain ⟨⟨z0, z1, z2, z3, z4⟩, zf⟩ := hb2.out
    have zf0 := zf 0
    have zf1 := zf 1
    have zf2 := zf 2
    have zf3 := zf 3
    have zf4 := zf 4
    clear hg hr yf zf
    have HX3 := Hid.mk' (c5_set3 (v := .int .u64 v1) ha2.out)
    have HZ3 := Hid.mk' (c5_far (X := w.heap.size + 1) (i := 3) (v := .int .u64 v1) hb2.out (by omega))
    have HG3 := Hid.mk' (sg_far hc2.out (show w.heap.size ≤ w.heap.size + 1 by omega) 3 (.int .u64 v1))
    have HR3 := Hid.mk' (hd2.out.far (show s < w.heap.size + 1 by omega) 3 (.int .u64 v1))
    go_wp2_with fail
    exact bodyPost_ret (v := inV (⟨op, 0, 0, v1, []⟩ : In) none 0) (by simp [results, Try.results26, go_sem, y0, y1, y2, y3, y4, z0, z1, z2, z3, z4]) rfl (by
      obtain ⟨t1, t2⟩ := sr_fin HR3.out HG3.out hsl
      exact ⟨t1, _, _, _, rfl, rfl, World.ownsRow_nil _ _ _ _, _, t2⟩)
end Go.Proofs.Yteaegmlnacnofaa
