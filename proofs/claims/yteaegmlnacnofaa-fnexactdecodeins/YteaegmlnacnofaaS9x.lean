import Derived.Test.YteaegmlnacnofaaS8
set_option linter.all false
set_option linter.unusedVariables false
namespace Go.Proofs.Yteaegmlnacnofaa
open Go.RowKit Go.Sort
set_option maxRecDepth 100000
set_option maxHeartbeats 8000000 in
theorem sins_0 (s : Nat) (ba : Option Addr) (bc : BC) (bs : List Int) (p : Nat) (op dep : Int) (w : World) (hf : formR (rowOf op) = 0) (h : Sr w s ba bc bs p 0 0) (hA : AllB bs) (hl : bs.length ≤ 1099511627776) :
    Calls Try.prog 26 #[.pointer (some ⟨s, 0, none⟩), .int .i64 op, .int .i64 dep] w (SiP (decF 0 op bs p) w s ba bc.n bs) := by
  have HF := Hid.mk' (sform_c op)
  rw [hf] at HF
  obtain ⟨W, hW⟩ : ∃ W, W = (w.alloc (.cells #[.int .i64 0, .int .i64 0, .int .i64 0, .int .u64 0, .slice none 0 0] 26)).alloc (.cells #[.int .i64 op, .int .i64 0, .int .i64 0, .int .u64 0, .slice none 0 0] 26) := ⟨_, rfl⟩
  obtain ⟨hz, hx, hb⟩ := two_box w op
  rw [← hW] at hz hx hb
  have hsl : s < w.heap.size := h.lt
  have HW := Hid.mk' hW
  have HZ := Hid.mk' hz
  have HX := Hid.mk' hx
  have HRW := Hid.mk' (h.keep hb)
  have HGW := Hid.mk' (show w.grownBy W (some s) from below_grown' hb)
  clear hf hW hz hx hb h
  show Calls _ _ _ _ (SiP (.ok ⟨op, 0, 0, 0, []⟩ p) _ _ _ _ _)
  go_enter Try.func26, Try.ntmps26
  go_wp2_with fail
  rw [show (w.alloc (.cells #[.int .i64 0, .int .i64 0, .int .i64 0, .int .u64 0, .slice none 0 0] 26)).alloc (.cells #[.int .i64 op, .int .i64 0, .int .i64 0, .int .u64 0, .slice none 0 0] 26) = W from HW.out.symm]
  refine (HF.out _).mono ?_
  rintro e w2 ⟨rfl, rfl⟩
  have HR2 := HRW
  have HX2 := HX
  have HZ2 := HZ
  have HG2 := HGW
  obtain ⟨⟨y0, y1, y2, y3, y4⟩, yf⟩ := HX2.out
  have yf1 := yf 1
  have yf2 := yf 2
  have yf3 := yf 3
  obtain ⟨⟨z0, z1, z2, z3, z4⟩, zf⟩ := HZ2.out
  have zf0 := zf 0
  have zf1 := zf 1
  have zf2 := zf 2
  have zf3 := zf 3
  have zf4 := zf 4
  clear HF HW yf zf
  go_wp2_with fail
  exact bodyPost_ret (v := inV (⟨op, 0, 0, 0, []⟩ : In) none 0) (by simp [results, Try.results26, go_sem, y0, y1, y2, y3, y4, z0, z1, z2, z3, z4]) rfl (by
    obtain ⟨t1, t2⟩ := sr_fin HR2.out HG2.out hsl
    exact ⟨t1, _, _, _, rfl, rfl, World.ownsRow_nil _ _ _ _, _, t2⟩)
set_option maxHeartbeats 8000000 in
theorem sins_2 (s : Nat) (ba : Option Addr) (bc : BC) (bs : List Int) (p : Nat) (op dep : Int) (w : World) (hf : formR (rowOf op) = 2) (h : Sr w s ba bc bs p 0 0) (hA : AllB bs) (hl : bs.length ≤ 1099511627776) :
    Calls Try.prog 26 #[.pointer (some ⟨s, 0, none⟩), .int .i64 op, .int .i64 dep] w (SiP (decF 2 op bs p) w s ba bc.n bs) := by
  have HF := Hid.mk' (sform_c op)
  rw [hf] at HF
  obtain ⟨W, hW⟩ : ∃ W, W = (w.alloc (.cells #[.int .i64 0, .int .i64 0, .int .i64 0, .int .u64 0, .slice none 0 0] 26)).alloc (.cells #[.int .i64 op, .int .i64 0, .int .i64 0, .int .u64 0, .slice none 0 0] 26) := ⟨_, rfl⟩
  obtain ⟨hz, hx, hb⟩ := two_box w op
  rw [← hW] at hz hx hb
  have hsl : s < w.heap.size := h.lt
  have HW := Hid.mk' hW
  have HZ := Hid.mk' hz
  have HX := Hid.mk' hx
  have HRW := Hid.mk' (h.keep hb)
  have HGW := Hid.mk' (show w.grownBy W (some s) from below_grown' hb)
  clear hf hW hz hx hb h
  show Calls _ _ _ _ (SiP ((numM false 32 bs p).bind fun v1 p1 => .ok ⟨op, v1, 0, 0, []⟩ p1) _ _ _ _ _)
  have K1 := Hid.mk' (fun V (hV : Sr V s ba bc bs p 0 0) => u32_sc s ba bc bs p V hV hA hl)
  have hnz1 : (numM false 32 bs p).nz := nz_num _ _ _ _
  generalize numM false 32 bs p = M1 at *
  cases M1 with
  | bad er a =>
    have hne := hnz1 er a rfl
    clear hnz1
    go_enter Try.func26, Try.ntmps26
    go_wp2_with fail
    rw [show (w.alloc (.cells #[.int .i64 0, .int .i64 0, .int .i64 0, .int .u64 0, .slice none 0 0] 26)).alloc (.cells #[.int .i64 op, .int .i64 0, .int .i64 0, .int .u64 0, .slice none 0 0] 26) = W from HW.out.symm]
    refine (HF.out _).mono ?_
    rintro e w2 ⟨rfl, rfl⟩
    have HR2 := HRW
    have HX2 := HX
    have HZ2 := HZ
    have HG2 := HGW
    obtain ⟨⟨y0, y1, y2, y3, y4⟩, yf⟩ := HX2.out
    have yf1 := yf 1
    have yf2 := yf 2
    have yf3 := yf 3
    obtain ⟨⟨z0, z1, z2, z3, z4⟩, zf⟩ := HZ2.out
    have zf0 := zf 0
    have zf1 := zf 1
    have zf2 := zf 2
    have zf3 := zf 3
    have zf4 := zf 4
    clear HF HW yf zf
    go_wp2_with fail
    refine (K1.out _ HR2.out).mono ?_
    rintro e w3 ⟨hg, u, q, rfl, ⟨v0, rfl⟩, hr⟩
    have ha2 := Hid.mk' (c5_grown HX2.out hg (by omega))
    have hb2 := Hid.mk' (c5_grown HZ2.out hg (by omega))
    have hc2 := Hid.mk' (grown_trans HG2.out hg)
    have hd2 := Hid.mk' hr
    clear y0 y1 y2 y3 y4 yf1 yf2 yf3 z0 z1 z2 z3 z4 zf0 zf1 zf2 zf3 zf4
    obtain ⟨⟨y0, y1, y2, y3, y4⟩, yf⟩ := ha2.out
    have yf1 := yf 1
    have yf2 := yf 2
    have yf3 := yf 3
    obtain ⟨⟨z0, z1, z2, z3, z4⟩, zf⟩ := hb2.out
    have zf0 := zf 0
    have zf1 := zf 1
    have zf2 := zf 2
    have zf3 := zf 3
    have zf4 := zf 4
    clear hg hr yf zf
    have HX3 := Hid.mk' (c5_set1 (v := .int .i64 v0) ha2.out)
    have HZ3 := Hid.mk' (c5_far (X := w.heap.size + 1) (i := 1) (v := .int .i64 v0) hb2.out (by omega))
    have HG3 := Hid.mk' (sg_far hc2.out (show w.heap.size ≤ w.heap.size + 1 by omega) 1 (.int .i64 v0))
    have HR3 := Hid.mk' (hd2.out.far (show s < w.heap.size + 1 by omega) 1 (.int .i64 v0))
    go_wp2_with fail
    exact bodyPost_ret (v := inV (⟨op, v0, 0, 0, []⟩ : In) none 0) (by simp [results, Try.results26, go_sem, y0, y1, y2, y3, y4, z0, z1, z2, z3, z4]) rfl (by
      obtain ⟨t1, t2⟩ := sr_fin HR3.out HG3.out hsl
      exact ⟨t1, _, _, _, rfl, hne, _, _, t2⟩)
  | ok v1 p1 =>
    show Calls _ _ _ _ (SiP (.ok ⟨op, v1, 0, 0, []⟩ p1) _ _ _ _ _)
    clear hnz1
    go_enter Try.func26, Try.ntmps26
    go_wp2_with fail
    rw [show (w.alloc (.cells #[.int .i64 0, .int .i64 0, .int .i64 0, .int .u64 0, .slice none 0 0] 26)).alloc (.cells #[.int .i64 op, .int .i64 0, .int .i64 0, .int .u64 0, .slice none 0 0] 26) = W from HW.out.symm]
    refine (HF.out _).mono ?_
    rintro e w2 ⟨rfl, rfl⟩
    have HR2 := HRW
    have HX2 := HX
    have HZ2 := HZ
    have HG2 := HGW
    obtain ⟨⟨y0, y1, y2, y3, y4⟩, yf⟩ := HX2.out
    have yf1 := yf 1
    have yf2 := yf 2
    have yf3 := yf 3
    obtain ⟨⟨z0, z1, z2, z3, z4⟩, zf⟩ := HZ2.out
    have zf0 := zf 0
    have zf1 := zf 1
    have zf2 := zf 2
    have zf3 := zf 3
    have zf4 := zf 4
    clear HF HW yf zf
    go_wp2_with fail
    refine (K1.out _ HR2.out).mono ?_
    rintro e w3 ⟨hg, rfl, hr⟩
    have ha2 := Hid.mk' (c5_grown HX2.out hg (by omega))
    have hb2 := Hid.mk' (c5_grown HZ2.out hg (by omega))
    have hc2 := Hid.mk' (grown_trans HG2.out hg)
    have hd2 := Hid.mk' hr
    clear y0 y1 y2 y3 y4 yf1 yf2 yf3 z0 z1 z2 z3 z4 zf0 zf1 zf2 zf3 zf4
    obtain ⟨⟨y0, y1, y2, y3, y4⟩, yf⟩ := ha2.out
    have yf1 := yf 1
    have yf2 := yf 2
    have yf3 := yf 3
    obtain ⟨⟨z0, z1, z2, z3, z4⟩, zf⟩ := hb2.out
    have zf0 := zf 0
    have zf1 := zf 1
    have zf2 := zf 2
    have zf3 := zf 3
    have zf4 := zf 4
    clear hg hr yf zf
    have HX3 := Hid.mk' (c5_set1 (v := .int .i64 v1) ha2.out)
    have HZ3 := Hid.mk' (c5_far (X := w.heap.size + 1) (i := 1) (v := .int .i64 v1) hb2.out (by omega))
    have HG3 := Hid.mk' (sg_far hc2.out (show w.heap.size ≤ w.heap.size + 1 by omega) 1 (.int .i64 v1))
    have HR3 := Hid.mk' (hd2.out.far (show s < w.heap.size + 1 by omega) 1 (.int .i64 v1))
    go_wp2_with fail
    exact bodyPost_ret (v := inV (⟨op, v1, 0, 0, []⟩ : In) none 0) (by simp [results, Try.results26, go_sem, y0, y1, y2, y3, y4, z0, z1, z2, z3, z4]) rfl (by
      obtain ⟨t1, t2⟩ := sr_fin HR3.out HG3.out hsl
      exact ⟨t1, _, _, _, rfl, rfl, World.ownsRow_nil _ _ _ _, _, t2⟩)
set_option maxHeartbeats 8000000 in
theorem sins_6 (s : Nat) (ba : Option Addr) (bc : BC) (bs : List Int) (p : Nat) (op dep : Int) (w : World) (hf : formR (rowOf op) = 6) (h : Sr w s ba bc bs p 0 0) (hA : AllB bs) (hl : bs.length ≤ 1099511627776) :
    Calls Try.prog 26 #[.pointer (some ⟨s, 0, none⟩), .int .i64 op, .int .i64 dep] w (SiP (decF 6 op bs p) w s ba bc.n bs) := by
  have HF := Hid.mk' (sform_c op)
  rw [hf] at HF
  obtain ⟨W, hW⟩ : ∃ W, W = (w.alloc (.cells #[.int .i64 0, .int .i64 0, .int .i64 0, .int .u64 0, .slice none 0 0] 26)).alloc (.cells #[.int .i64 op, .int .i64 0, .int .i64 0, .int .u64 0, .slice none 0 0] 26) := ⟨_, rfl⟩
  obtain ⟨hz, hx, hb⟩ := two_box w op
  rw [← hW] at hz hx hb
  have hsl : s < w.heap.size := h.lt
  have HW := Hid.mk' hW
  have HZ := Hid.mk' hz
  have HX := Hid.mk' hx
  have HRW := Hid.mk' (h.keep hb)
  have HGW := Hid.mk' (show w.grownBy W (some s) from below_grown' hb)
  clear hf hW hz hx hb h
  show Calls _ _ _ _ (SiP ((markM bs p).bind fun v1 p1 => .ok ⟨op, 0, 0, 0, []⟩ p1) _ _ _ _ _)
  have K1 := Hid.mk' (fun V (hV : Sr V s ba bc bs p 0 0) => one_sc s ba bc bs p V hV hA hl)
  have hnz1 : (markM bs p).nz := nz_mark _ _
  generalize markM bs p = M1 at *
  cases M1 with
  | bad er a =>
    have hne := hnz1 er a rfl
    clear hnz1
    go_enter Try.func26, Try.ntmps26
    go_wp2_with fail
    rw [show (w.alloc (.cells #[.int .i64 0, .int .i64 0, .int .i64 0, .int .u64 0, .slice none 0 0] 26)).alloc (.cells #[.int .i64 op, .int .i64 0, .int .i64 0, .int .u64 0, .slice none 0 0] 26) = W from HW.out.symm]
    refine (HF.out _).mono ?_
    rintro e w2 ⟨rfl, rfl⟩
    have HR2 := HRW
    have HX2 := HX
    have HZ2 := HZ
    have HG2 := HGW
    obtain ⟨⟨y0, y1, y2, y3, y4⟩, yf⟩ := HX2.out
    have yf1 := yf 1
    have yf2 := yf 2
    have yf3 := yf 3
    obtain ⟨⟨z0, z1, z2, z3, z4⟩, zf⟩ := HZ2.out
    have zf0 := zf 0
    have zf1 := zf 1
    have zf2 := zf 2
    have zf3 := zf 3
    have zf4 := zf 4
    clear HF HW yf zf
    go_wp2_with fail
    refine (K1.out _ HR2.out).mono ?_
    rintro e w3 ⟨hg, u, q, rfl, ⟨v0, rfl⟩, hr⟩
    have ha2 := Hid.mk' (c5_grown HX2.out hg (by omega))
    have hb2 := Hid.mk' (c5_grown HZ2.out hg (by omega))
    have hc2 := Hid.mk' (grown_trans HG2.out hg)
    have hd2 := Hid.mk' hr
    clear y0 y1 y2 y3 y4 yf1 yf2 yf3 z0 z1 z2 z3 z4 zf0 zf1 zf2 zf3 zf4
    obtain ⟨⟨y0, y1, y2, y3, y4⟩, yf⟩ := ha2.out
    have yf1 := yf 1
    have yf2 := yf 2
    have yf3 := yf 3
    obtain ⟨⟨z0, z1, z2, z3, z4⟩, zf⟩ := hb2.out
    have zf0 := zf 0
    have zf1 := zf 1
    have zf2 := zf 2
    have zf3 := zf 3
    have zf4 := zf 4
    clear hg hr yf zf
    have HX3 := ha2
    have HZ3 := hb2
    have HG3 := hc2
    have HR3 := hd2
    go_wp2_with fail
    exact bodyPost_ret (v := inV (⟨op, 0, 0, 0, []⟩ : In) none 0) (by simp [results, Try.results26, go_sem, y0, y1, y2, y3, y4, z0, z1, z2, z3, z4]) rfl (by
      obtain ⟨t1, t2⟩ := sr_fin HR3.out HG3.out hsl
      exact ⟨t1, _, _, _, rfl, hne, _, _, t2⟩)
  | ok v1 p1 =>
    show Calls _ _ _ _ (SiP (.ok ⟨op, 0, 0, 0, []⟩ p1) _ _ _ _ _)
    clear hnz1
    go_enter Try.func26, Try.ntmps26
    go_wp2_with fail
    rw [show (w.alloc (.cells #[.int .i64 0, .int .i64 0, .int .i64 0, .int .u64 0, .slice none 0 0] 26)).alloc (.cells #[.int .i64 op, .int .i64 0, .int .i64 0, .int .u64 0, .slice none 0 0] 26) = W from HW.out.symm]
    refine (HF.out _).mono ?_
    rintro e w2 ⟨rfl, rfl⟩
    have HR2 := HRW
    have HX2 := HX
    have HZ2 := HZ
    have HG2 := HGW
    obtain ⟨⟨y0, y1, y2, y3, y4⟩, yf⟩ := HX2.out
    have yf1 := yf 1
    have yf2 := yf 2
    have yf3 := yf 3
    obtain ⟨⟨z0, z1, z2, z3, z4⟩, zf⟩ := HZ2.out
    have zf0 := zf 0
    have zf1 := zf 1
    have zf2 := zf 2
    have zf3 := zf 3
    have zf4 := zf 4
    clear HF HW yf zf
    go_wp2_with fail
    refine (K1.out _ HR2.out).mono ?_
    rintro e w3 ⟨hg, rfl, hr⟩
    have ha2 := Hid.mk' (c5_grown HX2.out hg (by omega))
    have hb2 := Hid.mk' (c5_grown HZ2.out hg (by omega))
    have hc2 := Hid.mk' (grown_trans HG2.out hg)
    have hd2 := Hid.mk' hr
    clear y0 y1 y2 y3 y4 yf1 yf2 yf3 z0 z1 z2 z3 z4 zf0 zf1 zf2 zf3 zf4
    obtain ⟨⟨y0, y1, y2, y3, y4⟩, yf⟩ := ha2.out
    have yf1 := yf 1
    have yf2 := yf 2
    have yf3 := yf 3
    obtain ⟨⟨z0, z1, z2, z3, z4⟩, zf⟩ := hb2.out
    have zf0 := zf 0
    have zf1 := zf 1
    have zf2 := zf 2
    have zf3 := zf 3
    have zf4 := zf 4
    clear hg hr yf zf
    have HX3 := ha2
    have HZ3 := hb2
    have HG3 := hc2
    have HR3 := hd2
    go_wp2_with fail
    exact bodyPost_ret (v := inV (⟨op, 0, 0, 0, []⟩ : In) none 0) (by simp [results, Try.results26, go_sem, y0, y1, y2, y3, y4, z0, z1, z2, z3, z4]) rfl (by
      obtain ⟨t1, t2⟩ := sr_fin HR3.out HG3.out hsl
      exact ⟨t1, _, _, _, rfl, rfl, World.ownsRow_nil _ _ _ _, _, t2⟩)
end Go.Proofs.Yteaegmlnacnofaa

set_option linter.unusedVariables false
namespace Go.Proofs.Yteaegmlnacnofaa
open Go.RowKit Go.Sort
set_option maxRecDepth 100000
set_option maxHeartbeats 8000000 in
theorem sins_7 (s : Nat) (ba : Option Addr) (bc : BC) (bs : List Int) (p : Nat) (op dep : Int) (w : World) (hf : formR (rowOf op) = 7) (h : Sr w s ba bc bs p 0 0) (hA : AllB bs) (hl : bs.length ≤ 1099511627776) :
    Calls Try.prog 26 #[.pointer (some ⟨s, 0, none⟩), .int .i64 op, .int .i64 dep] w (SiP (decF 7 op bs p) w s ba bc.n bs) := by
  have HF := Hid.mk' (sform_c op)
  rw [hf] at HF
  obtain ⟨W, hW⟩ : ∃ W, W = (w.alloc (.cells #[.int .i64 0, .int .i64 0, .int .i64 0, .int .u64 0, .slice none 0 0] 26)).alloc (.cells #[.int .i64 op, .int .i64 0, .int .i64 0, .int .u64 0, .slice none 0 0] 26) := ⟨_, rfl⟩
  obtain ⟨hz, hx, hb⟩ := two_box w op
  rw [← hW] at hz hx hb
  have hsl : s < w.heap.size := h.lt
  have HW := Hid.mk' hW
  have HZ := Hid.mk' hz
  have HX := Hid.mk' hx
  have HRW := Hid.mk' (h.keep hb)
  have HGW := Hid.mk' (show w.grownBy W (some s) from below_grown' hb)
  clear hf hW hz hx hb h
  show Calls _ _ _ _ (SiP ((numM true 32 bs p).bind fun v1 p1 => .ok ⟨op, 0, 0, v1 % 4294967296, []⟩ p1) _ _ _ _ _)
  have K1 := Hid.mk' (fun V (hV : Sr V s ba bc bs p 0 0) => lebS_sc s ba bc bs p V hV hA hl)
  have hnz1 : (numM true 32 bs p).nz := nz_num _ _ _ _
  have hbd1 := fun v p1 => num_bd (s := true) (B := 32) (bs := bs) (p := p) (p1 := p1) (v := v)
  generalize numM true 32 bs p = M1 at *
  cases M1 with
  | bad er a =>
    have hne := hnz1 er a rfl
    clear hnz1
    clear hbd1
    go_enter Try.func26, Try.ntmps26
    go_wp2_with fail
    rw [show (w.alloc (.cells #[.int .i64 0, .int .i64 0, .int .i64 0, .int .u64 0, .slice none 0 0] 26)).alloc (.cells #[.int .i64 op, .int .i64 0, .int .i64 0, .int .u64 0, .slice none 0 0] 26) = W from HW.out.symm]
    refine (HF.out _).mono ?_
    rintro e w2 ⟨rfl, rfl⟩
    have HR2 := HRW
    have HX2 := HX
    have HZ2 := HZ
    have HG2 := HGW
    obtain ⟨⟨y0, y1, y2, y3, y4⟩, yf⟩ := HX2.out
    have yf1 := yf 1
    have yf2 := yf 2
    have yf3 := yf 3
    obtain ⟨⟨z0, z1, z2, z3, z4⟩, zf⟩ := HZ2.out
    have zf0 := zf 0
    have zf1 := zf 1
    have zf2 := zf 2
    have zf3 := zf 3
    have zf4 := zf 4
    clear HF HW yf zf
    go_wp2_with fail
    refine (K1.out _ HR2.out).mono ?_
    rintro e w3 ⟨hg, u, q, rfl, ⟨v0, rfl, hu0, hu1⟩, hr⟩
    have ha2 := Hid.mk' (c5_grown HX2.out hg (by omega))
    have hb2 := Hid.mk' (c5_grown HZ2.out hg (by omega))
    have hc2 := Hid.mk' (grown_trans HG2.out hg)
    have hd2 := Hid.mk' hr
    clear y0 y1 y2 y3 y4 yf1 yf2 yf3 z0 z1 z2 z3 z4 zf0 zf1 zf2 zf3 zf4
    obtain ⟨⟨y0, y1, y2, y3, y4⟩, yf⟩ := ha2.out
    have yf1 := yf 1
    have yf2 := yf 2
    have yf3 := yf 3
    obtain ⟨⟨z0, z1, z2, z3, z4⟩, zf⟩ := hb2.out
    have zf0 := zf 0
    have zf1 := zf 1
    have zf2 := zf 2
    have zf3 := zf 3
    have zf4 := zf 4
    clear hg hr yf zf
    have KL := Hid.mk' (fun V => slow32 v0 V hu0 hu1)
    go_wp2_with fail
    refine (KL.out _).mono ?_
    rintro e w9 ⟨rfl, rfl⟩
    have HX3 := Hid.mk' (c5_set3 (v := .int .u64 (v0 % 4294967296)) ha2.out)
    have HZ3 := Hid.mk' (c5_far (X := w.heap.size + 1) (i := 3) (v := .int .u64 (v0 % 4294967296)) hb2.out (by omega))
    have HG3 := Hid.mk' (sg_far hc2.out (show w.heap.size ≤ w.heap.size + 1 by omega) 3 (.int .u64 (v0 % 4294967296)))
    have HR3 := Hid.mk' (hd2.out.far (show s < w.heap.size + 1 by omega) 3 (.int .u64 (v0 % 4294967296)))
    go_wp2_with fail
    exact bodyPost_ret (v := inV (⟨op, 0, 0, v0 % 4294967296, []⟩ : In) none 0) (by simp [results, Try.results26, go_sem, y0, y1, y2, y3, y4, z0, z1, z2, z3, z4]) rfl (by
      obtain ⟨t1, t2⟩ := sr_fin HR3.out HG3.out hsl
      exact ⟨t1, _, _, _, rfl, hne, _, _, t2⟩)
  | ok v1 p1 =>
    show Calls _ _ _ _ (SiP (.ok ⟨op, 0, 0, v1 % 4294967296, []⟩ p1) _ _ _ _ _)
    clear hnz1
    obtain ⟨hv0, hv1⟩ := hbd1 v1 p1 rfl
    clear hbd1
    go_enter Try.func26, Try.ntmps26
    go_wp2_with fail
    rw [show (w.alloc (.cells #[.int .i64 0, .int .i64 0, .int .i64 0, .int .u64 0, .slice none 0 0] 26)).alloc (.cells #[.int .i64 op, .int .i64 0, .int .i64 0, .int .u64 0, .slice none 0 0] 26) = W from HW.out.symm]
    refine (HF.out _).mono ?_
    rintro e w2 ⟨rfl, rfl⟩
    have HR2 := HRW
    have HX2 := HX
    have HZ2 := HZ
    have HG2 := HGW
    obtain ⟨⟨y0, y1, y2, y3, y4⟩, yf⟩ := HX2.out
    have yf1 := yf 1
    have yf2 := yf 2
    have yf3 := yf 3
    obtain ⟨⟨z0, z1, z2, z3, z4⟩, zf⟩ := HZ2.out
    have zf0 := zf 0
    have zf1 := zf 1
    have zf2 := zf 2
    have zf3 := zf 3
    have zf4 := zf 4
    clear HF HW yf zf
    go_wp2_with fail
    refine (K1.out _ HR2.out).mono ?_
    rintro e w3 ⟨hg, rfl, hr⟩
    have ha2 := Hid.mk' (c5_grown HX2.out hg (by omega))
    have hb2 := Hid.mk' (c5_grown HZ2.out hg (by omega))
    have hc2 := Hid.mk' (grown_trans HG2.out hg)
    have hd2 := Hid.mk' hr
    clear y0 y1 y2 y3 y4 yf1 yf2 yf3 z0 z1 z2 z3 z4 zf0 zf1 zf2 zf3 zf4
    obtain ⟨⟨y0, y1, y2, y3, y4⟩, yf⟩ := ha2.out
    have yf1 := yf 1
    have yf2 := yf 2
    have yf3 := yf 3
    obtain ⟨⟨z0, z1, z2, z3, z4⟩, zf⟩ := hb2.out
    have zf0 := zf 0
    have zf1 := zf 1
    have zf2 := zf 2
    have zf3 := zf 3
    have zf4 := zf 4
    clear hg hr yf zf
    have KL := Hid.mk' (fun V => slow32 v1 V hv0 hv1)
    go_wp2_with fail
    refine (KL.out _).mono ?_
    rintro e w9 ⟨rfl, rfl⟩
    have HX3 := Hid.mk' (c5_set3 (v := .int .u64 (v1 % 4294967296)) ha2.out)
    have HZ3 := Hid.mk' (c5_far (X := w.heap.size + 1) (i := 3) (v := .int .u64 (v1 % 4294967296)) hb2.out (by omega))
    have HG3 := Hid.mk' (sg_far hc2.out (show w.heap.size ≤ w.heap.size + 1 by omega) 3 (.int .u64 (v1 % 4294967296)))
    have HR3 := Hid.mk' (hd2.out.far (show s < w.heap.size + 1 by omega) 3 (.int .u64 (v1 % 4294967296)))
    go_wp2_with fail
    exact bodyPost_ret (v := inV (⟨op, 0, 0, v1 % 4294967296, []⟩ : In) none 0) (by simp [results, Try.results26, go_sem, y0, y1, y2, y3, y4, z0, z1, z2, z3, z4]) rfl (by
      obtain ⟨t1, t2⟩ := sr_fin HR3.out HG3.out hsl
      exact ⟨t1, _, _, _, rfl, rfl, World.ownsRow_nil _ _ _ _, _, t2⟩)
set_option maxHeartbeats 8000000 in
theorem sins_8 (s : Nat) (ba : Option Addr) (bc : BC) (bs : List Int) (p : Nat) (op dep : Int) (w : World) (hf : formR (rowOf op) = 8) (h : Sr w s ba bc bs p 0 0) (hA : AllB bs) (hl : bs.length ≤ 1099511627776) :
    Calls Try.prog 26 #[.pointer (some ⟨s, 0, none⟩), .int .i64 op, .int .i64 dep] w (SiP (decF 8 op bs p) w s ba bc.n bs) := by
  have HF := Hid.mk' (sform_c op)
  rw [hf] at HF
  obtain ⟨W, hW⟩ : ∃ W, W = (w.alloc (.cells #[.int .i64 0, .int .i64 0, .int .i64 0, .int .u64 0, .slice none 0 0] 26)).alloc (.cells #[.int .i64 op, .int .i64 0, .int .i64 0, .int .u64 0, .slice none 0 0] 26) := ⟨_, rfl⟩
  obtain ⟨hz, hx, hb⟩ := two_box w op
  rw [← hW] at hz hx hb
  have hsl : s < w.heap.size := h.lt
  have HW := Hid.mk' hW
  have HZ := Hid.mk' hz
  have HX := Hid.mk' hx
  have HRW := Hid.mk' (h.keep hb)
  have HGW := Hid.mk' (show w.grownBy W (some s) from below_grown' hb)
  clear hf hW hz hx hb h
  show Calls _ _ _ _ (SiP ((numM true 64 bs p).bind fun v1 p1 => .ok ⟨op, 0, 0, v1, []⟩ p1) _ _ _ _ _)
  have K1 := Hid.mk' (fun V (hV : Sr V s ba bc bs p 0 0) => lebL_sc s ba bc bs p V hV hA hl)
  have hnz1 : (numM true 64 bs p).nz := nz_num _ _ _ _
  have hbd1 := fun v p1 => num_bd (s := true) (B := 64) (bs := bs) (p := p) (p1 := p1) (v := v)
  generalize numM true 64 bs p = M1 at *
  cases M1 with
  | bad er a =>
    have hne := hnz1 er a rfl
    clear hnz1
    clear hbd1
    go_enter Try.func26, Try.ntmps26
    go_wp2_with fail
    rw [show (w.alloc (.cells #[.int .i64 0, .int .i64 0, .int .i64 0, .int .u64 0, .slice none 0 0] 26)).alloc (.cells #[.int .i64 op, .int .i64 0, .int .i64 0, .int .u64 0, .slice none 0 0] 26) = W from HW.out.symm]
    refine (HF.out _).mono ?_
    rintro e w2 ⟨rfl, rfl⟩
    have HR2 := HRW
    have HX2 := HX
    have HZ2 := HZ
    have HG2 := HGW
    obtain ⟨⟨y0, y1, y2, y3, y4⟩, yf⟩ := HX2.out
    have yf1 := yf 1
    have yf2 := yf 2
    have yf3 := yf 3
    obtain ⟨⟨z0, z1, z2, z3, z4⟩, zf⟩ := HZ2.out
    have zf0 := zf 0
    have zf1 := zf 1
    have zf2 := zf 2
    have zf3 := zf 3
    have zf4 := zf 4
    clear HF HW yf zf
    go_wp2_with fail
    refine (K1.out _ HR2.out).mono ?_
    rintro e w3 ⟨hg, u, q, rfl, ⟨v0, rfl, hu0, hu1⟩, hr⟩
    have ha2 := Hid.mk' (c5_grown HX2.out hg (by omega))
    have hb2 := Hid.mk' (c5_grown HZ2.out hg (by omega))
    have hc2 := Hid.mk' (grown_trans HG2.out hg)
    have hd2 := Hid.mk' hr
    clear y0 y1 y2 y3 y4 yf1 yf2 yf3 z0 z1 z2 z3 z4 zf0 zf1 zf2 zf3 zf4
    obtain ⟨⟨y0, y1, y2, y3, y4⟩, yf⟩ := ha2.out
    have yf1 := yf 1
    have yf2 := yf 2
    have yf3 := yf 3
    obtain ⟨⟨z0, z1, z2, z3, z4⟩, zf⟩ := hb2.out
    have zf0 := zf 0
    have zf1 := zf 1
    have zf2 := zf 2
    have zf3 := zf 3
    have zf4 := zf 4
    clear hg hr yf zf
    have HX3 := Hid.mk' (c5_set3 (v := .int .u64 v0) ha2.out)
    have HZ3 := Hid.mk' (c5_far (X := w.heap.size + 1) (i := 3) (v := .int .u64 v0) hb2.out (by omega))
    have HG3 := Hid.mk' (sg_far hc2.out (show w.heap.size ≤ w.heap.size + 1 by omega) 3 (.int .u64 v0))
    have HR3 := Hid.mk' (hd2.out.far (show s < w.heap.size + 1 by omega) 3 (.int .u64 v0))
    go_wp2_with fail
    exact bodyPost_ret (v := inV (⟨op, 0, 0, v0, []⟩ : In) none 0) (by simp [results, Try.results26, go_sem, y0, y1, y2, y3, y4, z0, z1, z2, z3, z4]) rfl (by
      obtain ⟨t1, t2⟩ := sr_fin HR3.out HG3.out hsl
      exact ⟨t1, _, _, _, rfl, hne, _, _, t2⟩)
  | ok v1 p1 =>
    show Calls _ _ _ _ (SiP (.ok ⟨op, 0, 0, v1, []⟩ p1) _ _ _ _ _)
    clear hnz1
    obtain ⟨hv0, hv1⟩ := hbd1 v1 p1 rfl
    clear hbd1
    go_enter Try.func26, Try.ntmps26
    go_wp2_with fail
    rw [show (w.alloc (.cells #[.int .i64 0, .int .i64 0, .int .i64 0, .int .u64 0, .slice none 0 0] 26)).alloc (.cells #[.int .i64 op, .int .i64 0, .int .i64 0, .int .u64 0, .slice none 0 0] 26) = W from HW.out.symm]
    refine (HF.out _).mono ?_
    rintro e w2 ⟨rfl, rfl⟩
    have HR2 := HRW
    have HX2 := HX
    have HZ2 := HZ
    have HG2 := HGW
    obtain ⟨⟨y0, y1, y2, y3, y4⟩, yf⟩ := HX2.out
    have yf1 := yf 1
    have yf2 := yf 2
    have yf3 := yf 3
    obtain ⟨⟨z0, z1, z2, z3, z4⟩, zf⟩ := HZ2.out
    have zf0 := zf 0
    have zf1 := zf 1
    have zf2 := zf 2
    have zf3 := zf 3
    have zf4 := zf 4
    clear HF HW yf zf
    go_wp2_with fail
    refine (K1.out _ HR2.out).mono ?_
    rintro e w3 ⟨hg, rfl, hr⟩
    have ha2 := Hid.mk' (c5_grown HX2.out hg (by omega))
    have hb2 := Hid.mk' (c5_grown HZ2.out hg (by omega))
    have hc2 := Hid.mk' (grown_trans HG2.out hg)
    have hd2 := Hid.mk' hr
    clear y0 y1 y2 y3 y4 yf1 yf2 yf3 z0 z1 z2 z3 z4 zf0 zf1 zf2 zf3 zf4
    obtain ⟨⟨y0, y1, y2, y3, y4⟩, yf⟩ := ha2.out
    have yf1 := yf 1
    have yf2 := yf 2
    have yf3 := yf 3
    obtain ⟨⟨z0, z1, z2, z3, z4⟩, zf⟩ := hb2.out
    have zf0 := zf 0
    have zf1 := zf 1
    have zf2 := zf 2
    have zf3 := zf 3
    have zf4 := zf 4
    clear hg hr yf zf
    have HX3 := Hid.mk' (c5_set3 (v := .int .u64 v1) ha2.out)
    have HZ3 := Hid.mk' (c5_far (X := w.heap.size + 1) (i := 3) (v := .int .u64 v1) hb2.out (by omega))
    have HG3 := Hid.mk' (sg_far hc2.out (show w.heap.size ≤ w.heap.size + 1 by omega) 3 (.int .u64 v1))
    have HR3 := Hid.mk' (hd2.out.far (show s < w.heap.size + 1 by omega) 3 (.int .u64 v1))
    go_wp2_with fail
    exact bodyPost_ret (v := inV (⟨op, 0, 0, v1, []⟩ : In) none 0) (by simp [results, Try.results26, go_sem, y0, y1, y2, y3, y4, z0, z1, z2, z3, z4]) rfl (by
      obtain ⟨t1, t2⟩ := sr_fin HR3.out HG3.out hsl
      exact ⟨t1, _, _, _, rfl, rfl, World.ownsRow_nil _ _ _ _, _, t2⟩)
end Go.Proofs.Yteaegmlnacnofaa

set_option linter.unusedVariables false
namespace Go.Proofs.Yteaegmlnacnofaa
open Go.RowKit Go.Sort
set_option maxRecDepth 100000
set_option maxHeartbeats 8000000 in
theorem sinse_0 (s : Nat) (ba : Option Addr) (bc : BC) (bs : List Int) (p : Nat) (er a op dep : Int) (w : World) (hf : formR (rowOf op) = 0) (hne : er ≠ 0) (h : Sr w s ba bc bs p er a) :
    Calls Try.prog 26 #[.pointer (some ⟨s, 0, none⟩), .int .i64 op, .int .i64 dep] w (SiP (.bad er a) w s ba bc.n bs) := by
  have HF := Hid.mk' (sform_c op)
  rw [hf] at HF
  obtain ⟨W, hW⟩ : ∃ W, W = (w.alloc (.cells #[.int .i64 0, .int .i64 0, .int .i64 0, .int .u64 0, .slice none 0 0] 26)).alloc (.cells #[.int .i64 op, .int .i64 0, .int .i64 0, .int .u64 0, .slice none 0 0] 26) := ⟨_, rfl⟩
  obtain ⟨hz, hx, hb⟩ := two_box w op
  rw [← hW] at hz hx hb
  have hsl : s < w.heap.size := h.lt
  have HW := Hid.mk' hW
  have HZ := Hid.mk' hz
  have HX := Hid.mk' hx
  have HRW := Hid.mk' (h.keep hb)
  have HGW := Hid.mk' (show w.grownBy W (some s) from below_grown' hb)
  clear hf hW hz hx hb h
  go_enter Try.func26, Try.ntmps26
  go_wp2_with fail
  rw [show (w.alloc (.cells #[.int .i64 0, .int .i64 0, .int .i64 0, .int .u64 0, .slice none 0 0] 26)).alloc (.cells #[.int .i64 op, .int .i64 0, .int .i64 0, .int .u64 0, .slice none 0 0] 26) = W from HW.out.symm]
  refine (HF.out _).mono ?_
  rintro e w2 ⟨rfl, rfl⟩
  have HR2 := HRW
  have HX2 := HX
  have HZ2 := HZ
  have HG2 := HGW
  obtain ⟨⟨y0, y1, y2, y3, y4⟩, yf⟩ := HX2.out
  have yf1 := yf 1
  have yf2 := yf 2
  have yf3 := yf 3
  obtain ⟨⟨z0, z1, z2, z3, z4⟩, zf⟩ := HZ2.out
  have zf0 := zf 0
  have zf1 := zf 1
  have zf2 := zf 2
  have zf3 := zf 3
  have zf4 := zf 4
  clear HF HW yf zf
  go_wp2_with fail
  exact bodyPost_ret (v := inV (⟨op, 0, 0, 0, []⟩ : In) none 0) (by simp [results, Try.results26, go_sem, y0, y1, y2, y3, y4, z0, z1, z2, z3, z4]) rfl (by
    obtain ⟨t1, t2⟩ := sr_fin HR2.out HG2.out hsl
    exact ⟨t1, _, _, _, rfl, hne, _, _, t2⟩)
set_option maxHeartbeats 8000000 in
theorem sinse_m1 (s : Nat) (ba : Option Addr) (bc : BC) (bs : List Int) (p : Nat) (er a op dep : Int) (w : World) (hf : formR (rowOf op) = -1) (hne : er ≠ 0) (h : Sr w s ba bc bs p er a) :
    Calls Try.prog 26 #[.pointer (some ⟨s, 0, none⟩), .int .i64 op, .int .i64 dep] w (SiP (.bad er a) w s ba bc.n bs) := by
  have HF := Hid.mk' (sform_c op)
  rw [hf] at HF
  obtain ⟨W, hW⟩ : ∃ W, W = (w.alloc (.cells #[.int .i64 0, .int .i64 0, .int .i64 0, .int .u64 0, .slice none 0 0] 26)).alloc (.cells #[.int .i64 op, .int .i64 0, .int .i64 0, .int .u64 0, .slice none 0 0] 26) := ⟨_, rfl⟩
  obtain ⟨hz, hx, hb⟩ := two_box w op
  rw [← hW] at hz hx hb
  have hsl : s < w.heap.size := h.lt
  have HW := Hid.mk' hW
  have HZ := Hid.mk' hz
  have HX := Hid.mk' hx
  have HRW := Hid.mk' (h.keep hb)
  have HGW := Hid.mk' (show w.grownBy W (some s) from below_grown' hb)
  clear hf hW hz hx hb h
  go_enter Try.func26, Try.ntmps26
  go_wp2_with fail
  rw [show (w.alloc (.cells #[.int .i64 0, .int .i64 0, .int .i64 0, .int .u64 0, .slice none 0 0] 26)).alloc (.cells #[.int .i64 op, .int .i64 0, .int .i64 0, .int .u64 0, .slice none 0 0] 26) = W from HW.out.symm]
  refine (HF.out _).mono ?_
  rintro e w2 ⟨rfl, rfl⟩
  have HR2 := HRW
  have HX2 := HX
  have HZ2 := HZ
  have HG2 := HGW
  obtain ⟨⟨y0, y1, y2, y3, y4⟩, yf⟩ := HX2.out
  have yf1 := yf 1
  have yf2 := yf 2
  have yf3 := yf 3
  obtain ⟨⟨z0, z1, z2, z3, z4⟩, zf⟩ := HZ2.out
  have zf0 := zf 0
  have zf1 := zf 1
  have zf2 := zf 2
  have zf3 := zf 3
  have zf4 := zf 4
  clear HF HW yf zf
  go_wp2_with fail
  exact bodyPost_ret (v := inV (⟨op, 0, 0, 0, []⟩ : In) none 0) (by simp [results, Try.results26, go_sem, y0, y1, y2, y3, y4, z0, z1, z2, z3, z4]) rfl (by
    obtain ⟨t1, t2⟩ := sr_fin HR2.out HG2.out hsl
    exact ⟨t1, _, _, _, rfl, hne, _, _, t2⟩)
end Go.Proofs.Yteaegmlnacnofaa
