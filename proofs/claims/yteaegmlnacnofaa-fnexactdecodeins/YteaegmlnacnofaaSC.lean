import Derived.Test.YteaegmlnacnofaaS8
set_option linter.all false
set_option linter.unusedVariables false
namespace Go.Proofs.Yteaegmlnacnofaa
open Go.RowKit Go.Sort
set_option maxRecDepth 100000
set_option maxHeartbeats 8000000 in
theorem sins_1 (s : Nat) (ba : Option Addr) (bc : BC) (bs : List Int) (p : Nat) (op : Int) (w : World) (hf : formR (rowOf op) = 1) (hev : bc.ev = .slice none 0 0) (h : Sr w s ba bc bs p 0 0) (hA : AllB bs) (hl : bs.length ≤ 1099511627776) :
    Calls Try.prog 26 #[.pointer (some ⟨s, 0, none⟩), .int .i64 op, .int .i64 0] w (SiP (decF 1 op bs p) w s ba bc.n bs) := by
  have HF := Hid.mk' (sform_c op)
  rw [hf] at HF
  obtain ⟨W, hW⟩ : ∃ W, W = (w.alloc (.cells #[.int .i64 0, .int .i64 0, .int .i64 0, .int .u64 0, .slice none 0 0] 26)).alloc (.cells #[.int .i64 op, .int .i64 0, .int .i64 0, .int .u64 0, .slice none 0 0] 26) := ⟨_, rfl⟩
  obtain ⟨hz, hx, hb⟩ := two_box w op
  rw [← hW] at hz hx hb
  have hsl : s < w.heap.size := h.lt
  have HW := Hid.mk' hW
  have HZ2 := Hid.mk' hz
  have HX2 := Hid.mk' hx
  have HR2 := Hid.mk' (h.keep hb)
  have HG2 := Hid.mk' (show w.grownBy W (some s) from below_grown' hb)
  clear hf hW hz hx hb h
  have KT := Hid.mk' (fun V (hV : Sr V s ba bc bs p 0 0) => tell_sc s ba bc bs p 21 0 0 1 V hV hev)
  have KB := Hid.mk' (fun V ev (hV : Sr V s ba ⟨bc.n, ev⟩ bs p 0 0) => byte_sc s ba ⟨bc.n, ev⟩ bs p V hV hl)
  have hbd := fun v p1 => takeM_bd (p := p) (p1 := p1) (v := v) hA
  have hnz := nz_take bs p
  show Calls _ _ _ _ (SiP (((takeM bs p).bind fun x p1 => if (decide (x = 64) || tyB x) then .ok x p1 else .bad 8 p1).bind fun a p1 => .ok ⟨op, a, 0, 0, []⟩ p1) _ _ _ _ _)
  generalize takeM bs p = M at *
  cases M with
  | bad er a =>
    have hne := hnz er a rfl
    have hne2 : (er == 0) = false := by simpa using hne
    clear hnz hbd hev
    go_enter Try.func26, Try.ntmps26
    go_wp2_with fail
    rw [show (w.alloc (.cells #[.int .i64 0, .int .i64 0, .int .i64 0, .int .u64 0, .slice none 0 0] 26)).alloc (.cells #[.int .i64 op, .int .i64 0, .int .i64 0, .int .u64 0, .slice none 0 0] 26) = W from HW.out.symm]
    refine (HF.out _).mono ?_
    rintro e w2 ⟨rfl, rfl⟩
    clear HF HW
    go_wp2_with fail
    refine (KT.out _ HR2.out).mono ?_
    rintro e w3 ⟨ev, rfl, hr, hg⟩
    have HX3 := Hid.mk' (c5_grown HX2.out hg (by omega))
    have HZ3 := Hid.mk' (c5_grown HZ2.out hg (by omega))
    have HG3 := Hid.mk' (grown_trans HG2.out hg)
    have HR3 := Hid.mk' hr
    clear hr hg KT HX2 HZ2 HG2 HR2
    obtain ⟨⟨y0, y1, y2, y3, y4⟩, yf⟩ := HX3.out
    have yf1 := yf 1
    have yf2 := yf 2
    have yf3 := yf 3
    have yf4 := yf 4
    obtain ⟨⟨z0, z1, z2, z3, z4⟩, zf⟩ := HZ3.out
    have zf0 := zf 0
    have zf1 := zf 1
    have zf2 := zf 2
    have zf3 := zf 3
    have zf4 := zf 4
    clear yf zf
    go_wp2_with fail
    refine (KB.out _ _ HR3.out).mono ?_
    rintro e w4 ⟨hg, u, q, rfl, rfl, hr⟩
    clear y0 y1 y2 y3 y4 yf1 yf2 yf3 yf4 z0 z1 z2 z3 z4 zf0 zf1 zf2 zf3 zf4
    have HX4 := Hid.mk' (c5_grown HX3.out hg (by omega))
    have HZ4 := Hid.mk' (c5_grown HZ3.out hg (by omega))
    have HG4 := Hid.mk' (grown_trans HG3.out hg)
    have HR4 := Hid.mk' hr
    clear hr hg KB HX3 HZ3 HG3 HR3
    obtain ⟨⟨y0, y1, y2, y3, y4⟩, yf⟩ := HX4.out
    have yf1 := yf 1
    have yf2 := yf 2
    have yf3 := yf 3
    have yf4 := yf 4
    obtain ⟨⟨z0, z1, z2, z3, z4⟩, zf⟩ := HZ4.out
    have zf0 := zf 0
    have zf1 := zf 1
    have zf2 := zf 2
    have zf3 := zf 3
    have zf4 := zf 4
    clear yf zf
    have g3 : (w4.setCell ⟨w.heap.size + 1, 1, none⟩ (.int .i64 0)).cell? ⟨s, 3, none⟩ = some (.int .i64 er) := (HR4.out.far (show s < w.heap.size + 1 by omega) 1 (.int .i64 0)).c3
    have HX5 := Hid.mk' (c5_set1 (v := .int .i64 0) HX4.out)
    have HZ5 := Hid.mk' (c5_far (X := w.heap.size + 1) (i := 1) (v := .int .i64 0) HZ4.out (by omega))
    have HG5 := Hid.mk' (sg_far HG4.out (show w.heap.size ≤ w.heap.size + 1 by omega) 1 (.int .i64 0))
    have HR5 := Hid.mk' (HR4.out.far (show s < w.heap.size + 1 by omega) 1 (.int .i64 0))
    go_wp2_with fail
    exact bodyPost_ret (v := inV (⟨op, 0, 0, 0, []⟩ : In) none 0) (by simp [results, Try.results26, go_sem, y0, y1, y2, y3, y4, z0, z1, z2, z3, z4]) rfl (by
      obtain ⟨t1, t2⟩ := sr_fin HR5.out HG5.out hsl
      exact ⟨t1, _, _, _, rfl, hne, _, _, t2⟩)
  | ok c p1 =>
    obtain ⟨hc0, hc1⟩ := hbd c p1 rfl
    have KY := Hid.mk' (ty_c c)
    clear hnz hbd hev
    show Calls _ _ _ _ (SiP ((if (decide (c = 64) || tyB c) then Rs.ok c p1 else .bad 8 p1).bind fun a p1 => .ok ⟨op, a, 0, 0, []⟩ p1) _ _ _ _ _)
    by_cases h64 : c = 64
    · subst h64
      show Calls _ _ _ _ (SiP (.ok ⟨op, 64, 0, 0, []⟩ p1) _ _ _ _ _)
      go_enter Try.func26, Try.ntmps26
      go_wp2_with fail
      rw [show (w.alloc (.cells #[.int .i64 0, .int .i64 0, .int .i64 0, .int .u64 0, .slice none 0 0] 26)).alloc (.cells #[.int .i64 op, .int .i64 0, .int .i64 0, .int .u64 0, .slice none 0 0] 26) = W from HW.out.symm]
      refine (HF.out _).mono ?_
      rintro e w2 ⟨rfl, rfl⟩
      clear HF HW
      go_wp2_with fail
      refine (KT.out _ HR2.out).mono ?_
      rintro e w3 ⟨ev, rfl, hr, hg⟩
      have HX3 := Hid.mk' (c5_grown HX2.out hg (by omega))
      have HZ3 := Hid.mk' (c5_grown HZ2.out hg (by omega))
      have HG3 := Hid.mk' (grown_trans HG2.out hg)
      have HR3 := Hid.mk' hr
      clear hr hg KT HX2 HZ2 HG2 HR2
      obtain ⟨⟨y0, y1, y2, y3, y4⟩, yf⟩ := HX3.out
      have yf1 := yf 1
      have yf2 := yf 2
      have yf3 := yf 3
      have yf4 := yf 4
      obtain ⟨⟨z0, z1, z2, z3, z4⟩, zf⟩ := HZ3.out
      have zf0 := zf 0
      have zf1 := zf 1
      have zf2 := zf 2
      have zf3 := zf 3
      have zf4 := zf 4
      clear yf zf
      go_wp2_with fail
      refine (KB.out _ _ HR3.out).mono ?_
      rintro e w4 ⟨hg, rfl, hr⟩
      clear y0 y1 y2 y3 y4 yf1 yf2 yf3 yf4 z0 z1 z2 z3 z4 zf0 zf1 zf2 zf3 zf4
      have HX4 := Hid.mk' (c5_grown HX3.out hg (by omega))
      have HZ4 := Hid.mk' (c5_grown HZ3.out hg (by omega))
      have HG4 := Hid.mk' (grown_trans HG3.out hg)
      have HR4 := Hid.mk' hr
      clear hr hg KB HX3 HZ3 HG3 HR3
      obtain ⟨⟨y0, y1, y2, y3, y4⟩, yf⟩ := HX4.out
      have yf1 := yf 1
      have yf2 := yf 2
      have yf3 := yf 3
      have yf4 := yf 4
      obtain ⟨⟨z0, z1, z2, z3, z4⟩, zf⟩ := HZ4.out
      have zf0 := zf 0
      have zf1 := zf 1
      have zf2 := zf 2
      have zf3 := zf 3
      have zf4 := zf 4
      clear yf zf
      have e3 := HR4.out.c3
      have e1 := HR4.out.c1
      have g3 : (w4.setCell ⟨w.heap.size + 1, 1, none⟩ (.int .i64 64)).cell? ⟨s, 3, none⟩ = some (.int .i64 0) := (HR4.out.far (show s < w.heap.size + 1 by omega) 1 (.int .i64 64)).c3
      have g1 : (w4.setCell ⟨w.heap.size + 1, 1, none⟩ (.int .i64 64)).cell? ⟨s, 1, none⟩ = some (.int .i64 p1) := (HR4.out.far (show s < w.heap.size + 1 by omega) 1 (.int .i64 64)).c1
      have HX5 := Hid.mk' (c5_set1 (v := .int .i64 64) HX4.out)
      have HZ5 := Hid.mk' (c5_far (X := w.heap.size + 1) (i := 1) (v := .int .i64 64) HZ4.out (by omega))
      have HG5 := Hid.mk' (sg_far HG4.out (show w.heap.size ≤ w.heap.size + 1 by omega) 1 (.int .i64 64))
      have HR5 := Hid.mk' (HR4.out.far (show s < w.heap.size + 1 by omega) 1 (.int .i64 64))
      go_wp2_with fail
      exact bodyPost_ret (v := inV (⟨op, 64, 0, 0, []⟩ : In) none 0) (by simp [results, Try.results26, go_sem, y0, y1, y2, y3, y4, z0, z1, z2, z3, z4]) rfl (by
        obtain ⟨t1, t2⟩ := sr_fin HR5.out HG5.out hsl
        exact ⟨t1, _, _, _, rfl, rfl, World.ownsRow_nil _ _ _ _, _, t2⟩)
    · have h64b : (c != 64) = true := by simpa using h64
      have h64d : decide (c = 64) = false := by simpa using h64
      rw [h64d, Bool.false_or]
      generalize tyB c = z at *
      clear h64 h64d
      cases z
      · show Calls _ _ _ _ (SiP (.bad 8 p1) _ _ _ _ _)
        have hne : (8 : Int) ≠ 0 := by decide
        go_enter Try.func26, Try.ntmps26
        go_wp2_with fail
        rw [show (w.alloc (.cells #[.int .i64 0, .int .i64 0, .int .i64 0, .int .u64 0, .slice none 0 0] 26)).alloc (.cells #[.int .i64 op, .int .i64 0, .int .i64 0, .int .u64 0, .slice none 0 0] 26) = W from HW.out.symm]
        refine (HF.out _).mono ?_
        rintro e w2 ⟨rfl, rfl⟩
        clear HF HW
        go_wp2_with fail
        refine (KT.out _ HR2.out).mono ?_
        rintro e w3 ⟨ev, rfl, hr, hg⟩
        have HX3 := Hid.mk' (c5_grown HX2.out hg (by omega))
        have HZ3 := Hid.mk' (c5_grown HZ2.out hg (by omega))
        have HG3 := Hid.mk' (grown_trans HG2.out hg)
        have HR3 := Hid.mk' hr
        clear hr hg KT HX2 HZ2 HG2 HR2
        obtain ⟨⟨y0, y1, y2, y3, y4⟩, yf⟩ := HX3.out
        have yf1 := yf 1
        have yf2 := yf 2
        have yf3 := yf 3
        have yf4 := yf 4
        obtain ⟨⟨z0, z1, z2, z3, z4⟩, zf⟩ := HZ3.out
        have zf0 := zf 0
        have zf1 := zf 1
        have zf2 := zf 2
        have zf3 := zf 3
        have zf4 := zf 4
        clear yf zf
        go_wp2_with fail
        refine (KB.out _ _ HR3.out).mono ?_
        rintro e w4 ⟨hg, rfl, hr⟩
        clear y0 y1 y2 y3 y4 yf1 yf2 yf3 yf4 z0 z1 z2 z3 z4 zf0 zf1 zf2 zf3 zf4
        have HX4 := Hid.mk' (c5_grown HX3.out hg (by omega))
        have HZ4 := Hid.mk' (c5_grown HZ3.out hg (by omega))
        have HG4 := Hid.mk' (grown_trans HG3.out hg)
        have HR4 := Hid.mk' hr
        clear hr hg KB HX3 HZ3 HG3 HR3
        obtain ⟨⟨y0, y1, y2, y3, y4⟩, yf⟩ := HX4.out
        have yf1 := yf 1
        have yf2 := yf 2
        have yf3 := yf 3
        have yf4 := yf 4
        obtain ⟨⟨z0, z1, z2, z3, z4⟩, zf⟩ := HZ4.out
        have zf0 := zf 0
        have zf1 := zf 1
        have zf2 := zf 2
        have zf3 := zf 3
        have zf4 := zf 4
        clear yf zf
        have e3 := HR4.out.c3
        have e1 := HR4.out.c1
        have g3 : (w4.setCell ⟨w.heap.size + 1, 1, none⟩ (.int .i64 c)).cell? ⟨s, 3, none⟩ = some (.int .i64 0) := (HR4.out.far (show s < w.heap.size + 1 by omega) 1 (.int .i64 c)).c3
        have g1 : (w4.setCell ⟨w.heap.size + 1, 1, none⟩ (.int .i64 c)).cell? ⟨s, 1, none⟩ = some (.int .i64 p1) := (HR4.out.far (show s < w.heap.size + 1 by omega) 1 (.int .i64 c)).c1
        have HX5 := Hid.mk' (c5_set1 (v := .int .i64 c) HX4.out)
        have HZ5 := Hid.mk' (c5_far (X := w.heap.size + 1) (i := 1) (v := .int .i64 c) HZ4.out (by omega))
        have HG5 := Hid.mk' (sg_far HG4.out (show w.heap.size ≤ w.heap.size + 1 by omega) 1 (.int .i64 c))
        have HR5 := Hid.mk' (HR4.out.far (show s < w.heap.size + 1 by omega) 1 (.int .i64 c))
        have KF := Hid.mk' (fail_sc s ba ⟨bc.n, ev⟩ bs p1 8 p1 _ HR5.out)
        go_wp2_with (refine (KY.out _).mono ?_; rintro e w5 ⟨rfl, rfl⟩)
        refine (KF.out).mono ?_
        rintro e w6 ⟨rfl, hr, hg⟩
        clear y0 y1 y2 y3 y4 yf1 yf2 yf3 yf4 z0 z1 z2 z3 z4 zf0 zf1 zf2 zf3 zf4
        have HX6 := Hid.mk' (c5_grown HX5.out hg (by omega))
        have HZ6 := Hid.mk' (c5_grown HZ5.out hg (by omega))
        have HG6 := Hid.mk' (grown_trans HG5.out hg)
        have HR6 := Hid.mk' hr
        clear hr hg
        obtain ⟨⟨y0, y1, y2, y3, y4⟩, yf⟩ := HX6.out
        have yf1 := yf 1
        have yf2 := yf 2
        have yf3 := yf 3
        have yf4 := yf 4
        obtain ⟨⟨z0, z1, z2, z3, z4⟩, zf⟩ := HZ6.out
        have zf0 := zf 0
        have zf1 := zf 1
        have zf2 := zf 2
        have zf3 := zf 3
        have zf4 := zf 4
        clear yf zf
        go_wp2_with fail
        exact bodyPost_ret (v := inV (⟨op, c, 0, 0, []⟩ : In) none 0) (by simp [results, Try.results26, go_sem, y0, y1, y2, y3, y4, z0, z1, z2, z3, z4]) rfl (by
          obtain ⟨t1, t2⟩ := sr_fin HR6.out HG6.out hsl
          exact ⟨t1, _, _, _, rfl, hne, _, _, t2⟩)
      · show Calls _ _ _ _ (SiP (.ok ⟨op, c, 0, 0, []⟩ p1) _ _ _ _ _)
        go_enter Try.func26, Try.ntmps26
        go_wp2_with fail
        rw [show (w.alloc (.cells #[.int .i64 0, .int .i64 0, .int .i64 0, .int .u64 0, .slice none 0 0] 26)).alloc (.cells #[.int .i64 op, .int .i64 0, .int .i64 0, .int .u64 0, .slice none 0 0] 26) = W from HW.out.symm]
        refine (HF.out _).mono ?_
        rintro e w2 ⟨rfl, rfl⟩
        clear HF HW
        go_wp2_with fail
        refine (KT.out _ HR2.out).mono ?_
        rintro e w3 ⟨ev, rfl, hr, hg⟩
        have HX3 := Hid.mk' (c5_grown HX2.out hg (by omega))
        have HZ3 := Hid.mk' (c5_grown HZ2.out hg (by omega))
        have HG3 := Hid.mk' (grown_trans HG2.out hg)
        have HR3 := Hid.mk' hr
        clear hr hg KT HX2 HZ2 HG2 HR2
        obtain ⟨⟨y0, y1, y2, y3, y4⟩, yf⟩ := HX3.out
        have yf1 := yf 1
        have yf2 := yf 2
        have yf3 := yf 3
        have yf4 := yf 4
        obtain ⟨⟨z0, z1, z2, z3, z4⟩, zf⟩ := HZ3.out
        have zf0 := zf 0
        have zf1 := zf 1
        have zf2 := zf 2
        have zf3 := zf 3
        have zf4 := zf 4
        clear yf zf
        go_wp2_with fail
        refine (KB.out _ _ HR3.out).mono ?_
        rintro e w4 ⟨hg, rfl, hr⟩
        clear y0 y1 y2 y3 y4 yf1 yf2 yf3 yf4 z0 z1 z2 z3 z4 zf0 zf1 zf2 zf3 zf4
        have HX4 := Hid.mk' (c5_grown HX3.out hg (by omega))
        have HZ4 := Hid.mk' (c5_grown HZ3.out hg (by omega))
        have HG4 := Hid.mk' (grown_trans HG3.out hg)
        have HR4 := Hid.mk' hr
        clear hr hg KB HX3 HZ3 HG3 HR3
        obtain ⟨⟨y0, y1, y2, y3, y4⟩, yf⟩ := HX4.out
        have yf1 := yf 1
        have yf2 := yf 2
        have yf3 := yf 3
        have yf4 := yf 4
        obtain ⟨⟨z0, z1, z2, z3, z4⟩, zf⟩ := HZ4.out
        have zf0 := zf 0
        have zf1 := zf 1
        have zf2 := zf 2
        have zf3 := zf 3
        have zf4 := zf 4
        clear yf zf
        have e3 := HR4.out.c3
        have e1 := HR4.out.c1
        have g3 : (w4.setCell ⟨w.heap.size + 1, 1, none⟩ (.int .i64 c)).cell? ⟨s, 3, none⟩ = some (.int .i64 0) := (HR4.out.far (show s < w.heap.size + 1 by omega) 1 (.int .i64 c)).c3
        have g1 : (w4.setCell ⟨w.heap.size + 1, 1, none⟩ (.int .i64 c)).cell? ⟨s, 1, none⟩ = some (.int .i64 p1) := (HR4.out.far (show s < w.heap.size + 1 by omega) 1 (.int .i64 c)).c1
        have HX5 := Hid.mk' (c5_set1 (v := .int .i64 c) HX4.out)
        have HZ5 := Hid.mk' (c5_far (X := w.heap.size + 1) (i := 1) (v := .int .i64 c) HZ4.out (by omega))
        have HG5 := Hid.mk' (sg_far HG4.out (show w.heap.size ≤ w.heap.size + 1 by omega) 1 (.int .i64 c))
        have HR5 := Hid.mk' (HR4.out.far (show s < w.heap.size + 1 by omega) 1 (.int .i64 c))
        go_wp2_with (refine (KY.out _).mono ?_; rintro e w5 ⟨rfl, rfl⟩)
        exact bodyPost_ret (v := inV (⟨op, c, 0, 0, []⟩ : In) none 0) (by simp [results, Try.results26, go_sem, y0, y1, y2, y3, y4, z0, z1, z2, z3, z4]) rfl (by
          obtain ⟨t1, t2⟩ := sr_fin HR5.out HG5.out hsl
          exact ⟨t1, _, _, _, rfl, rfl, World.ownsRow_nil _ _ _ _, _, t2⟩)
end Go.Proofs.Yteaegmlnacnofaa

set_option linter.unusedVariables false
namespace Go.Proofs.Yteaegmlnacnofaa
open Go.RowKit Go.Sort
set_option maxRecDepth 100000
/-- A row behind the stores of the answer and of A. -/
theorem own5s {w W : World} {v : Value} {n : Nat} {zs : List Value} {v0 v1 v2 v3 v4 : Value} (h : W.ownsRow (w.heap.size + 2) 2 1 v n zs) : (((((W.setCell ⟨w.heap.size, 0, none⟩ v0).setCell ⟨w.heap.size, 1, none⟩ v1).setCell ⟨w.heap.size, 2, none⟩ v2).setCell ⟨w.heap.size, 3, none⟩ v3).setCell ⟨w.heap.size, 4, none⟩ v4).ownsRow (w.heap.size + 2) 2 1 v n zs := by
  have hn : v.ownBlock ≠ some w.heap.size := fun e => by have := (h.lt _ e).1; omega
  exact ownE_set (ownE_set (ownE_set (ownE_set (ownE_set h hn) hn) hn) hn) hn
theorem ownX {w W : World} {v u : Value} {n o : Nat} {zs : List Value} (h : W.ownsRow (w.heap.size + 2) 2 1 v n zs) : (W.setCell ⟨w.heap.size + 1, o, none⟩ u).ownsRow (w.heap.size + 2) 2 1 v n zs :=
  ownE_set h (fun e => by have := (h.lt _ e).1; omega)
/-- The state of the loop. -/
structure Lp (w wr : World) (s : Nat) (op : Int) (acc : List Int) (la : Option Addr) (lc : Nat) : Prop where
  x : C5 wr (w.heap.size + 1) 0 (.int .i64 op) (.int .i64 0) (.int .i64 0) (.int .u64 0) (.slice la acc.length lc)
  z : C5 wr w.heap.size 0 (.int .i64 0) (.int .i64 0) (.int .i64 0) (.int .u64 0) (.slice none 0 0)
  o : wr.ownsRow (w.heap.size + 2) 2 1 (.slice la acc.length lc) acc.length (I acc)
  g : w.grownBy wr (some s)
  sz : w.heap.size + 2 ≤ wr.heap.size
theorem Lp.grown {w wr w1 : World} {s : Nat} {op : Int} {acc : List Int} {la : Option Addr} {lc : Nat} (h : Lp w wr s op acc la lc) (hs : s < w.heap.size) (hg : wr.grownBy w1 (some s)) : Lp w w1 s op acc la lc :=
  ⟨c5_grown h.x hg (by omega), c5_grown h.z hg (by omega), ownE_grown' h.o hg (fun j hj => by have := (h.o.lt j hj).1; simp; omega), grown_trans h.g hg, Nat.le_trans h.sz hg.size⟩
theorem Lp.push {w wr w3 : World} {s : Nat} {op v : Int} {acc : List Int} {la : Option Addr} {lc : Nat} {va : Option Addr} {vc : Nat} {o : Obj} (h : Lp w wr s op acc la lc) (hs : s < w.heap.size) (ho : w3.ownsRow (w.heap.size + 2) 2 1 (.slice va (acc.length + 1) vc) (acc.length + 1) (I acc ++ [.int .i64 v])) (hg : (wr.alloc o).grownBy w3 (Value.slice la acc.length lc).ownBlock) :
    Lp w (w3.setCell ⟨w.heap.size + 1, 4, none⟩ (.slice va (acc.length + 1) vc)) s op (acc ++ [v]) va vc ∧ C5 w3 (w.heap.size + 1) 0 (.int .i64 op) (.int .i64 0) (.int .i64 0) (.int .u64 0) (.slice la acc.length lc) := by
  have sz := h.sz
  have hne : ∀ k, k < w.heap.size + 2 → some k ≠ (Value.slice la acc.length lc).ownBlock := fun k hk e => by have := (h.o.lt k e.symm).1; omega
  have hb : ∀ k, k < w.heap.size + 2 → w3.heap[k]? = wr.heap[k]? := fun k hk => (hg.block k (by simp; omega) (hne k hk)).trans (heap_old wr o k (by omega))
  have cx : ∀ {g oo : Nat} {a b c d e : Value}, g < w.heap.size + 2 → C5 wr g oo a b c d e → C5 w3 g oo a b c d e := fun hgl hc => by
    obtain ⟨⟨h0, h1, h2, h3, h4⟩, f⟩ := hc
    exact ⟨⟨(World.cell?_of_block (hb _ hgl)).trans h0, (World.cell?_of_block (hb _ hgl)).trans h1, (World.cell?_of_block (hb _ hgl)).trans h2, (World.cell?_of_block (hb _ hgl)).trans h3, (World.cell?_of_block (hb _ hgl)).trans h4⟩, fun i => (World.frozen?_of_block (hb _ hgl)).trans (f i)⟩
  have x3 := cx (by omega) h.x
  have g3 : w.grownBy w3 (some s) := ⟨hg.os.trans h.g.os, hg.tape.trans h.g.tape, hg.output.trans h.g.output, by have := hg.size; have := h.g.size; simp at *; omega, fun k hk hn => (hb k (by omega)).trans (h.g.block k hk hn)⟩
  refine ⟨⟨?_, c5_far (cx (by omega) h.z) (by omega), ?_, sg_far g3 (by omega) 4 _, by have := hg.size; simp [World.setCell] at *; omega⟩, x3⟩
  · have := c5_set4 (v := .slice va (acc.length + 1) vc) x3
    simpa using this
  · have := ownX (w := w) (u := .slice va (acc.length + 1) vc) (o := 4) ho
    simpa using this
theorem Sr.push {w wr w3 : World} {s : Nat} {ba : Option Addr} {bc : BC} {bs : List Int} {p : Nat} {er at_ : Int} {v : Value} {o : Obj} {n : Nat} {zs : List Value} (h : Sr wr s ba bc bs p er at_) (hs : s < w.heap.size) (hO : wr.ownsRow (w.heap.size + 2) 2 1 v n zs) (hg : (wr.alloc o).grownBy w3 v.ownBlock) (u : Value) : Sr (w3.setCell ⟨w.heap.size + 1, 4, none⟩ u) s ba bc bs p er at_ :=
  ((h.keep ((Below.refl _ _).alloc (Nat.le_refl _) _)).grown hg (fun e => by have := (hO.lt s e.symm).1; omega) (fun k hk => by have := (hO.lt k hk).1; omega)).far (by omega) 4 u
set_option maxHeartbeats 16000000 in
theorem sins_3 (s : Nat) (ba : Option Addr) (bc : BC) (bs : List Int) (p : Nat) (op : Int) (w : World) (hf : formR (rowOf op) = 3) (hev : bc.ev = .slice none 0 0) (h : Sr w s ba bc bs p 0 0) (hA : AllB bs) (hl : bs.length ≤ 1099511627776) :
    Calls Try.prog 26 #[.pointer (some ⟨s, 0, none⟩), .int .i64 op, .int .i64 0] w (SiP (decF 3 op bs p) w s ba bc.n bs) := by
  have HF := Hid.mk' (sform_c op)
  rw [hf] at HF
  obtain ⟨W, hW⟩ : ∃ W, W = (w.alloc (.cells #[.int .i64 0, .int .i64 0, .int .i64 0, .int .u64 0, .slice none 0 0] 26)).alloc (.cells #[.int .i64 op, .int .i64 0, .int .i64 0, .int .u64 0, .slice none 0 0] 26) := ⟨_, rfl⟩
  obtain ⟨hz, hx, hb⟩ := two_box w op
  rw [← hW] at hz hx hb
  have hsl : s < w.heap.size := h.lt
  have HW := Hid.mk' hW
  have HZ2 := Hid.mk' hz
  have HX2 := Hid.mk' hx
  have HR2 := Hid.mk' (h.keep hb)
  have HG2 := Hid.mk' (show w.grownBy W (some s) from below_grown' hb)
  clear hf hW hz hx hb h
  obtain ⟨i0, hi, hz0, hz1, hz2⟩ := info_parts Try.info2
  have HDF : Hid (decF 3 op bs p = (vecM bs p).bind fun l p1 => (numM false 32 bs p1).bind fun a p2 => .ok ⟨op, a, 0, 0, l⟩ p2) := rfl
  have K1 := Hid.mk' (fun V (hV : Sr V s ba bc bs p 0 0) => u32_sc s ba bc bs p V hV hA hl)
  have KN := Hid.mk' (fun V ev q (hV : Sr V s ba ⟨bc.n, ev⟩ bs q 0 0) => u32_sc s ba ⟨bc.n, ev⟩ bs q V hV hA hl)
  have KE := Hid.mk' (fun V bc' q er a (hV : Sr V s ba bc' bs q er a) (hne : er ≠ 0) => u32_se s ba bc' bs q er a V hV hne)
  have HNZ := Hid.mk' (fun q => nz_num false 32 bs q)
  cases hM1 : numM false 32 bs p with
  | bad er a =>
    have hne := HNZ.out p er a hM1
    have hne2 : (er == 0) = false := by simpa using hne
    have HD : Hid (decF 3 op bs p = .bad er a) := by show _ = _; rw [HDF.out]; simp only [vecM, hM1, Rs.bind]
    rw [hM1] at K1
    have KT := Hid.mk' (fun V q x (hV : Sr V s ba bc bs q er a) => tell_se s ba bc bs q er a 22 0 0 x V hV hne)
    clear hM1 hev HDF KN HNZ
    go_enter Try.func26, Try.ntmps26
    go_wp2_with fail
    rw [show (w.alloc (.cells #[.int .i64 0, .int .i64 0, .int .i64 0, .int .u64 0, .slice none 0 0] 26)).alloc (.cells #[.int .i64 op, .int .i64 0, .int .i64 0, .int .u64 0, .slice none 0 0] 26) = W from HW.out.symm]
    refine (HF.out _).mono ?_
    rintro e w2 ⟨rfl, rfl⟩
    clear HF HW
    go_wp2_with fail
    refine (K1.out _ HR2.out).mono ?_
    rintro e w3 ⟨hg, u, q, rfl, ⟨v0, rfl⟩, hr⟩
    have HX3 := Hid.mk' (c5_grown HX2.out hg (by omega))
    have HZ3 := Hid.mk' (c5_grown HZ2.out hg (by omega))
    have HG3 := Hid.mk' (grown_trans HG2.out hg)
    have HR3 := Hid.mk' hr
    clear hr hg K1 HX2 HZ2 HG2 HR2
    obtain ⟨⟨y0, y1, y2, y3, y4⟩, yf⟩ := HX3.out
    have yf1 := yf 1
    have yf2 := yf 2
    have yf3 := yf 3
    have yf4 := yf 4
    obtain ⟨⟨z0, z1, z2, z3, z4⟩, zf⟩ := HZ3.out
    have zf0 := zf 0
    have zf1 := zf 1
    have zf2 := zf 2
    have zf3 := zf 3
    have zf4 := zf 4
    clear yf zf
    have e3 := HR3.out.c3
    go_wp2_with fail
    refine (KT.out _ _ _ HR3.out).mono ?_
    rintro e w4 ⟨rfl, rfl⟩
    have KE1 := Hid.mk' (KE.out _ _ _ _ _ HR3.out hne)
    have HX4 := Hid.mk' (c5_set1 (v := .int .i64 0) HX3.out)
    have HZ4 := Hid.mk' (c5_far (X := w.heap.size + 1) (i := 1) (v := .int .i64 0) HZ3.out (by omega))
    have HG4 := Hid.mk' (sg_far HG3.out (show w.heap.size ≤ w.heap.size + 1 by omega) 1 (.int .i64 0))
    have HR4 := Hid.mk' (HR3.out.far (show s < w.heap.size + 1 by omega) 1 (.int .i64 0))
    by_cases hv0 : 0 < v0
    · go_wp2_with fail
      refine wp_loop_rounds 1 ?_
      rw [rounds_succ]
      go_wp2_with fail
      refine (KE1.out).mono ?_
      rintro e w5 ⟨rfl, rfl⟩
      go_wp2_with fail
      exact bodyPost_ret (v := inV (⟨op, 0, 0, 0, []⟩ : In) none 0) (by simp [results, Try.results26, go_sem, y0, y1, y2, y3, y4, z0, z1, z2, z3, z4]) rfl (by
        rw [HD.out]
        obtain ⟨t1, t2⟩ := sr_fin HR4.out HG4.out hsl
        exact ⟨t1, _, _, _, rfl, hne, _, _, t2⟩)
    · have hd0 : decide (0 < v0) = false := decide_eq_false hv0
      go_wp2_with fail
      refine wp_loop_rounds 1 ?_
      rw [rounds_succ]
      go_wp2_with fail
      refine (KE1.out).mono ?_
      rintro e w5 ⟨rfl, rfl⟩
      go_wp2_with fail
      exact bodyPost_ret (v := inV (⟨op, 0, 0, 0, []⟩ : In) none 0) (by simp [results, Try.results26, go_sem, y0, y1, y2, y3, y4, z0, z1, z2, z3, z4]) rfl (by
        rw [HD.out]
        obtain ⟨t1, t2⟩ := sr_fin HR4.out HG4.out hsl
        exact ⟨t1, _, _, _, rfl, hne, _, _, t2⟩)
  | ok n p1 =>
    obtain ⟨hn0, hn1⟩ := numU_bd hA hM1
    obtain ⟨N, rfl⟩ := Int.eq_ofNat_of_zero_le hn0
    have HVM : Hid (vecM bs p = repM bs N [] p1) := by show _ = _; simp only [vecM, hM1, Rs.bind, Int.toNat_natCast]
    rw [hM1] at K1
    have KT := Hid.mk' (fun V (hV : Sr V s ba bc bs p1 0 0) => tell_sc s ba bc bs p1 22 0 0 N V hV hev)
    clear hM1 hev hn0
    go_enter Try.func26, Try.ntmps26
    go_wp2_with fail
    rw [show (w.alloc (.cells #[.int .i64 0, .int .i64 0, .int .i64 0, .int .u64 0, .slice none 0 0] 26)).alloc (.cells #[.int .i64 op, .int .i64 0, .int .i64 0, .int .u64 0, .slice none 0 0] 26) = W from HW.out.symm]
    refine (HF.out _).mono ?_
    rintro e w2 ⟨rfl, rfl⟩
    clear HF HW
    go_wp2_with fail
    refine (K1.out _ HR2.out).mono ?_
    rintro e w3 ⟨hg, rfl, hr⟩
    have HX3 := Hid.mk' (c5_grown HX2.out hg (by omega))
    have HZ3 := Hid.mk' (c5_grown HZ2.out hg (by omega))
    have HG3 := Hid.mk' (grown_trans HG2.out hg)
    have HR3 := Hid.mk' hr
    clear hr hg K1 HX2 HZ2 HG2 HR2
    go_wp2_with fail
    refine (KT.out _ HR3.out).mono ?_
    rintro e w4 ⟨ev, rfl, hr, hg⟩
    have HX4 := Hid.mk' (c5_grown HX3.out hg (by omega))
    have HZ4 := Hid.mk' (c5_grown HZ3.out hg (by omega))
    have HG4 := Hid.mk' (grown_trans HG3.out hg)
    have HR4 := Hid.mk' hr
    clear hr hg KT HX3 HZ3 HG3 HR3
    have HL4 : Hid (Lp w w4 s op [] none 0) := ⟨HX4.out, HZ4.out, World.ownsRow_nil _ _ _ _, HG4.out, by have := HX4.out.lt; omega⟩
    clear HX4 HZ4 HG4
    go_wp2_with fail
    go_loopw [10] (fun i wr => ∃ (k : Nat) (acc : List Int) (la : Option Addr) (lc : Nat), k ≤ N ∧ i = .int .i64 (k : Int) ∧ acc.length ≤ bs.length + 1 ∧ Lp w wr s op acc la lc ∧ ((∃ q, repM bs N [] p1 = repM bs (N - k) acc q ∧ acc.length ≤ q ∧ Sr wr s ba ⟨bc.n, ev⟩ bs q 0 0) ∨ (∃ er a q, er ≠ 0 ∧ repM bs N [] p1 = .bad er a ∧ Sr wr s ba ⟨bc.n, ev⟩ bs q er a))) (fun i _ => N - (intOf i).toNat)
    case atStart => exact ⟨0, [], none, 0, Nat.zero_le _, rfl, by simp, HL4.out, .inl ⟨p1, rfl, by simp, HR4.out⟩⟩
    case round =>
      obtain ⟨k, acc, la, lc, hk, rfl, hal, hL, hst⟩ := hrel
      have HL := Hid.mk' hL
      obtain ⟨⟨y0, y1, y2, y3, y4⟩, yf⟩ := hL.x
      obtain ⟨⟨z0, z1, z2, z3, z4⟩, zf⟩ := hL.z
      have yf1 := yf 1
      have zf0 := zf 0
      have zf1 := zf 1
      have zf2 := zf 2
      have zf3 := zf 3
      have zf4 := zf 4
      clear hL HL4 HR4 yf zf
      rcases hst with ⟨q, hM, haq, hr⟩ | ⟨er, a, q, hne, hM, hr⟩
      · have hql := hr.le
        have c3 := hr.c3
        have HRq := Hid.mk' hr
        have HM := Hid.mk' hM
        have KQ := Hid.mk' (KN.out _ _ _ hr)
        have hnzq := HNZ.out q
        have hbq := fun v q2 => num_next (s := false) (B := 32) (bs := bs) (p := q) (p1 := q2) (v := v) (by omega)
        clear hr hM
        by_cases hlt : k < N
        · have hki : (k : Int) < (N : Int) := by omega
          have HMS : Hid (repM bs N [] p1 = (numM false 32 bs q).bind fun v q2 => repM bs (N - (k + 1)) (acc ++ [v]) q2) := by show _ = _; rw [HM.out, show N - k = (N - (k + 1)) + 1 by omega]; rfl
          clear HM y0 y1 y2 y3 y4 yf1 z0 z1 z2 z3 z4 zf0 zf1 zf2 zf3 zf4
          generalize numM false 32 bs q = M at *
          cases M with
          | bad er a =>
            have hne := hnzq er a rfl
            clear hnzq hbq
            go_wp2_with (first
              | (go_at_call 46; refine (KQ.out).mono ?_; rintro e w5 ⟨hg, u, q', rfl, ⟨v0, rfl⟩, hr⟩; have HL5 := Hid.mk' (HL.out.grown hsl hg); have HR5 := Hid.mk' hr; obtain ⟨⟨x0, x1, x2, x3, x4⟩, xf⟩ := HL5.out.x; have hz5 := HL5.out.sz; clear hg hr xf KQ)
              | (at_builtin; refine wpList_append_own _ rfl _ _ 24 rfl (w.heap.size + 2) 2 i0 (.int .i64 0) 1 8 Try.underlying24 hi hz0 hz1 hz2 rfl (by decide) _ _ _ rfl (HL5.out.o.alloc _) ⟨w5.heap.size, 0, none⟩ 1 1 [.int .i64 v0] rfl rfl (cell_one_new _ _ _) (oneI _) (by unfold maxLen; omega) (by omega) (by simp; omega) ?_; intro v6 w6 o6 g6 hnn; obtain ⟨va, vc, rfl⟩ := ownE_slice o6; have HL6 := Hid.mk' (HL5.out.push hsl o6 g6); have HR6 := Hid.mk' (Sr.push (w := w) HR5.out hsl HL5.out.o g6 (.slice va (acc.length + 1) vc)); obtain ⟨⟨x0, x1, x2, x3, x4⟩, xf⟩ := HL6.out.2; have xf4 := xf 4; clear o6 g6 hnn xf))
            go_roundw
            case rel => exact ⟨k + 1, acc ++ [v0], va, vc, by omega, by go_num, by simp; omega, HL6.out.1, .inr ⟨er, a, q', hne, by rw [HMS.out]; rfl, HR6.out⟩⟩
            case measure => simp [intOf]; omega
          | ok v q2 =>
            have hq2 := hbq v q2 rfl
            clear hnzq hbq
            go_wp2_with (first
              | (go_at_call 46; refine (KQ.out).mono ?_; rintro e w5 ⟨hg, rfl, hr⟩; have hq3 := hr.le; have HL5 := Hid.mk' (HL.out.grown hsl hg); have HR5 := Hid.mk' hr; obtain ⟨⟨x0, x1, x2, x3, x4⟩, xf⟩ := HL5.out.x; have hz5 := HL5.out.sz; clear hg hr xf KQ)
              | (at_builtin; refine wpList_append_own _ rfl _ _ 24 rfl (w.heap.size + 2) 2 i0 (.int .i64 0) 1 8 Try.underlying24 hi hz0 hz1 hz2 rfl (by decide) _ _ _ rfl (HL5.out.o.alloc _) ⟨w5.heap.size, 0, none⟩ 1 1 [.int .i64 v] rfl rfl (cell_one_new _ _ _) (oneI _) (by unfold maxLen; omega) (by omega) (by simp; omega) ?_; intro v6 w6 o6 g6 hnn; obtain ⟨va, vc, rfl⟩ := ownE_slice o6; have HL6 := Hid.mk' (HL5.out.push hsl o6 g6); have HR6 := Hid.mk' (Sr.push (w := w) HR5.out hsl HL5.out.o g6 (.slice va (acc.length + 1) vc)); obtain ⟨⟨x0, x1, x2, x3, x4⟩, xf⟩ := HL6.out.2; have xf4 := xf 4; clear o6 g6 hnn xf))
            go_roundw
            case rel => exact ⟨k + 1, acc ++ [v], va, vc, by omega, by go_num, by simp; omega, HL6.out.1, .inl ⟨q2, by rw [HMS.out]; rfl, by simp; omega, HR6.out⟩⟩
            case measure => simp [intOf]; omega
        · have hki : ¬ (k : Int) < (N : Int) := by omega
          have hkd : decide ((k : Int) < (N : Int)) = false := decide_eq_false hki
          have HV : Hid (vecM bs p = .ok acc q) := by show _ = _; rw [HVM.out, HM.out, show N - k = 0 by omega]; rfl
          have HD0 : Hid (decF 3 op bs p = (numM false 32 bs q).bind fun a p2 => .ok ⟨op, a, 0, 0, acc⟩ p2) := by show _ = _; rw [HDF.out, HV.out]; rfl
          clear HM HV y0 y1 y2 y3 y4 yf1 z0 z1 z2 z3 z4 zf0 zf1 zf2 zf3 zf4
          generalize numM false 32 bs q = M at *
          cases M with
          | bad er a =>
            have hne := hnzq er a rfl
            have HD : Hid (decF 3 op bs p = .bad er a) := HD0.out
            clear hnzq hbq HD0
            go_wp2_with (go_at_call 46; refine (KQ.out).mono ?_; rintro e w5 ⟨hg, u, q', rfl, ⟨v0, rfl⟩, hr⟩; have HL5 := Hid.mk' (HL.out.grown hsl hg); have HR5 := Hid.mk' (hr.far (X := w.heap.size + 1) (by omega) 1 (.int .i64 v0)); have HG5 := Hid.mk' (sg_far HL5.out.g (show w.heap.size ≤ w.heap.size + 1 by omega) 1 (.int .i64 v0)); obtain ⟨⟨y0, y1, y2, y3, y4⟩, yf⟩ := HL5.out.x; obtain ⟨⟨z0, z1, z2, z3, z4⟩, zf⟩ := HL5.out.z; have yf1 := yf 1; have zf0 := zf 0; have zf1 := zf 1; have zf2 := zf 2; have zf3 := zf 3; have zf4 := zf 4; clear hg hr yf zf KQ)
            exact bodyPost_ret (v := inV (⟨op, v0, 0, 0, acc⟩ : In) la lc) (by simp [results, Try.results26, go_sem, y0, y1, y2, y3, y4, z0, z1, z2, z3, z4]) rfl (by
              obtain ⟨t1, t2⟩ := sr_fin HR5.out HG5.out hsl
              rw [HD.out]
              exact ⟨t1, _, _, _, rfl, hne, _, _, t2⟩)
          | ok v q2 =>
            have HD : Hid (decF 3 op bs p = .ok ⟨op, v, 0, 0, acc⟩ q2) := HD0.out
            clear hnzq hbq HD0
            go_wp2_with (go_at_call 46; refine (KQ.out).mono ?_; rintro e w5 ⟨hg, rfl, hr⟩; have HL5 := Hid.mk' (HL.out.grown hsl hg); have HR5 := Hid.mk' (hr.far (X := w.heap.size + 1) (by omega) 1 (.int .i64 v)); have HG5 := Hid.mk' (sg_far HL5.out.g (show w.heap.size ≤ w.heap.size + 1 by omega) 1 (.int .i64 v)); have HO5 := Hid.mk' (ownX (w := w) (u := .int .i64 v) (o := 1) HL5.out.o); obtain ⟨⟨y0, y1, y2, y3, y4⟩, yf⟩ := HL5.out.x; obtain ⟨⟨z0, z1, z2, z3, z4⟩, zf⟩ := HL5.out.z; have yf1 := yf 1; have zf0 := zf 0; have zf1 := zf 1; have zf2 := zf 2; have zf3 := zf 3; have zf4 := zf 4; clear hg hr yf zf KQ)
            exact bodyPost_ret (v := inV (⟨op, v, 0, 0, acc⟩ : In) la lc) (by simp [results, Try.results26, go_sem, y0, y1, y2, y3, y4, z0, z1, z2, z3, z4]) rfl (by
              obtain ⟨t1, t2⟩ := sr_fin HR5.out HG5.out hsl
              rw [HD.out]
              refine ⟨t1, _, _, _, rfl, rfl, ?_, _, t2⟩
              exact ownE_down (own5s HO5.out) (by omega))
      · have c3 := hr.c3
        have hne2 : (er == 0) = false := by simpa using hne
        have HD : Hid (decF 3 op bs p = .bad er a) := by show _ = _; rw [HDF.out, HVM.out, hM]; rfl
        have KE1 := Hid.mk' (KE.out _ _ _ _ _ hr hne)
        have HR5 := Hid.mk' (hr.far (X := w.heap.size + 1) (by omega) 1 (.int .i64 0))
        have HG5 := Hid.mk' (sg_far HL.out.g (show w.heap.size ≤ w.heap.size + 1 by omega) 1 (.int .i64 0))
        clear hM hr
        by_cases hlt : k < N
        · have hki : (k : Int) < (N : Int) := by omega
          go_wp2_with (go_at_call 46; refine (KE1.out).mono ?_; rintro e w5 ⟨rfl, rfl⟩)
          exact bodyPost_ret (v := inV (⟨op, 0, 0, 0, acc⟩ : In) la lc) (by simp [results, Try.results26, go_sem, y0, y1, y2, y3, y4, z0, z1, z2, z3, z4]) rfl (by
            obtain ⟨t1, t2⟩ := sr_fin HR5.out HG5.out hsl
            rw [HD.out]
            exact ⟨t1, _, _, _, rfl, hne, _, _, t2⟩)
        · have hki : ¬ (k : Int) < (N : Int) := by omega
          have hkd : decide ((k : Int) < (N : Int)) = false := decide_eq_false hki
          go_wp2_with (go_at_call 46; refine (KE1.out).mono ?_; rintro e w5 ⟨rfl, rfl⟩)
          exact bodyPost_ret (v := inV (⟨op, 0, 0, 0, acc⟩ : In) la lc) (by simp [results, Try.results26, go_sem, y0, y1, y2, y3, y4, z0, z1, z2, z3, z4]) rfl (by
            obtain ⟨t1, t2⟩ := sr_fin HR5.out HG5.out hsl
            rw [HD.out]
            exact ⟨t1, _, _, _, rfl, hne, _, _, t2⟩)
end Go.Proofs.Yteaegmlnacnofaa
