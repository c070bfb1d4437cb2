import Derived.Test.YteaegmlnacnofaaDB
set_option linter.all false
set_option linter.unusedVariables false
namespace Go.Proofs.Yteaegmlnacnofaa
open Go.RowKit Go.Sort
set_option maxRecDepth 100000
set_option maxHeartbeats 8000000 in
theorem rins_0 (q : Nat) (ba : Option Addr) (bc : Nat) (bs : List Int) (p : Nat) (op : Int) (w : World) (hf : formR (rowOf op) = 0) (h : Rd w q ba bc bs p) (hA : AllB bs) (hl : bs.length ≤ 1099511627776) :
    Calls Try.prog 29 #[.pointer (some ⟨q, 0, none⟩), .int .i64 op] w (RiP (decF 0 op bs p) w q ba bc bs) := by
  have HF := Hid.mk' (iform_c op)
  rw [hf] at HF
  obtain ⟨W, hW⟩ : ∃ W, W = (w.alloc (.cells #[.int .i64 0, .int .i64 0, .int .i64 0, .int .u64 0, .slice none 0 0] 26)).alloc (.cells #[.int .i64 op, .int .i64 0, .int .i64 0, .int .u64 0, .slice none 0 0] 26) := ⟨_, rfl⟩
  obtain ⟨hz, hx, hb⟩ := two_box w op
  rw [← hW] at hz hx hb
  have hws : w.heap.size + 2 = W.heap.size := by rw [hW]; simp
  have HW := Hid.mk' hW
  have HZ := Hid.mk' hz
  have HX := Hid.mk' hx
  have HRW := Hid.mk' (h.keep hb)
  have HGW := Hid.mk' (show w.grownBy W (some q) from below_grown' hb)
  have LR := Hid.mk' (lies_of h (Nat.le_refl _))
  have LX := Hid.mk' (lies_of h (show w.heap.size ≤ w.heap.size + 1 by omega))
  have HQ := Hid.mk' h.lt
  clear hf hW hz hx hb h
  show Calls _ _ _ _ (RiP (.ok ⟨op, 0, 0, 0, []⟩ p) _ _ _ _ _)
  go_enter Try.func29, Try.ntmps29
  go_wp2_with fail
  rw [show (w.alloc (.cells #[.int .i64 0, .int .i64 0, .int .i64 0, .int .u64 0, .slice none 0 0] 26)).alloc (.cells #[.int .i64 op, .int .i64 0, .int .i64 0, .int .u64 0, .slice none 0 0] 26) = W from HW.out.symm]
  refine (HF.out _).mono ?_
  rintro e w2 ⟨rfl, hb2⟩
  have HR2 := Hid.mk' (HRW.out.keep hb2)
  have HX2 := Hid.mk' (HX.out.keep hb2)
  have HZ2 := Hid.mk' (HZ.out.keep hb2)
  have HG2 := Hid.mk' (grown_trans HGW.out (below_grown' (r := some q) hb2))
  have hs2 := HG2.out.size
  have hz2 : w.heap.size + 2 ≤ w2.heap.size := by have := hb2.size; omega
  obtain ⟨⟨x0, x1, x2, x3, x4⟩, xf⟩ := HX2.out
  have xf1 := xf 1
  have xf2 := xf 2
  have xf3 := xf 3
  have xf4 := xf 4
  clear hb2 HF HW HRW HX HZ HGW xf
  obtain ⟨⟨z0, z1, z2, z3, z4⟩, zf⟩ := HZ2.out
  have zf0 := zf 0
  have zf1 := zf 1
  have zf2 := zf 2
  have zf3 := zf 3
  have zf4 := zf 4
  clear zf
  go_wp2_with fail
  exact bodyPost_ret (v := inV (⟨op, 0, 0, 0, []⟩ : In) none 0) (by simp [results, Try.results29, go_sem, x0, x1, x2, x3, x4, z0, z1, z2, z3, z4]) rfl (by
    obtain ⟨t1, t2, t3⟩ := rd_fin (x := (⟨op, 0, 0, 0, []⟩ : In)) (la := none) (lc := 0) HR2.out HG2.out LR.out (World.ownsRow_nil _ _ _ _) (by simp [Value.ownBlock])
    exact ⟨t1, none, 0, rfl, t2, t3, (Nat.zero_le _)⟩)
set_option maxHeartbeats 8000000 in
theorem rins_1 (q : Nat) (ba : Option Addr) (bc : Nat) (bs : List Int) (p : Nat) (op : Int) (w : World) (hf : formR (rowOf op) = 1) (h : Rd w q ba bc bs p) (hA : AllB bs) (hl : bs.length ≤ 1099511627776) :
    Calls Try.prog 29 #[.pointer (some ⟨q, 0, none⟩), .int .i64 op] w (RiP (decF 1 op bs p) w q ba bc bs) := by
  have HF := Hid.mk' (iform_c op)
  rw [hf] at HF
  obtain ⟨W, hW⟩ : ∃ W, W = (w.alloc (.cells #[.int .i64 0, .int .i64 0, .int .i64 0, .int .u64 0, .slice none 0 0] 26)).alloc (.cells #[.int .i64 op, .int .i64 0, .int .i64 0, .int .u64 0, .slice none 0 0] 26) := ⟨_, rfl⟩
  obtain ⟨hz, hx, hb⟩ := two_box w op
  rw [← hW] at hz hx hb
  have hws : w.heap.size + 2 = W.heap.size := by rw [hW]; simp
  have HW := Hid.mk' hW
  have HZ := Hid.mk' hz
  have HX := Hid.mk' hx
  have HRW := Hid.mk' (h.keep hb)
  have HGW := Hid.mk' (show w.grownBy W (some q) from below_grown' hb)
  have LR := Hid.mk' (lies_of h (Nat.le_refl _))
  have LX := Hid.mk' (lies_of h (show w.heap.size ≤ w.heap.size + 1 by omega))
  have HQ := Hid.mk' h.lt
  clear hf hW hz hx hb h
  show Calls _ _ _ _ (RiP ((onlyM bs p).bind fun v1 p1 => .ok ⟨op, v1, 0, 0, []⟩ p1) _ _ _ _ _)
  have K1 := Hid.mk' (fun V (hV : Rd V q ba bc bs p) => only_c q ba bc bs p V hV hA hl)
  generalize onlyM bs p = M1 at *
  cases M1 with
  | bad er at_ =>
    go_enter Try.func29, Try.ntmps29
    go_wp2_with fail
    rw [show (w.alloc (.cells #[.int .i64 0, .int .i64 0, .int .i64 0, .int .u64 0, .slice none 0 0] 26)).alloc (.cells #[.int .i64 op, .int .i64 0, .int .i64 0, .int .u64 0, .slice none 0 0] 26) = W from HW.out.symm]
    refine (HF.out _).mono ?_
    rintro e w2 ⟨rfl, hb2⟩
    have HR2 := Hid.mk' (HRW.out.keep hb2)
    have HX2 := Hid.mk' (HX.out.keep hb2)
    have HZ2 := Hid.mk' (HZ.out.keep hb2)
    have HG2 := Hid.mk' (grown_trans HGW.out (below_grown' (r := some q) hb2))
    have hs2 := HG2.out.size
    have hz2 : w.heap.size + 2 ≤ w2.heap.size := by have := hb2.size; omega
    obtain ⟨⟨x0, x1, x2, x3, x4⟩, xf⟩ := HX2.out
    have xf1 := xf 1
    have xf2 := xf 2
    have xf3 := xf 3
    have xf4 := xf 4
    clear hb2 HF HW HRW HX HZ HGW xf
    go_wp2_with fail
    refine (K1.out _ HR2.out).mono ?_
    rintro e w3 ⟨hg, rfl⟩
    exact ⟨rfl, grown_trans HG2.out hg, rfl⟩
  | ok v1 p1 =>
    show Calls _ _ _ _ (RiP (.ok ⟨op, v1, 0, 0, []⟩ p1) _ _ _ _ _)
    go_enter Try.func29, Try.ntmps29
    go_wp2_with fail
    rw [show (w.alloc (.cells #[.int .i64 0, .int .i64 0, .int .i64 0, .int .u64 0, .slice none 0 0] 26)).alloc (.cells #[.int .i64 op, .int .i64 0, .int .i64 0, .int .u64 0, .slice none 0 0] 26) = W from HW.out.symm]
    refine (HF.out _).mono ?_
    rintro e w2 ⟨rfl, hb2⟩
    have HR2 := Hid.mk' (HRW.out.keep hb2)
    have HX2 := Hid.mk' (HX.out.keep hb2)
    have HZ2 := Hid.mk' (HZ.out.keep hb2)
    have HG2 := Hid.mk' (grown_trans HGW.out (below_grown' (r := some q) hb2))
    have hs2 := HG2.out.size
    have hz2 : w.heap.size + 2 ≤ w2.heap.size := by have := hb2.size; omega
    obtain ⟨⟨x0, x1, x2, x3, x4⟩, xf⟩ := HX2.out
    have xf1 := xf 1
    have xf2 := xf 2
    have xf3 := xf 3
    have xf4 := xf 4
    clear hb2 HF HW HRW HX HZ HGW xf
    go_wp2_with fail
    refine (K1.out _ HR2.out).mono ?_
    rintro e w3 ⟨hg, rfl, hr⟩
    have ha2 := Hid.mk' (c5_grown HX2.out hg LX.out.ne)
    have hb2 := Hid.mk' (c5_grown HZ2.out hg LR.out.ne)
    have hc2 := Hid.mk' (grown_trans HG2.out hg)
    have hd2 := Hid.mk' hr
    have hs3 := hc2.out.size
    obtain ⟨⟨y00, y01, y02, y03, y04⟩, yf⟩ := ha2.out
    have yf01 := yf 1
    have yf02 := yf 2
    have yf03 := yf 3
    have yf04 := yf 4
    obtain ⟨⟨z00, z01, z02, z03, z04⟩, zf⟩ := hb2.out
    have zf00 := zf 0
    have zf01 := zf 1
    have zf02 := zf 2
    have zf03 := zf 3
    have zf04 := zf 4
    clear hg hr yf zf HX2 HZ2 HG2 HR2 K1
    have HX3 := Hid.mk' (c5_set1 (v := .int .i64 v1) ha2.out)
    have HZ3 := Hid.mk' (c5_far (X := w.heap.size + 1) (i := 1) (v := .int .i64 v1) hb2.out (by omega))
    have HG3 := Hid.mk' (grown_far hc2.out LX.out 1 (.int .i64 v1))
    have HR3 := Hid.mk' (hd2.out.far LX.out 1 (.int .i64 v1))
    go_wp2_with fail
    exact bodyPost_ret (v := inV (⟨op, v1, 0, 0, []⟩ : In) none 0) (by simp [results, Try.results29, go_sem, y00, y01, y02, y03, y04, z00, z01, z02, z03, z04]) rfl (by
      obtain ⟨t1, t2, t3⟩ := rd_fin (x := (⟨op, v1, 0, 0, []⟩ : In)) (la := none) (lc := 0) HR3.out HG3.out LR.out (World.ownsRow_nil _ _ _ _) (by simp [Value.ownBlock])
      exact ⟨t1, none, 0, rfl, t2, t3, (Nat.zero_le _)⟩)
set_option maxHeartbeats 8000000 in
theorem rins_2 (q : Nat) (ba : Option Addr) (bc : Nat) (bs : List Int) (p : Nat) (op : Int) (w : World) (hf : formR (rowOf op) = 2) (h : Rd w q ba bc bs p) (hA : AllB bs) (hl : bs.length ≤ 1099511627776) :
    Calls Try.prog 29 #[.pointer (some ⟨q, 0, none⟩), .int .i64 op] w (RiP (decF 2 op bs p) w q ba bc bs) := by
  have HF := Hid.mk' (iform_c op)
  rw [hf] at HF
  obtain ⟨W, hW⟩ : ∃ W, W = (w.alloc (.cells #[.int .i64 0, .int .i64 0, .int .i64 0, .int .u64 0, .slice none 0 0] 26)).alloc (.cells #[.int .i64 op, .int .i64 0, .int .i64 0, .int .u64 0, .slice none 0 0] 26) := ⟨_, rfl⟩
  obtain ⟨hz, hx, hb⟩ := two_box w op
  rw [← hW] at hz hx hb
  have hws : w.heap.size + 2 = W.heap.size := by rw [hW]; simp
  have HW := Hid.mk' hW
  have HZ := Hid.mk' hz
  have HX := Hid.mk' hx
  have HRW := Hid.mk' (h.keep hb)
  have HGW := Hid.mk' (show w.grownBy W (some q) from below_grown' hb)
  have LR := Hid.mk' (lies_of h (Nat.le_refl _))
  have LX := Hid.mk' (lies_of h (show w.heap.size ≤ w.heap.size + 1 by omega))
  have HQ := Hid.mk' h.lt
  clear hf hW hz hx hb h
  show Calls _ _ _ _ (RiP ((numM false 32 bs p).bind fun v1 p1 => .ok ⟨op, v1, 0, 0, []⟩ p1) _ _ _ _ _)
  have K1 := Hid.mk' (fun V (hV : Rd V q ba bc bs p) => u32_rc q ba bc bs p V hV hA hl)
  generalize numM false 32 bs p = M1 at *
  cases M1 with
  | bad er at_ =>
    go_enter Try.func29, Try.ntmps29
    go_wp2_with fail
    rw [show (w.alloc (.cells #[.int .i64 0, .int .i64 0, .int .i64 0, .int .u64 0, .slice none 0 0] 26)).alloc (.cells #[.int .i64 op, .int .i64 0, .int .i64 0, .int .u64 0, .slice none 0 0] 26) = W from HW.out.symm]
    refine (HF.out _).mono ?_
    rintro e w2 ⟨rfl, hb2⟩
    have HR2 := Hid.mk' (HRW.out.keep hb2)
    have HX2 := Hid.mk' (HX.out.keep hb2)
    have HZ2 := Hid.mk' (HZ.out.keep hb2)
    have HG2 := Hid.mk' (grown_trans HGW.out (below_grown' (r := some q) hb2))
    have hs2 := HG2.out.size
    have hz2 : w.heap.size + 2 ≤ w2.heap.size := by have := hb2.size; omega
    obtain ⟨⟨x0, x1, x2, x3, x4⟩, xf⟩ := HX2.out
    have xf1 := xf 1
    have xf2 := xf 2
    have xf3 := xf 3
    have xf4 := xf 4
    clear hb2 HF HW HRW HX HZ HGW xf
    go_wp2_with fail
    refine (K1.out _ HR2.out).mono ?_
    rintro e w3 ⟨hg, rfl⟩
    exact ⟨rfl, grown_trans HG2.out hg, rfl⟩
  | ok v1 p1 =>
    show Calls _ _ _ _ (RiP (.ok ⟨op, v1, 0, 0, []⟩ p1) _ _ _ _ _)
    go_enter Try.func29, Try.ntmps29
    go_wp2_with fail
    rw [show (w.alloc (.cells #[.int .i64 0, .int .i64 0, .int .i64 0, .int .u64 0, .slice none 0 0] 26)).alloc (.cells #[.int .i64 op, .int .i64 0, .int .i64 0, .int .u64 0, .slice none 0 0] 26) = W from HW.out.symm]
    refine (HF.out _).mono ?_
    rintro e w2 ⟨rfl, hb2⟩
    have HR2 := Hid.mk' (HRW.out.keep hb2)
    have HX2 := Hid.mk' (HX.out.keep hb2)
    have HZ2 := Hid.mk' (HZ.out.keep hb2)
    have HG2 := Hid.mk' (grown_trans HGW.out (below_grown' (r := some q) hb2))
    have hs2 := HG2.out.size
    have hz2 : w.heap.size + 2 ≤ w2.heap.size := by have := hb2.size; omega
    obtain ⟨⟨x0, x1, x2, x3, x4⟩, xf⟩ := HX2.out
    have xf1 := xf 1
    have xf2 := xf 2
    have xf3 := xf 3
    have xf4 := xf 4
    clear hb2 HF HW HRW HX HZ HGW xf
    go_wp2_with fail
    refine (K1.out _ HR2.out).mono ?_
    rintro e w3 ⟨hg, rfl, hr⟩
    have ha2 := Hid.mk' (c5_grown HX2.out hg LX.out.ne)
    have hb2 := Hid.mk' (c5_grown HZ2.out hg LR.out.ne)
    have hc2 := Hid.mk' (grown_trans HG2.out hg)
    have hd2 := Hid.mk' hr
    have hs3 := hc2.out.size
    obtain ⟨⟨y00, y01, y02, y03, y04⟩, yf⟩ := ha2.out
    have yf01 := yf 1
    have yf02 := yf 2
    have yf03 := yf 3
    have yf04 := yf 4
    obtain ⟨⟨z00, z01, z02, z03, z04⟩, zf⟩ := hb2.out
    have zf00 := zf 0
    have zf01 := zf 1
    have zf02 := zf 2
    have zf03 := zf 3
    have zf04 := zf 4
    clear hg hr yf zf HX2 HZ2 HG2 HR2 K1
    have HX3 := Hid.mk' (c5_set1 (v := .int .i64 v1) ha2.out)
    have HZ3 := Hid.mk' (c5_far (X := w.heap.size + 1) (i := 1) (v := .int .i64 v1) hb2.out (by omega))
    have HG3 := Hid.mk' (grown_far hc2.out LX.out 1 (.int .i64 v1))
    have HR3 := Hid.mk' (hd2.out.far LX.out 1 (.int .i64 v1))
    go_wp2_with fail
    exact bodyPost_ret (v := inV (⟨op, v1, 0, 0, []⟩ : In) none 0) (by simp [results, Try.results29, go_sem, y00, y01, y02, y03, y04, z00, z01, z02, z03, z04]) rfl (by
      obtain ⟨t1, t2, t3⟩ := rd_fin (x := (⟨op, v1, 0, 0, []⟩ : In)) (la := none) (lc := 0) HR3.out HG3.out LR.out (World.ownsRow_nil _ _ _ _) (by simp [Value.ownBlock])
      exact ⟨t1, none, 0, rfl, t2, t3, (Nat.zero_le _)⟩)
end Go.Proofs.Yteaegmlnacnofaa

set_option linter.unusedVariables false
namespace Go.Proofs.Yteaegmlnacnofaa
open Go.RowKit Go.Sort
set_option maxRecDepth 100000
set_option maxHeartbeats 8000000 in
theorem rins_6 (q : Nat) (ba : Option Addr) (bc : Nat) (bs : List Int) (p : Nat) (op : Int) (w : World) (hf : formR (rowOf op) = 6) (h : Rd w q ba bc bs p) (hA : AllB bs) (hl : bs.length ≤ 1099511627776) :
    Calls Try.prog 29 #[.pointer (some ⟨q, 0, none⟩), .int .i64 op] w (RiP (decF 6 op bs p) w q ba bc bs) := by
  have HF := Hid.mk' (iform_c op)
  rw [hf] at HF
  obtain ⟨W, hW⟩ : ∃ W, W = (w.alloc (.cells #[.int .i64 0, .int .i64 0, .int .i64 0, .int .u64 0, .slice none 0 0] 26)).alloc (.cells #[.int .i64 op, .int .i64 0, .int .i64 0, .int .u64 0, .slice none 0 0] 26) := ⟨_, rfl⟩
  obtain ⟨hz, hx, hb⟩ := two_box w op
  rw [← hW] at hz hx hb
  have hws : w.heap.size + 2 = W.heap.size := by rw [hW]; simp
  have HW := Hid.mk' hW
  have HZ := Hid.mk' hz
  have HX := Hid.mk' hx
  have HRW := Hid.mk' (h.keep hb)
  have HGW := Hid.mk' (show w.grownBy W (some q) from below_grown' hb)
  have LR := Hid.mk' (lies_of h (Nat.le_refl _))
  have LX := Hid.mk' (lies_of h (show w.heap.size ≤ w.heap.size + 1 by omega))
  have HQ := Hid.mk' h.lt
  clear hf hW hz hx hb h
  show Calls _ _ _ _ (RiP ((markM bs p).bind fun v1 p1 => .ok ⟨op, 0, 0, 0, []⟩ p1) _ _ _ _ _)
  have K1 := Hid.mk' (fun V (hV : Rd V q ba bc bs p) => mark_rc q ba bc bs p V hV hA hl)
  generalize markM bs p = M1 at *
  cases M1 with
  | bad er at_ =>
    go_enter Try.func29, Try.ntmps29
    go_wp2_with fail
    rw [show (w.alloc (.cells #[.int .i64 0, .int .i64 0, .int .i64 0, .int .u64 0, .slice none 0 0] 26)).alloc (.cells #[.int .i64 op, .int .i64 0, .int .i64 0, .int .u64 0, .slice none 0 0] 26) = W from HW.out.symm]
    refine (HF.out _).mono ?_
    rintro e w2 ⟨rfl, hb2⟩
    have HR2 := Hid.mk' (HRW.out.keep hb2)
    have HX2 := Hid.mk' (HX.out.keep hb2)
    have HZ2 := Hid.mk' (HZ.out.keep hb2)
    have HG2 := Hid.mk' (grown_trans HGW.out (below_grown' (r := some q) hb2))
    have hs2 := HG2.out.size
    have hz2 : w.heap.size + 2 ≤ w2.heap.size := by have := hb2.size; omega
    obtain ⟨⟨x0, x1, x2, x3, x4⟩, xf⟩ := HX2.out
    have xf1 := xf 1
    have xf2 := xf 2
    have xf3 := xf 3
    have xf4 := xf 4
    clear hb2 HF HW HRW HX HZ HGW xf
    go_wp2_with fail
    refine (K1.out _ HR2.out).mono ?_
    rintro e w3 ⟨hg, rfl⟩
    exact ⟨rfl, grown_trans HG2.out hg, rfl⟩
  | ok v1 p1 =>
    show Calls _ _ _ _ (RiP (.ok ⟨op, 0, 0, 0, []⟩ p1) _ _ _ _ _)
    go_enter Try.func29, Try.ntmps29
    go_wp2_with fail
    rw [show (w.alloc (.cells #[.int .i64 0, .int .i64 0, .int .i64 0, .int .u64 0, .slice none 0 0] 26)).alloc (.cells #[.int .i64 op, .int .i64 0, .int .i64 0, .int .u64 0, .slice none 0 0] 26) = W from HW.out.symm]
    refine (HF.out _).mono ?_
    rintro e w2 ⟨rfl, hb2⟩
    have HR2 := Hid.mk' (HRW.out.keep hb2)
    have HX2 := Hid.mk' (HX.out.keep hb2)
    have HZ2 := Hid.mk' (HZ.out.keep hb2)
    have HG2 := Hid.mk' (grown_trans HGW.out (below_grown' (r := some q) hb2))
    have hs2 := HG2.out.size
    have hz2 : w.heap.size + 2 ≤ w2.heap.size := by have := hb2.size; omega
    obtain ⟨⟨x0, x1, x2, x3, x4⟩, xf⟩ := HX2.out
    have xf1 := xf 1
    have xf2 := xf 2
    have xf3 := xf 3
    have xf4 := xf 4
    clear hb2 HF HW HRW HX HZ HGW xf
    go_wp2_with fail
    refine (K1.out _ HR2.out).mono ?_
    rintro e w3 ⟨hg, rfl, hr⟩
    have ha2 := Hid.mk' (c5_grown HX2.out hg LX.out.ne)
    have hb2 := Hid.mk' (c5_grown HZ2.out hg LR.out.ne)
    have hc2 := Hid.mk' (grown_trans HG2.out hg)
    have hd2 := Hid.mk' hr
    have hs3 := hc2.out.size
    obtain ⟨⟨y00, y01, y02, y03, y04⟩, yf⟩ := ha2.out
    have yf01 := yf 1
    have yf02 := yf 2
    have yf03 := yf 3
    have yf04 := yf 4
    obtain ⟨⟨z00, z01, z02, z03, z04⟩, zf⟩ := hb2.out
    have zf00 := zf 0
    have zf01 := zf 1
    have zf02 := zf 2
    have zf03 := zf 3
    have zf04 := zf 4
    clear hg hr yf zf HX2 HZ2 HG2 HR2 K1
    have HX3 := ha2
    have HZ3 := hb2
    have HG3 := hc2
    have HR3 := hd2
    go_wp2_with fail
    exact bodyPost_ret (v := inV (⟨op, 0, 0, 0, []⟩ : In) none 0) (by simp [results, Try.results29, go_sem, y00, y01, y02, y03, y04, z00, z01, z02, z03, z04]) rfl (by
      obtain ⟨t1, t2, t3⟩ := rd_fin (x := (⟨op, 0, 0, 0, []⟩ : In)) (la := none) (lc := 0) HR3.out HG3.out LR.out (World.ownsRow_nil _ _ _ _) (by simp [Value.ownBlock])
      exact ⟨t1, none, 0, rfl, t2, t3, (Nat.zero_le _)⟩)
set_option maxHeartbeats 8000000 in
theorem rins_4 (q : Nat) (ba : Option Addr) (bc : Nat) (bs : List Int) (p : Nat) (op : Int) (w : World) (hf : formR (rowOf op) = 4) (h : Rd w q ba bc bs p) (hA : AllB bs) (hl : bs.length ≤ 1099511627776) :
    Calls Try.prog 29 #[.pointer (some ⟨q, 0, none⟩), .int .i64 op] w (RiP (decF 4 op bs p) w q ba bc bs) := by
  have HF := Hid.mk' (iform_c op)
  rw [hf] at HF
  obtain ⟨W, hW⟩ : ∃ W, W = (w.alloc (.cells #[.int .i64 0, .int .i64 0, .int .i64 0, .int .u64 0, .slice none 0 0] 26)).alloc (.cells #[.int .i64 op, .int .i64 0, .int .i64 0, .int .u64 0, .slice none 0 0] 26) := ⟨_, rfl⟩
  obtain ⟨hz, hx, hb⟩ := two_box w op
  rw [← hW] at hz hx hb
  have hws : w.heap.size + 2 = W.heap.size := by rw [hW]; simp
  have HW := Hid.mk' hW
  have HZ := Hid.mk' hz
  have HX := Hid.mk' hx
  have HRW := Hid.mk' (h.keep hb)
  have HGW := Hid.mk' (show w.grownBy W (some q) from below_grown' hb)
  have LR := Hid.mk' (lies_of h (Nat.le_refl _))
  have LX := Hid.mk' (lies_of h (show w.heap.size ≤ w.heap.size + 1 by omega))
  have HQ := Hid.mk' h.lt
  clear hf hW hz hx hb h
  show Calls _ _ _ _ (RiP ((numM false 32 bs p).bind fun v1 p1 => (markM bs p1).bind fun v2 p2 => .ok ⟨op, v1, 0, 0, []⟩ p2) _ _ _ _ _)
  have K1 := Hid.mk' (fun V (hV : Rd V q ba bc bs p) => u32_rc q ba bc bs p V hV hA hl)
  generalize numM false 32 bs p = M1 at *
  cases M1 with
  | bad er at_ =>
    go_enter Try.func29, Try.ntmps29
    go_wp2_with fail
    rw [show (w.alloc (.cells #[.int .i64 0, .int .i64 0, .int .i64 0, .int .u64 0, .slice none 0 0] 26)).alloc (.cells #[.int .i64 op, .int .i64 0, .int .i64 0, .int .u64 0, .slice none 0 0] 26) = W from HW.out.symm]
    refine (HF.out _).mono ?_
    rintro e w2 ⟨rfl, hb2⟩
    have HR2 := Hid.mk' (HRW.out.keep hb2)
    have HX2 := Hid.mk' (HX.out.keep hb2)
    have HZ2 := Hid.mk' (HZ.out.keep hb2)
    have HG2 := Hid.mk' (grown_trans HGW.out (below_grown' (r := some q) hb2))
    have hs2 := HG2.out.size
    have hz2 : w.heap.size + 2 ≤ w2.heap.size := by have := hb2.size; omega
    obtain ⟨⟨x0, x1, x2, x3, x4⟩, xf⟩ := HX2.out
    have xf1 := xf 1
    have xf2 := xf 2
    have xf3 := xf 3
    have xf4 := xf 4
    clear hb2 HF HW HRW HX HZ HGW xf
    go_wp2_with fail
    refine (K1.out _ HR2.out).mono ?_
    rintro e w3 ⟨hg, rfl⟩
    exact ⟨rfl, grown_trans HG2.out hg, rfl⟩
  | ok v1 p1 =>
    show Calls _ _ _ _ (RiP ((markM bs p1).bind fun v2 p2 => .ok ⟨op, v1, 0, 0, []⟩ p2) _ _ _ _ _)
    have K2 := Hid.mk' (fun V (hV : Rd V q ba bc bs p1) => mark_rc q ba bc bs p1 V hV hA hl)
    generalize markM bs p1 = M2 at *
    cases M2 with
    | bad er at_ =>
      go_enter Try.func29, Try.ntmps29
      go_wp2_with fail
      rw [show (w.alloc (.cells #[.int .i64 0, .int .i64 0, .int .i64 0, .int .u64 0, .slice none 0 0] 26)).alloc (.cells #[.int .i64 op, .int .i64 0, .int .i64 0, .int .u64 0, .slice none 0 0] 26) = W from HW.out.symm]
      refine (HF.out _).mono ?_
      rintro e w2 ⟨rfl, hb2⟩
      have HR2 := Hid.mk' (HRW.out.keep hb2)
      have HX2 := Hid.mk' (HX.out.keep hb2)
      have HZ2 := Hid.mk' (HZ.out.keep hb2)
      have HG2 := Hid.mk' (grown_trans HGW.out (below_grown' (r := some q) hb2))
      have hs2 := HG2.out.size
      have hz2 : w.heap.size + 2 ≤ w2.heap.size := by have := hb2.size; omega
      obtain ⟨⟨x0, x1, x2, x3, x4⟩, xf⟩ := HX2.out
      have xf1 := xf 1
      have xf2 := xf 2
      have xf3 := xf 3
      have xf4 := xf 4
      clear hb2 HF HW HRW HX HZ HGW xf
      go_wp2_with fail
      refine (K1.out _ HR2.out).mono ?_
      rintro e w3 ⟨hg, rfl, hr⟩
      have ha2 := Hid.mk' (c5_grown HX2.out hg LX.out.ne)
      have hb2 := Hid.mk' (c5_grown HZ2.out hg LR.out.ne)
      have hc2 := Hid.mk' (grown_trans HG2.out hg)
      have hd2 := Hid.mk' hr
      have hs3 := hc2.out.size
      obtain ⟨⟨y00, y01, y02, y03, y04⟩, yf⟩ := ha2.out
      have yf01 := yf 1
      have yf02 := yf 2
      have yf03 := yf 3
      have yf04 := yf 4
      obtain ⟨⟨z00, z01, z02, z03, z04⟩, zf⟩ := hb2.out
      have zf00 := zf 0
      have zf01 := zf 1
      have zf02 := zf 2
      have zf03 := zf 3
      have zf04 := zf 4
      clear hg hr yf zf HX2 HZ2 HG2 HR2 K1
      have HX3 := Hid.mk' (c5_set1 (v := .int .i64 v1) ha2.out)
      have HZ3 := Hid.mk' (c5_far (X := w.heap.size + 1) (i := 1) (v := .int .i64 v1) hb2.out (by omega))
      have HG3 := Hid.mk' (grown_far hc2.out LX.out 1 (.int .i64 v1))
      have HR3 := Hid.mk' (hd2.out.far LX.out 1 (.int .i64 v1))
      go_wp2_with fail
      refine (K2.out _ HR3.out).mono ?_
      rintro e w4 ⟨hg, rfl⟩
      exact ⟨rfl, grown_trans HG3.out hg, rfl⟩
    | ok v2 p2 =>
      show Calls _ _ _ _ (RiP (.ok ⟨op, v1, 0, 0, []⟩ p2) _ _ _ _ _)
      go_enter Try.func29, Try.ntmps29
      go_wp2_with fail
      rw [show (w.alloc (.cells #[.int .i64 0, .int .i64 0, .int .i64 0, .int .u64 0, .slice none 0 0] 26)).alloc (.cells #[.int .i64 op, .int .i64 0, .int .i64 0, .int .u64 0, .slice none 0 0] 26) = W from HW.out.symm]
      refine (HF.out _).mono ?_
      rintro e w2 ⟨rfl, hb2⟩
      have HR2 := Hid.mk' (HRW.out.keep hb2)
      have HX2 := Hid.mk' (HX.out.keep hb2)
      have HZ2 := Hid.mk' (HZ.out.keep hb2)
      have HG2 := Hid.mk' (grown_trans HGW.out (below_grown' (r := some q) hb2))
      have hs2 := HG2.out.size
      have hz2 : w.heap.size + 2 ≤ w2.heap.size := by have := hb2.size; omega
      obtain ⟨⟨x0, x1, x2, x3, x4⟩, xf⟩ := HX2.out
      have xf1 := xf 1
      have xf2 := xf 2
      have xf3 := xf 3
      have xf4 := xf 4
      clear hb2 HF HW HRW HX HZ HGW xf
      go_wp2_with fail
      refine (K1.out _ HR2.out).mono ?_
      rintro e w3 ⟨hg, rfl, hr⟩
      have ha2 := Hid.mk' (c5_grown HX2.out hg LX.out.ne)
      have hb2 := Hid.mk' (c5_grown HZ2.out hg LR.out.ne)
      have hc2 := Hid.mk' (grown_trans HG2.out hg)
      have hd2 := Hid.mk' hr
      have hs3 := hc2.out.size
      obtain ⟨⟨y00, y01, y02, y03, y04⟩, yf⟩ := ha2.out
      have yf01 := yf 1
      have yf02 := yf 2
      have yf03 := yf 3
      have yf04 := yf 4
      obtain ⟨⟨z00, z01, z02, z03, z04⟩, zf⟩ := hb2.out
      have zf00 := zf 0
      have zf01 := zf 1
      have zf02 := zf 2
      have zf03 := zf 3
      have zf04 := zf 4
      clear hg hr yf zf HX2 HZ2 HG2 HR2 K1
      have HX3 := Hid.mk' (c5_set1 (v := .int .i64 v1) ha2.out)
      have HZ3 := Hid.mk' (c5_far (X := w.heap.size + 1) (i := 1) (v := .int .i64 v1) hb2.out (by omega))
      have HG3 := Hid.mk' (grown_far hc2.out LX.out 1 (.int .i64 v1))
      have HR3 := Hid.mk' (hd2.out.far LX.out 1 (.int .i64 v1))
      go_wp2_with fail
      refine (K2.out _ HR3.out).mono ?_
      rintro e w4 ⟨hg, rfl, hr⟩
      have ha3 := Hid.mk' (c5_grown HX3.out hg LX.out.ne)
      have hb3 := Hid.mk' (c5_grown HZ3.out hg LR.out.ne)
      have hc3 := Hid.mk' (grown_trans HG3.out hg)
      have hd3 := Hid.mk' hr
      have hs4 := hc3.out.size
      obtain ⟨⟨y10, y11, y12, y13, y14⟩, yf⟩ := ha3.out
      have yf11 := yf 1
      have yf12 := yf 2
      have yf13 := yf 3
      have yf14 := yf 4
      obtain ⟨⟨z10, z11, z12, z13, z14⟩, zf⟩ := hb3.out
      have zf10 := zf 0
      have zf11 := zf 1
      have zf12 := zf 2
      have zf13 := zf 3
      have zf14 := zf 4
      clear hg hr yf zf HX3 HZ3 HG3 HR3 K2
      have HX4 := ha3
      have HZ4 := hb3
      have HG4 := hc3
      have HR4 := hd3
      go_wp2_with fail
      exact bodyPost_ret (v := inV (⟨op, v1, 0, 0, []⟩ : In) none 0) (by simp [results, Try.results29, go_sem, y10, y11, y12, y13, y14, z10, z11, z12, z13, z14]) rfl (by
        obtain ⟨t1, t2, t3⟩ := rd_fin (x := (⟨op, v1, 0, 0, []⟩ : In)) (la := none) (lc := 0) HR4.out HG4.out LR.out (World.ownsRow_nil _ _ _ _) (by simp [Value.ownBlock])
        exact ⟨t1, none, 0, rfl, t2, t3, (Nat.zero_le _)⟩)
end Go.Proofs.Yteaegmlnacnofaa

set_option linter.unusedVariables false
namespace Go.Proofs.Yteaegmlnacnofaa
open Go.RowKit Go.Sort
set_option maxRecDepth 100000
set_option maxHeartbeats 8000000 in
theorem rins_5 (q : Nat) (ba : Option Addr) (bc : Nat) (bs : List Int) (p : Nat) (op : Int) (w : World) (hf : formR (rowOf op) = 5) (h : Rd w q ba bc bs p) (hA : AllB bs) (hl : bs.length ≤ 1099511627776) :
    Calls Try.prog 29 #[.pointer (some ⟨q, 0, none⟩), .int .i64 op] w (RiP (decF 5 op bs p) w q ba bc bs) := by
  have HF := Hid.mk' (iform_c op)
  rw [hf] at HF
  obtain ⟨W, hW⟩ : ∃ W, W = (w.alloc (.cells #[.int .i64 0, .int .i64 0, .int .i64 0, .int .u64 0, .slice none 0 0] 26)).alloc (.cells #[.int .i64 op, .int .i64 0, .int .i64 0, .int .u64 0, .slice none 0 0] 26) := ⟨_, rfl⟩
  obtain ⟨hz, hx, hb⟩ := two_box w op
  rw [← hW] at hz hx hb
  have hws : w.heap.size + 2 = W.heap.size := by rw [hW]; simp
  have HW := Hid.mk' hW
  have HZ := Hid.mk' hz
  have HX := Hid.mk' hx
  have HRW := Hid.mk' (h.keep hb)
  have HGW := Hid.mk' (show w.grownBy W (some q) from below_grown' hb)
  have LR := Hid.mk' (lies_of h (Nat.le_refl _))
  have LX := Hid.mk' (lies_of h (show w.heap.size ≤ w.heap.size + 1 by omega))
  have HQ := Hid.mk' h.lt
  clear hf hW hz hx hb h
  show Calls _ _ _ _ (RiP ((numM false 32 bs p).bind fun v1 p1 => (numM false 32 bs p1).bind fun v2 p2 => .ok ⟨op, v1, v2, 0, []⟩ p2) _ _ _ _ _)
  have K1 := Hid.mk' (fun V (hV : Rd V q ba bc bs p) => u32_rc q ba bc bs p V hV hA hl)
  generalize numM false 32 bs p = M1 at *
  cases M1 with
  | bad er at_ =>
    go_enter Try.func29, Try.ntmps29
    go_wp2_with fail
    rw [show (w.alloc (.cells #[.int .i64 0, .int .i64 0, .int .i64 0, .int .u64 0, .slice none 0 0] 26)).alloc (.cells #[.int .i64 op, .int .i64 0, .int .i64 0, .int .u64 0, .slice none 0 0] 26) = W from HW.out.symm]
    refine (HF.out _).mono ?_
    rintro e w2 ⟨rfl, hb2⟩
    have HR2 := Hid.mk' (HRW.out.keep hb2)
    have HX2 := Hid.mk' (HX.out.keep hb2)
    have HZ2 := Hid.mk' (HZ.out.keep hb2)
    have HG2 := Hid.mk' (grown_trans HGW.out (below_grown' (r := some q) hb2))
    have hs2 := HG2.out.size
    have hz2 : w.heap.size + 2 ≤ w2.heap.size := by have := hb2.size; omega
    obtain ⟨⟨x0, x1, x2, x3, x4⟩, xf⟩ := HX2.out
    have xf1 := xf 1
    have xf2 := xf 2
    have xf3 := xf 3
    have xf4 := xf 4
    clear hb2 HF HW HRW HX HZ HGW xf
    go_wp2_with fail
    refine (K1.out _ HR2.out).mono ?_
    rintro e w3 ⟨hg, rfl⟩
    exact ⟨rfl, grown_trans HG2.out hg, rfl⟩
  | ok v1 p1 =>
    show Calls _ _ _ _ (RiP ((numM false 32 bs p1).bind fun v2 p2 => .ok ⟨op, v1, v2, 0, []⟩ p2) _ _ _ _ _)
    have K2 := Hid.mk' (fun V (hV : Rd V q ba bc bs p1) => u32_rc q ba bc bs p1 V hV hA hl)
    generalize numM false 32 bs p1 = M2 at *
    cases M2 with
    | bad er at_ =>
      go_enter Try.func29, Try.ntmps29
      go_wp2_with fail
      rw [show (w.alloc (.cells #[.int .i64 0, .int .i64 0, .int .i64 0, .int .u64 0, .slice none 0 0] 26)).alloc (.cells #[.int .i64 op, .int .i64 0, .int .i64 0, .int .u64 0, .slice none 0 0] 26) = W from HW.out.symm]
      refine (HF.out _).mono ?_
      rintro e w2 ⟨rfl, hb2⟩
      have HR2 := Hid.mk' (HRW.out.keep hb2)
      have HX2 := Hid.mk' (HX.out.keep hb2)
      have HZ2 := Hid.mk' (HZ.out.keep hb2)
      have HG2 := Hid.mk' (grown_trans HGW.out (below_grown' (r := some q) hb2))
      have hs2 := HG2.out.size
      have hz2 : w.heap.size + 2 ≤ w2.heap.size := by have := hb2.size; omega
      obtain ⟨⟨x0, x1, x2, x3, x4⟩, xf⟩ := HX2.out
      have xf1 := xf 1
      have xf2 := xf 2
      have xf3 := xf 3
      have xf4 := xf 4
      clear hb2 HF HW HRW HX HZ HGW xf
      go_wp2_with fail
      refine (K1.out _ HR2.out).mono ?_
      rintro e w3 ⟨hg, rfl, hr⟩
      have ha2 := Hid.mk' (c5_grown HX2.out hg LX.out.ne)
      have hb2 := Hid.mk' (c5_grown HZ2.out hg LR.out.ne)
      have hc2 := Hid.mk' (grown_trans HG2.out hg)
      have hd2 := Hid.mk' hr
      have hs3 := hc2.out.size
      obtain ⟨⟨y00, y01, y02, y03, y04⟩, yf⟩ := ha2.out
      have yf01 := yf 1
      have yf02 := yf 2
      have yf03 := yf 3
      have yf04 := yf 4
      obtain ⟨⟨z00, z01, z02, z03, z04⟩, zf⟩ := hb2.out
      have zf00 := zf 0
      have zf01 := zf 1
      have zf02 := zf 2
      have zf03 := zf 3
      have zf04 := zf 4
      clear hg hr yf zf HX2 HZ2 HG2 HR2 K1
      have HX3 := Hid.mk' (c5_set1 (v := .int .i64 v1) ha2.out)
      have HZ3 := Hid.mk' (c5_far (X := w.heap.size + 1) (i := 1) (v := .int .i64 v1) hb2.out (by omega))
      have HG3 := Hid.mk' (grown_far hc2.out LX.out 1 (.int .i64 v1))
      have HR3 := Hid.mk' (hd2.out.far LX.out 1 (.int .i64 v1))
      go_wp2_with fail
      refine (K2.out _ HR3.out).mono ?_
      rintro e w4 ⟨hg, rfl⟩
      exact ⟨rfl, grown_trans HG3.out hg, rfl⟩
    | ok v2 p2 =>
      show Calls _ _ _ _ (RiP (.ok ⟨op, v1, v2, 0, []⟩ p2) _ _ _ _ _)
      go_enter Try.func29, Try.ntmps29
      go_wp2_with fail
      rw [show (w.alloc (.cells #[.int .i64 0, .int .i64 0, .int .i64 0, .int .u64 0, .slice none 0 0] 26)).alloc (.cells #[.int .i64 op, .int .i64 0, .int .i64 0, .int .u64 0, .slice none 0 0] 26) = W from HW.out.symm]
      refine (HF.out _).mono ?_
      rintro e w2 ⟨rfl, hb2⟩
      have HR2 := Hid.mk' (HRW.out.keep hb2)
      have HX2 := Hid.mk' (HX.out.keep hb2)
      have HZ2 := Hid.mk' (HZ.out.keep hb2)
      have HG2 := Hid.mk' (grown_trans HGW.out (below_grown' (r := some q) hb2))
      have hs2 := HG2.out.size
      have hz2 : w.heap.size + 2 ≤ w2.heap.size := by have := hb2.size; omega
      obtain ⟨⟨x0, x1, x2, x3, x4⟩, xf⟩ := HX2.out
      have xf1 := xf 1
      have xf2 := xf 2
      have xf3 := xf 3
      have xf4 := xf 4
      clear hb2 HF HW HRW HX HZ HGW xf
      go_wp2_with fail
      refine (K1.out _ HR2.out).mono ?_
      rintro e w3 ⟨hg, rfl, hr⟩
      have ha2 := Hid.mk' (c5_grown HX2.out hg LX.out.ne)
      have hb2 := Hid.mk' (c5_grown HZ2.out hg LR.out.ne)
      have hc2 := Hid.mk' (grown_trans HG2.out hg)
      have hd2 := Hid.mk' hr
      have hs3 := hc2.out.size
      obtain ⟨⟨y00, y01, y02, y03, y04⟩, yf⟩ := ha2.out
      have yf01 := yf 1
      have yf02 := yf 2
      have yf03 := yf 3
      have yf04 := yf 4
      obtain ⟨⟨z00, z01, z02, z03, z04⟩, zf⟩ := hb2.out
      have zf00 := zf 0
      have zf01 := zf 1
      have zf02 := zf 2
      have zf03 := zf 3
      have zf04 := zf 4
      clear hg hr yf zf HX2 HZ2 HG2 HR2 K1
      have HX3 := Hid.mk' (c5_set1 (v := .int .i64 v1) ha2.out)
      have HZ3 := Hid.mk' (c5_far (X := w.heap.size + 1) (i := 1) (v := .int .i64 v1) hb2.out (by omega))
      have HG3 := Hid.mk' (grown_far hc2.out LX.out 1 (.int .i64 v1))
      have HR3 := Hid.mk' (hd2.out.far LX.out 1 (.int .i64 v1))
      go_wp2_with fail
      refine (K2.out _ HR3.out).mono ?_
      rintro e w4 ⟨hg, rfl, hr⟩
      have ha3 := Hid.mk' (c5_grown HX3.out hg LX.out.ne)
      have hb3 := Hid.mk' (c5_grown HZ3.out hg LR.out.ne)
      have hc3 := Hid.mk' (grown_trans HG3.out hg)
      have hd3 := Hid.mk' hr
      have hs4 := hc3.out.size
      obtain ⟨⟨y10, y11, y12, y13, y14⟩, yf⟩ := ha3.out
      have yf11 := yf 1
      have yf12 := yf 2
      have yf13 := yf 3
      have yf14 := yf 4
      obtain ⟨⟨z10, z11, z12, z13, z14⟩, zf⟩ := hb3.out
      have zf10 := zf 0
      have zf11 := zf 1
      have zf12 := zf 2
      have zf13 := zf 3
      have zf14 := zf 4
      clear hg hr yf zf HX3 HZ3 HG3 HR3 K2
      have HX4 := Hid.mk' (c5_set2 (v := .int .i64 v2) ha3.out)
      have HZ4 := Hid.mk' (c5_far (X := w.heap.size + 1) (i := 2) (v := .int .i64 v2) hb3.out (by omega))
      have HG4 := Hid.mk' (grown_far hc3.out LX.out 2 (.int .i64 v2))
      have HR4 := Hid.mk' (hd3.out.far LX.out 2 (.int .i64 v2))
      go_wp2_with fail
      exact bodyPost_ret (v := inV (⟨op, v1, v2, 0, []⟩ : In) none 0) (by simp [results, Try.results29, go_sem, y10, y11, y12, y13, y14, z10, z11, z12, z13, z14]) rfl (by
        obtain ⟨t1, t2, t3⟩ := rd_fin (x := (⟨op, v1, v2, 0, []⟩ : In)) (la := none) (lc := 0) HR4.out HG4.out LR.out (World.ownsRow_nil _ _ _ _) (by simp [Value.ownBlock])
        exact ⟨t1, none, 0, rfl, t2, t3, (Nat.zero_le _)⟩)
end Go.Proofs.Yteaegmlnacnofaa

set_option linter.unusedVariables false
namespace Go.Proofs.Yteaegmlnacnofaa
open Go.RowKit Go.Sort
set_option maxRecDepth 100000
set_option maxHeartbeats 8000000 in
theorem rins_7 (q : Nat) (ba : Option Addr) (bc : Nat) (bs : List Int) (p : Nat) (op : Int) (w : World) (hf : formR (rowOf op) = 7) (h : Rd w q ba bc bs p) (hA : AllB bs) (hl : bs.length ≤ 1099511627776) :
    Calls Try.prog 29 #[.pointer (some ⟨q, 0, none⟩), .int .i64 op] w (RiP (decF 7 op bs p) w q ba bc bs) := by
  have HF := Hid.mk' (iform_c op)
  rw [hf] at HF
  obtain ⟨W, hW⟩ : ∃ W, W = (w.alloc (.cells #[.int .i64 0, .int .i64 0, .int .i64 0, .int .u64 0, .slice none 0 0] 26)).alloc (.cells #[.int .i64 op, .int .i64 0, .int .i64 0, .int .u64 0, .slice none 0 0] 26) := ⟨_, rfl⟩
  obtain ⟨hz, hx, hb⟩ := two_box w op
  rw [← hW] at hz hx hb
  have hws : w.heap.size + 2 = W.heap.size := by rw [hW]; simp
  have HW := Hid.mk' hW
  have HZ := Hid.mk' hz
  have HX := Hid.mk' hx
  have HRW := Hid.mk' (h.keep hb)
  have HGW := Hid.mk' (show w.grownBy W (some q) from below_grown' hb)
  have LR := Hid.mk' (lies_of h (Nat.le_refl _))
  have LX := Hid.mk' (lies_of h (show w.heap.size ≤ w.heap.size + 1 by omega))
  have HQ := Hid.mk' h.lt
  clear hf hW hz hx hb h
  show Calls _ _ _ _ (RiP ((numM true 32 bs p).bind fun v1 p1 => .ok ⟨op, 0, 0, v1 % 4294967296, []⟩ p1) _ _ _ _ _)
  have K1 := Hid.mk' (fun V (hV : Rd V q ba bc bs p) => numS_c q ba bc bs p 32 V hV hA hl (by omega) (by omega))
  have hbd1 := fun v p1 => num_bd (s := true) (B := 32) (bs := bs) (p := p) (p1 := p1) (v := v)
  generalize numM true 32 bs p = M1 at *
  cases M1 with
  | bad er at_ =>
    clear hbd1
    go_enter Try.func29, Try.ntmps29
    go_wp2_with fail
    rw [show (w.alloc (.cells #[.int .i64 0, .int .i64 0, .int .i64 0, .int .u64 0, .slice none 0 0] 26)).alloc (.cells #[.int .i64 op, .int .i64 0, .int .i64 0, .int .u64 0, .slice none 0 0] 26) = W from HW.out.symm]
    refine (HF.out _).mono ?_
    rintro e w2 ⟨rfl, hb2⟩
    have HR2 := Hid.mk' (HRW.out.keep hb2)
    have HX2 := Hid.mk' (HX.out.keep hb2)
    have HZ2 := Hid.mk' (HZ.out.keep hb2)
    have HG2 := Hid.mk' (grown_trans HGW.out (below_grown' (r := some q) hb2))
    have hs2 := HG2.out.size
    have hz2 : w.heap.size + 2 ≤ w2.heap.size := by have := hb2.size; omega
    obtain ⟨⟨x0, x1, x2, x3, x4⟩, xf⟩ := HX2.out
    have xf1 := xf 1
    have xf2 := xf 2
    have xf3 := xf 3
    have xf4 := xf 4
    clear hb2 HF HW HRW HX HZ HGW xf
    go_wp2_with fail
    refine (K1.out _ HR2.out).mono ?_
    rintro e w3 ⟨hg, rfl⟩
    exact ⟨rfl, grown_trans HG2.out hg, rfl⟩
  | ok v1 p1 =>
    show Calls _ _ _ _ (RiP (.ok ⟨op, 0, 0, v1 % 4294967296, []⟩ p1) _ _ _ _ _)
    obtain ⟨hv0, hv1⟩ := hbd1 v1 p1 rfl
    clear hbd1
    go_enter Try.func29, Try.ntmps29
    go_wp2_with fail
    rw [show (w.alloc (.cells #[.int .i64 0, .int .i64 0, .int .i64 0, .int .u64 0, .slice none 0 0] 26)).alloc (.cells #[.int .i64 op, .int .i64 0, .int .i64 0, .int .u64 0, .slice none 0 0] 26) = W from HW.out.symm]
    refine (HF.out _).mono ?_
    rintro e w2 ⟨rfl, hb2⟩
    have HR2 := Hid.mk' (HRW.out.keep hb2)
    have HX2 := Hid.mk' (HX.out.keep hb2)
    have HZ2 := Hid.mk' (HZ.out.keep hb2)
    have HG2 := Hid.mk' (grown_trans HGW.out (below_grown' (r := some q) hb2))
    have hs2 := HG2.out.size
    have hz2 : w.heap.size + 2 ≤ w2.heap.size := by have := hb2.size; omega
    obtain ⟨⟨x0, x1, x2, x3, x4⟩, xf⟩ := HX2.out
    have xf1 := xf 1
    have xf2 := xf 2
    have xf3 := xf 3
    have xf4 := xf 4
    clear hb2 HF HW HRW HX HZ HGW xf
    go_wp2_with fail
    refine (K1.out _ HR2.out).mono ?_
    rintro e w3 ⟨hg, rfl, hr⟩
    have ha2 := Hid.mk' (c5_grown HX2.out hg LX.out.ne)
    have hb2 := Hid.mk' (c5_grown HZ2.out hg LR.out.ne)
    have hc2 := Hid.mk' (grown_trans HG2.out hg)
    have hd2 := Hid.mk' hr
    have hs3 := hc2.out.size
    obtain ⟨⟨y00, y01, y02, y03, y04⟩, yf⟩ := ha2.out
    have yf01 := yf 1
    have yf02 := yf 2
    have yf03 := yf 3
    have yf04 := yf 4
    obtain ⟨⟨z00, z01, z02, z03, z04⟩, zf⟩ := hb2.out
    have zf00 := zf 0
    have zf01 := zf 1
    have zf02 := zf 2
    have zf03 := zf 3
    have zf04 := zf 4
    clear hg hr yf zf HX2 HZ2 HG2 HR2 K1
    have HX3 := Hid.mk' (c5_set3 (v := .int .u64 (v1 % 4294967296)) ha2.out)
    have HZ3 := Hid.mk' (c5_far (X := w.heap.size + 1) (i := 3) (v := .int .u64 (v1 % 4294967296)) hb2.out (by omega))
    have HG3 := Hid.mk' (grown_far hc2.out LX.out 3 (.int .u64 (v1 % 4294967296)))
    have HR3 := Hid.mk' (hd2.out.far LX.out 3 (.int .u64 (v1 % 4294967296)))
    go_wp2_with fail
    exact bodyPost_ret (v := inV (⟨op, 0, 0, v1 % 4294967296, []⟩ : In) none 0) (by simp [results, Try.results29, go_sem, y00, y01, y02, y03, y04, z00, z01, z02, z03, z04]) rfl (by
      obtain ⟨t1, t2, t3⟩ := rd_fin (x := (⟨op, 0, 0, v1 % 4294967296, []⟩ : In)) (la := none) (lc := 0) HR3.out HG3.out LR.out (World.ownsRow_nil _ _ _ _) (by simp [Value.ownBlock])
      exact ⟨t1, none, 0, rfl, t2, t3, (Nat.zero_le _)⟩)
set_option maxHeartbeats 8000000 in
theorem rins_8 (q : Nat) (ba : Option Addr) (bc : Nat) (bs : List Int) (p : Nat) (op : Int) (w : World) (hf : formR (rowOf op) = 8) (h : Rd w q ba bc bs p) (hA : AllB bs) (hl : bs.length ≤ 1099511627776) :
    Calls Try.prog 29 #[.pointer (some ⟨q, 0, none⟩), .int .i64 op] w (RiP (decF 8 op bs p) w q ba bc bs) := by
  have HF := Hid.mk' (iform_c op)
  rw [hf] at HF
  obtain ⟨W, hW⟩ : ∃ W, W = (w.alloc (.cells #[.int .i64 0, .int .i64 0, .int .i64 0, .int .u64 0, .slice none 0 0] 26)).alloc (.cells #[.int .i64 op, .int .i64 0, .int .i64 0, .int .u64 0, .slice none 0 0] 26) := ⟨_, rfl⟩
  obtain ⟨hz, hx, hb⟩ := two_box w op
  rw [← hW] at hz hx hb
  have hws : w.heap.size + 2 = W.heap.size := by rw [hW]; simp
  have HW := Hid.mk' hW
  have HZ := Hid.mk' hz
  have HX := Hid.mk' hx
  have HRW := Hid.mk' (h.keep hb)
  have HGW := Hid.mk' (show w.grownBy W (some q) from below_grown' hb)
  have LR := Hid.mk' (lies_of h (Nat.le_refl _))
  have LX := Hid.mk' (lies_of h (show w.heap.size ≤ w.heap.size + 1 by omega))
  have HQ := Hid.mk' h.lt
  clear hf hW hz hx hb h
  show Calls _ _ _ _ (RiP ((numM true 64 bs p).bind fun v1 p1 => .ok ⟨op, 0, 0, v1, []⟩ p1) _ _ _ _ _)
  have K1 := Hid.mk' (fun V (hV : Rd V q ba bc bs p) => numS_c q ba bc bs p 64 V hV hA hl (by omega) (by omega))
  have hbd1 := fun v p1 => num_bd (s := true) (B := 64) (bs := bs) (p := p) (p1 := p1) (v := v)
  generalize numM true 64 bs p = M1 at *
  cases M1 with
  | bad er at_ =>
    clear hbd1
    go_enter Try.func29, Try.ntmps29
    go_wp2_with fail
    rw [show (w.alloc (.cells #[.int .i64 0, .int .i64 0, .int .i64 0, .int .u64 0, .slice none 0 0] 26)).alloc (.cells #[.int .i64 op, .int .i64 0, .int .i64 0, .int .u64 0, .slice none 0 0] 26) = W from HW.out.symm]
    refine (HF.out _).mono ?_
    rintro e w2 ⟨rfl, hb2⟩
    have HR2 := Hid.mk' (HRW.out.keep hb2)
    have HX2 := Hid.mk' (HX.out.keep hb2)
    have HZ2 := Hid.mk' (HZ.out.keep hb2)
    have HG2 := Hid.mk' (grown_trans HGW.out (below_grown' (r := some q) hb2))
    have hs2 := HG2.out.size
    have hz2 : w.heap.size + 2 ≤ w2.heap.size := by have := hb2.size; omega
    obtain ⟨⟨x0, x1, x2, x3, x4⟩, xf⟩ := HX2.out
    have xf1 := xf 1
    have xf2 := xf 2
    have xf3 := xf 3
    have xf4 := xf 4
    clear hb2 HF HW HRW HX HZ HGW xf
    go_wp2_with fail
    refine (K1.out _ HR2.out).mono ?_
    rintro e w3 ⟨hg, rfl⟩
    exact ⟨rfl, grown_trans HG2.out hg, rfl⟩
  | ok v1 p1 =>
    show Calls _ _ _ _ (RiP (.ok ⟨op, 0, 0, v1, []⟩ p1) _ _ _ _ _)
    obtain ⟨hv0, hv1⟩ := hbd1 v1 p1 rfl
    clear hbd1
    go_enter Try.func29, Try.ntmps29
    go_wp2_with fail
    rw [show (w.alloc (.cells #[.int .i64 0, .int .i64 0, .int .i64 0, .int .u64 0, .slice none 0 0] 26)).alloc (.cells #[.int .i64 op, .int .i64 0, .int .i64 0, .int .u64 0, .slice none 0 0] 26) = W from HW.out.symm]
    refine (HF.out _).mono ?_
    rintro e w2 ⟨rfl, hb2⟩
    have HR2 := Hid.mk' (HRW.out.keep hb2)
    have HX2 := Hid.mk' (HX.out.keep hb2)
    have HZ2 := Hid.mk' (HZ.out.keep hb2)
    have HG2 := Hid.mk' (grown_trans HGW.out (below_grown' (r := some q) hb2))
    have hs2 := HG2.out.size
    have hz2 : w.heap.size + 2 ≤ w2.heap.size := by have := hb2.size; omega
    obtain ⟨⟨x0, x1, x2, x3, x4⟩, xf⟩ := HX2.out
    have xf1 := xf 1
    have xf2 := xf 2
    have xf3 := xf 3
    have xf4 := xf 4
    clear hb2 HF HW HRW HX HZ HGW xf
    go_wp2_with fail
    refine (K1.out _ HR2.out).mono ?_
    rintro e w3 ⟨hg, rfl, hr⟩
    have ha2 := Hid.mk' (c5_grown HX2.out hg LX.out.ne)
    have hb2 := Hid.mk' (c5_grown HZ2.out hg LR.out.ne)
    have hc2 := Hid.mk' (grown_trans HG2.out hg)
    have hd2 := Hid.mk' hr
    have hs3 := hc2.out.size
    obtain ⟨⟨y00, y01, y02, y03, y04⟩, yf⟩ := ha2.out
    have yf01 := yf 1
    have yf02 := yf 2
    have yf03 := yf 3
    have yf04 := yf 4
    obtain ⟨⟨z00, z01, z02, z03, z04⟩, zf⟩ := hb2.out
    have zf00 := zf 0
    have zf01 := zf 1
    have zf02 := zf 2
    have zf03 := zf 3
    have zf04 := zf 4
    clear hg hr yf zf HX2 HZ2 HG2 HR2 K1
    have HX3 := Hid.mk' (c5_set3 (v := .int .u64 v1) ha2.out)
    have HZ3 := Hid.mk' (c5_far (X := w.heap.size + 1) (i := 3) (v := .int .u64 v1) hb2.out (by omega))
    have HG3 := Hid.mk' (grown_far hc2.out LX.out 3 (.int .u64 v1))
    have HR3 := Hid.mk' (hd2.out.far LX.out 3 (.int .u64 v1))
    go_wp2_with fail
    exact bodyPost_ret (v := inV (⟨op, 0, 0, v1, []⟩ : In) none 0) (by simp [results, Try.results29, go_sem, y00, y01, y02, y03, y04, z00, z01, z02, z03, z04]) rfl (by
      obtain ⟨t1, t2, t3⟩ := rd_fin (x := (⟨op, 0, 0, v1, []⟩ : In)) (la := none) (lc := 0) HR3.out HG3.out LR.out (World.ownsRow_nil _ _ _ _) (by simp [Value.ownBlock])
      exact ⟨t1, none, 0, rfl, t2, t3, (Nat.zero_le _)⟩)
end Go.Proofs.Yteaegmlnacnofaa

set_option linter.unusedVariables false
namespace Go.Proofs.Yteaegmlnacnofaa
open Go.RowKit Go.Sort
set_option maxRecDepth 100000
set_option maxHeartbeats 8000000 in
theorem rins_9 (q : Nat) (ba : Option Addr) (bc : Nat) (bs : List Int) (p : Nat) (op : Int) (w : World) (hf : formR (rowOf op) = 9) (h : Rd w q ba bc bs p) (hA : AllB bs) (hl : bs.length ≤ 1099511627776) :
    Calls Try.prog 29 #[.pointer (some ⟨q, 0, none⟩), .int .i64 op] w (RiP (decF 9 op bs p) w q ba bc bs) := by
  have HF := Hid.mk' (iform_c op)
  rw [hf] at HF
  obtain ⟨W, hW⟩ : ∃ W, W = (w.alloc (.cells #[.int .i64 0, .int .i64 0, .int .i64 0, .int .u64 0, .slice none 0 0] 26)).alloc (.cells #[.int .i64 op, .int .i64 0, .int .i64 0, .int .u64 0, .slice none 0 0] 26) := ⟨_, rfl⟩
  obtain ⟨hz, hx, hb⟩ := two_box w op
  rw [← hW] at hz hx hb
  have hws : w.heap.size + 2 = W.heap.size := by rw [hW]; simp
  have HW := Hid.mk' hW
  have HZ := Hid.mk' hz
  have HX := Hid.mk' hx
  have HRW := Hid.mk' (h.keep hb)
  have HGW := Hid.mk' (show w.grownBy W (some q) from below_grown' hb)
  have LR := Hid.mk' (lies_of h (Nat.le_refl _))
  have LX := Hid.mk' (lies_of h (show w.heap.size ≤ w.heap.size + 1 by omega))
  have HQ := Hid.mk' h.lt
  clear hf hW hz hx hb h
  show Calls _ _ _ _ (RiP ((fixM bs p 4).bind fun v1 p1 => .ok ⟨op, 0, 0, v1, []⟩ p1) _ _ _ _ _)
  have K1 := Hid.mk' (fun V (hV : Rd V q ba bc bs p) => flt_rc q ba bc bs p 4 V hV hA hl (by omega))
  generalize fixM bs p 4 = M1 at *
  cases M1 with
  | bad er at_ =>
    go_enter Try.func29, Try.ntmps29
    go_wp2_with fail
    rw [show (w.alloc (.cells #[.int .i64 0, .int .i64 0, .int .i64 0, .int .u64 0, .slice none 0 0] 26)).alloc (.cells #[.int .i64 op, .int .i64 0, .int .i64 0, .int .u64 0, .slice none 0 0] 26) = W from HW.out.symm]
    refine (HF.out _).mono ?_
    rintro e w2 ⟨rfl, hb2⟩
    have HR2 := Hid.mk' (HRW.out.keep hb2)
    have HX2 := Hid.mk' (HX.out.keep hb2)
    have HZ2 := Hid.mk' (HZ.out.keep hb2)
    have HG2 := Hid.mk' (grown_trans HGW.out (below_grown' (r := some q) hb2))
    have hs2 := HG2.out.size
    have hz2 : w.heap.size + 2 ≤ w2.heap.size := by have := hb2.size; omega
    obtain ⟨⟨x0, x1, x2, x3, x4⟩, xf⟩ := HX2.out
    have xf1 := xf 1
    have xf2 := xf 2
    have xf3 := xf 3
    have xf4 := xf 4
    clear hb2 HF HW HRW HX HZ HGW xf
    go_wp2_with fail
    refine (K1.out _ HR2.out).mono ?_
    rintro e w3 ⟨hg, rfl⟩
    exact ⟨rfl, grown_trans HG2.out hg, rfl⟩
  | ok v1 p1 =>
    show Calls _ _ _ _ (RiP (.ok ⟨op, 0, 0, v1, []⟩ p1) _ _ _ _ _)
    go_enter Try.func29, Try.ntmps29
    go_wp2_with fail
    rw [show (w.alloc (.cells #[.int .i64 0, .int .i64 0, .int .i64 0, .int .u64 0, .slice none 0 0] 26)).alloc (.cells #[.int .i64 op, .int .i64 0, .int .i64 0, .int .u64 0, .slice none 0 0] 26) = W from HW.out.symm]
    refine (HF.out _).mono ?_
    rintro e w2 ⟨rfl, hb2⟩
    have HR2 := Hid.mk' (HRW.out.keep hb2)
    have HX2 := Hid.mk' (HX.out.keep hb2)
    have HZ2 := Hid.mk' (HZ.out.keep hb2)
    have HG2 := Hid.mk' (grown_trans HGW.out (below_grown' (r := some q) hb2))
    have hs2 := HG2.out.size
    have hz2 : w.heap.size + 2 ≤ w2.heap.size := by have := hb2.size; omega
    obtain ⟨⟨x0, x1, x2, x3, x4⟩, xf⟩ := HX2.out
    have xf1 := xf 1
    have xf2 := xf 2
    have xf3 := xf 3
    have xf4 := xf 4
    clear hb2 HF HW HRW HX HZ HGW xf
    go_wp2_with fail
    refine (K1.out _ HR2.out).mono ?_
    rintro e w3 ⟨hg, rfl, hr⟩
    have ha2 := Hid.mk' (c5_grown HX2.out hg LX.out.ne)
    have hb2 := Hid.mk' (c5_grown HZ2.out hg LR.out.ne)
    have hc2 := Hid.mk' (grown_trans HG2.out hg)
    have hd2 := Hid.mk' hr
    have hs3 := hc2.out.size
    obtain ⟨⟨y00, y01, y02, y03, y04⟩, yf⟩ := ha2.out
    have yf01 := yf 1
    have yf02 := yf 2
    have yf03 := yf 3
    have yf04 := yf 4
    obtain ⟨⟨z00, z01, z02, z03, z04⟩, zf⟩ := hb2.out
    have zf00 := zf 0
    have zf01 := zf 1
    have zf02 := zf 2
    have zf03 := zf 3
    have zf04 := zf 4
    clear hg hr yf zf HX2 HZ2 HG2 HR2 K1
    have HX3 := Hid.mk' (c5_set3 (v := .int .u64 v1) ha2.out)
    have HZ3 := Hid.mk' (c5_far (X := w.heap.size + 1) (i := 3) (v := .int .u64 v1) hb2.out (by omega))
    have HG3 := Hid.mk' (grown_far hc2.out LX.out 3 (.int .u64 v1))
    have HR3 := Hid.mk' (hd2.out.far LX.out 3 (.int .u64 v1))
    go_wp2_with fail
    exact bodyPost_ret (v := inV (⟨op, 0, 0, v1, []⟩ : In) none 0) (by simp [results, Try.results29, go_sem, y00, y01, y02, y03, y04, z00, z01, z02, z03, z04]) rfl (by
      obtain ⟨t1, t2, t3⟩ := rd_fin (x := (⟨op, 0, 0, v1, []⟩ : In)) (la := none) (lc := 0) HR3.out HG3.out LR.out (World.ownsRow_nil _ _ _ _) (by simp [Value.ownBlock])
      exact ⟨t1, none, 0, rfl, t2, t3, (Nat.zero_le _)⟩)
set_option maxHeartbeats 8000000 in
theorem rins_10 (q : Nat) (ba : Option Addr) (bc : Nat) (bs : List Int) (p : Nat) (op : Int) (w : World) (hf : formR (rowOf op) = 10) (h : Rd w q ba bc bs p) (hA : AllB bs) (hl : bs.length ≤ 1099511627776) :
    Calls Try.prog 29 #[.pointer (some ⟨q, 0, none⟩), .int .i64 op] w (RiP (decF 10 op bs p) w q ba bc bs) := by
  have HF := Hid.mk' (iform_c op)
  rw [hf] at HF
  obtain ⟨W, hW⟩ : ∃ W, W = (w.alloc (.cells #[.int .i64 0, .int .i64 0, .int .i64 0, .int .u64 0, .slice none 0 0] 26)).alloc (.cells #[.int .i64 op, .int .i64 0, .int .i64 0, .int .u64 0, .slice none 0 0] 26) := ⟨_, rfl⟩
  obtain ⟨hz, hx, hb⟩ := two_box w op
  rw [← hW] at hz hx hb
  have hws : w.heap.size + 2 = W.heap.size := by rw [hW]; simp
  have HW := Hid.mk' hW
  have HZ := Hid.mk' hz
  have HX := Hid.mk' hx
  have HRW := Hid.mk' (h.keep hb)
  have HGW := Hid.mk' (show w.grownBy W (some q) from below_grown' hb)
  have LR := Hid.mk' (lies_of h (Nat.le_refl _))
  have LX := Hid.mk' (lies_of h (show w.heap.size ≤ w.heap.size + 1 by omega))
  have HQ := Hid.mk' h.lt
  clear hf hW hz hx hb h
  show Calls _ _ _ _ (RiP ((fixM bs p 8).bind fun v1 p1 => .ok ⟨op, 0, 0, v1, []⟩ p1) _ _ _ _ _)
  have K1 := Hid.mk' (fun V (hV : Rd V q ba bc bs p) => flt_rc q ba bc bs p 8 V hV hA hl (by omega))
  generalize fixM bs p 8 = M1 at *
  cases M1 with
  | bad er at_ =>
    go_enter Try.func29, Try.ntmps29
    go_wp2_with fail
    rw [show (w.alloc (.cells #[.int .i64 0, .int .i64 0, .int .i64 0, .int .u64 0, .slice none 0 0] 26)).alloc (.cells #[.int .i64 op, .int .i64 0, .int .i64 0, .int .u64 0, .slice none 0 0] 26) = W from HW.out.symm]
    refine (HF.out _).mono ?_
    rintro e w2 ⟨rfl, hb2⟩
    have HR2 := Hid.mk' (HRW.out.keep hb2)
    have HX2 := Hid.mk' (HX.out.keep hb2)
    have HZ2 := Hid.mk' (HZ.out.keep hb2)
    have HG2 := Hid.mk' (grown_trans HGW.out (below_grown' (r := some q) hb2))
    have hs2 := HG2.out.size
    have hz2 : w.heap.size + 2 ≤ w2.heap.size := by have := hb2.size; omega
    obtain ⟨⟨x0, x1, x2, x3, x4⟩, xf⟩ := HX2.out
    have xf1 := xf 1
    have xf2 := xf 2
    have xf3 := xf 3
    have xf4 := xf 4
    clear hb2 HF HW HRW HX HZ HGW xf
    go_wp2_with fail
    refine (K1.out _ HR2.out).mono ?_
    rintro e w3 ⟨hg, rfl⟩
    exact ⟨rfl, grown_trans HG2.out hg, rfl⟩
  | ok v1 p1 =>
    show Calls _ _ _ _ (RiP (.ok ⟨op, 0, 0, v1, []⟩ p1) _ _ _ _ _)
    go_enter Try.func29, Try.ntmps29
    go_wp2_with fail
    rw [show (w.alloc (.cells #[.int .i64 0, .int .i64 0, .int .i64 0, .int .u64 0, .slice none 0 0] 26)).alloc (.cells #[.int .i64 op, .int .i64 0, .int .i64 0, .int .u64 0, .slice none 0 0] 26) = W from HW.out.symm]
    refine (HF.out _).mono ?_
    rintro e w2 ⟨rfl, hb2⟩
    have HR2 := Hid.mk' (HRW.out.keep hb2)
    have HX2 := Hid.mk' (HX.out.keep hb2)
    have HZ2 := Hid.mk' (HZ.out.keep hb2)
    have HG2 := Hid.mk' (grown_trans HGW.out (below_grown' (r := some q) hb2))
    have hs2 := HG2.out.size
    have hz2 : w.heap.size + 2 ≤ w2.heap.size := by have := hb2.size; omega
    obtain ⟨⟨x0, x1, x2, x3, x4⟩, xf⟩ := HX2.out
    have xf1 := xf 1
    have xf2 := xf 2
    have xf3 := xf 3
    have xf4 := xf 4
    clear hb2 HF HW HRW HX HZ HGW xf
    go_wp2_with fail
    refine (K1.out _ HR2.out).mono ?_
    rintro e w3 ⟨hg, rfl, hr⟩
    have ha2 := Hid.mk' (c5_grown HX2.out hg LX.out.ne)
    have hb2 := Hid.mk' (c5_grown HZ2.out hg LR.out.ne)
    have hc2 := Hid.mk' (grown_trans HG2.out hg)
    have hd2 := Hid.mk' hr
    have hs3 := hc2.out.size
    obtain ⟨⟨y00, y01, y02, y03, y04⟩, yf⟩ := ha2.out
    have yf01 := yf 1
    have yf02 := yf 2
    have yf03 := yf 3
    have yf04 := yf 4
    obtain ⟨⟨z00, z01, z02, z03, z04⟩, zf⟩ := hb2.out
    have zf00 := zf 0
    have zf01 := zf 1
    have zf02 := zf 2
    have zf03 := zf 3
    have zf04 := zf 4
    clear hg hr yf zf HX2 HZ2 HG2 HR2 K1
    have HX3 := Hid.mk' (c5_set3 (v := .int .u64 v1) ha2.out)
    have HZ3 := Hid.mk' (c5_far (X := w.heap.size + 1) (i := 3) (v := .int .u64 v1) hb2.out (by omega))
    have HG3 := Hid.mk' (grown_far hc2.out LX.out 3 (.int .u64 v1))
    have HR3 := Hid.mk' (hd2.out.far LX.out 3 (.int .u64 v1))
    go_wp2_with fail
    exact bodyPost_ret (v := inV (⟨op, 0, 0, v1, []⟩ : In) none 0) (by simp [results, Try.results29, go_sem, y00, y01, y02, y03, y04, z00, z01, z02, z03, z04]) rfl (by
      obtain ⟨t1, t2, t3⟩ := rd_fin (x := (⟨op, 0, 0, v1, []⟩ : In)) (la := none) (lc := 0) HR3.out HG3.out LR.out (World.ownsRow_nil _ _ _ _) (by simp [Value.ownBlock])
      exact ⟨t1, none, 0, rfl, t2, t3, (Nat.zero_le _)⟩)
end Go.Proofs.Yteaegmlnacnofaa

set_option linter.unusedVariables false
namespace Go.Proofs.Yteaegmlnacnofaa
open Go.RowKit Go.Sort
set_option maxRecDepth 100000
set_option maxHeartbeats 8000000 in
theorem rins_3k (n : Int) (p0 : Nat) (n0 : 0 ≤ n) (n1 : n ≤ 4294967295) (q : Nat) (ba : Option Addr) (bc : Nat) (bs : List Int) (p : Nat) (op : Int) (w : World) (hf : formR (rowOf op) = 3) (h : Rd w q ba bc bs p) (hA : AllB bs) (hl : bs.length ≤ 1099511627776) (K0 : Hid (∀ V, Rd V q ba bc bs p → Calls Try.prog 55 #[.pointer (some ⟨q, 0, none⟩)] V (RdP (.ok n p0) (fun v => .int .i64 v) V q ba bc bs))) :
    Calls Try.prog 29 #[.pointer (some ⟨q, 0, none⟩), .int .i64 op] w (RiP ((repM bs n.toNat [] p0).bind fun v1 p1 => (numM false 32 bs p1).bind fun v2 p2 => .ok ⟨op, v2, 0, 0, v1⟩ p2) w q ba bc bs) := by
  have HF := Hid.mk' (iform_c op)
  rw [hf] at HF
  obtain ⟨W, hW⟩ : ∃ W, W = (w.alloc (.cells #[.int .i64 0, .int .i64 0, .int .i64 0, .int .u64 0, .slice none 0 0] 26)).alloc (.cells #[.int .i64 op, .int .i64 0, .int .i64 0, .int .u64 0, .slice none 0 0] 26) := ⟨_, rfl⟩
  obtain ⟨hz, hx, hb⟩ := two_box w op
  rw [← hW] at hz hx hb
  have hws : w.heap.size + 2 = W.heap.size := by rw [hW]; simp
  have HW := Hid.mk' hW
  have HZ := Hid.mk' hz
  have HX := Hid.mk' hx
  have HRW := Hid.mk' (h.keep hb)
  have HGW := Hid.mk' (show w.grownBy W (some q) from below_grown' hb)
  have LR := Hid.mk' (lies_of h (Nat.le_refl _))
  have LX := Hid.mk' (lies_of h (show w.heap.size ≤ w.heap.size + 1 by omega))
  have HQ := Hid.mk' h.lt
  clear hf hW hz hx hb h
  have KT := Hid.mk' (fun V (hV : Rd V q ba bc bs p0) => tellN_c q ba bc bs p0 2 n V hV)
  have K1 := Hid.mk' (fun V (hV : Rd V q ba bc bs p0) => ent_c q ba bc bs p0 n V hV hA hl n0 n1)
  generalize repM bs n.toNat [] p0 = M1 at *
  cases M1 with
  | bad er at_ =>
    go_enter Try.func29, Try.ntmps29
    go_wp2_with fail
    rw [show (w.alloc (.cells #[.int .i64 0, .int .i64 0, .int .i64 0, .int .u64 0, .slice none 0 0] 26)).alloc (.cells #[.int .i64 op, .int .i64 0, .int .i64 0, .int .u64 0, .slice none 0 0] 26) = W from HW.out.symm]
    refine (HF.out _).mono ?_
    rintro e w2 ⟨rfl, hb2⟩
    have HR2 := Hid.mk' (HRW.out.keep hb2)
    have HX2 := Hid.mk' (HX.out.keep hb2)
    have HZ2 := Hid.mk' (HZ.out.keep hb2)
    have HG2 := Hid.mk' (grown_trans HGW.out (below_grown' (r := some q) hb2))
    have hs2 := HG2.out.size
    have hz2 : w.heap.size + 2 ≤ w2.heap.size := by have := hb2.size; omega
    obtain ⟨⟨x0, x1, x2, x3, x4⟩, xf⟩ := HX2.out
    have xf1 := xf 1
    have xf2 := xf 2
    have xf3 := xf 3
    have xf4 := xf 4
    clear hb2 HF HW HRW HX HZ HGW xf
    go_wp2_with fail
    refine (K0.out _ HR2.out).mono ?_
    rintro e wa ⟨hga, rfl, hra⟩
    have HGA := Hid.mk' hga
    have HRA := Hid.mk' hra
    clear hga hra
    go_wp2_with fail
    refine (KT.out _ HRA.out).mono ?_
    rintro e wb ⟨rfl, hbb⟩
    have HGB := Hid.mk' (grown_trans HGA.out (below_grown' (r := some q) hbb))
    have HRB := Hid.mk' (HRA.out.keep hbb)
    have hsab : w2.heap.size ≤ wb.heap.size := HGB.out.size
    clear hbb HGA HRA
    go_wp2_with fail
    refine (K1.out _ HRB.out).mono ?_
    rintro e w3 ⟨hg', rfl⟩
    have hg := grown_trans HGB.out hg'
    clear hg' HGB HRB
    exact ⟨rfl, grown_trans HG2.out hg, rfl⟩
  | ok v1 p1 =>
    show Calls _ _ _ _ (RiP ((numM false 32 bs p1).bind fun v2 p2 => .ok ⟨op, v2, 0, 0, v1⟩ p2) _ _ _ _ _)
    have K2 := Hid.mk' (fun V (hV : Rd V q ba bc bs p1) => u32_rc q ba bc bs p1 V hV hA hl)
    generalize numM false 32 bs p1 = M2 at *
    cases M2 with
    | bad er at_ =>
      go_enter Try.func29, Try.ntmps29
      go_wp2_with fail
      rw [show (w.alloc (.cells #[.int .i64 0, .int .i64 0, .int .i64 0, .int .u64 0, .slice none 0 0] 26)).alloc (.cells #[.int .i64 op, .int .i64 0, .int .i64 0, .int .u64 0, .slice none 0 0] 26) = W from HW.out.symm]
      refine (HF.out _).mono ?_
      rintro e w2 ⟨rfl, hb2⟩
      have HR2 := Hid.mk' (HRW.out.keep hb2)
      have HX2 := Hid.mk' (HX.out.keep hb2)
      have HZ2 := Hid.mk' (HZ.out.keep hb2)
      have HG2 := Hid.mk' (grown_trans HGW.out (below_grown' (r := some q) hb2))
      have hs2 := HG2.out.size
      have hz2 : w.heap.size + 2 ≤ w2.heap.size := by have := hb2.size; omega
      obtain ⟨⟨x0, x1, x2, x3, x4⟩, xf⟩ := HX2.out
      have xf1 := xf 1
      have xf2 := xf 2
      have xf3 := xf 3
      have xf4 := xf 4
      clear hb2 HF HW HRW HX HZ HGW xf
      go_wp2_with fail
      refine (K0.out _ HR2.out).mono ?_
      rintro e wa ⟨hga, rfl, hra⟩
      have HGA := Hid.mk' hga
      have HRA := Hid.mk' hra
      clear hga hra
      go_wp2_with fail
      refine (KT.out _ HRA.out).mono ?_
      rintro e wb ⟨rfl, hbb⟩
      have HGB := Hid.mk' (grown_trans HGA.out (below_grown' (r := some q) hbb))
      have HRB := Hid.mk' (HRA.out.keep hbb)
      have hsab : w2.heap.size ≤ wb.heap.size := HGB.out.size
      clear hbb HGA HRA
      go_wp2_with fail
      refine (K1.out _ HRB.out).mono ?_
      rintro e w3 ⟨hg', u1, rfl, ho', hr, hll⟩
      have hg := grown_trans HGB.out hg'
      have ho := ownE_down ho' hsab
      clear hg' HGB HRB ho'
      obtain ⟨la, lc, rfl⟩ := ownE_slice ho
      have HOR := Hid.mk' (ownE_down ho (show w.heap.size ≤ _ from hs2))
      have HNR : Hid ((Value.slice la v1.length lc).ownBlock ≠ some w.heap.size ∧ (Value.slice la v1.length lc).ownBlock ≠ some (w.heap.size + 1)) := ⟨fun e => by have := (ho.lt _ e).1; omega, fun e => by have := (ho.lt _ e).1; omega⟩
      have HLL := Hid.mk' hll
      clear ho hll
      have ha2 := Hid.mk' (c5_grown HX2.out hg LX.out.ne)
      have hb2 := Hid.mk' (c5_grown HZ2.out hg LR.out.ne)
      have hc2 := Hid.mk' (grown_trans HG2.out hg)
      have hd2 := Hid.mk' hr
      have hs3 := hc2.out.size
      obtain ⟨⟨y00, y01, y02, y03, y04⟩, yf⟩ := ha2.out
      have yf01 := yf 1
      have yf02 := yf 2
      have yf03 := yf 3
      have yf04 := yf 4
      obtain ⟨⟨z00, z01, z02, z03, z04⟩, zf⟩ := hb2.out
      have zf00 := zf 0
      have zf01 := zf 1
      have zf02 := zf 2
      have zf03 := zf 3
      have zf04 := zf 4
      clear hg hr yf zf HX2 HZ2 HG2 HR2 K1 K0 KT hsab
      have HX3 := Hid.mk' (c5_set4 (v := .slice la v1.length lc) ha2.out)
      have HZ3 := Hid.mk' (c5_far (X := w.heap.size + 1) (i := 4) (v := .slice la v1.length lc) hb2.out (by omega))
      have HG3 := Hid.mk' (grown_far hc2.out LX.out 4 (.slice la v1.length lc))
      have HR3 := Hid.mk' (hd2.out.far LX.out 4 (.slice la v1.length lc))
      replace HOR := Hid.mk' (ownE_set (o := 4) (u := .slice la v1.length lc) HOR.out HNR.out.2)
      go_wp2_with fail
      refine (K2.out _ HR3.out).mono ?_
      rintro e w4 ⟨hg, rfl⟩
      exact ⟨rfl, grown_trans HG3.out hg, rfl⟩
    | ok v2 p2 =>
      show Calls _ _ _ _ (RiP (.ok ⟨op, v2, 0, 0, v1⟩ p2) _ _ _ _ _)
      go_enter Try.func29, Try.ntmps29
      go_wp2_with fail
      rw [show (w.alloc (.cells #[.int .i64 0, .int .i64 0, .int .i64 0, .int .u64 0, .slice none 0 0] 26)).alloc (.cells #[.int .i64 op, .int .i64 0, .int .i64 0, .int .u64 0, .slice none 0 0] 26) = W from HW.out.symm]
      refine (HF.out _).mono ?_
      rintro e w2 ⟨rfl, hb2⟩
      have HR2 := Hid.mk' (HRW.out.keep hb2)
      have HX2 := Hid.mk' (HX.out.keep hb2)
      have HZ2 := Hid.mk' (HZ.out.keep hb2)
      have HG2 := Hid.mk' (grown_trans HGW.out (below_grown' (r := some q) hb2))
      have hs2 := HG2.out.size
      have hz2 : w.heap.size + 2 ≤ w2.heap.size := by have := hb2.size; omega
      obtain ⟨⟨x0, x1, x2, x3, x4⟩, xf⟩ := HX2.out
      have xf1 := xf 1
      have xf2 := xf 2
      have xf3 := xf 3
      have xf4 := xf 4
      clear hb2 HF HW HRW HX HZ HGW xf
      go_wp2_with fail
      refine (K0.out _ HR2.out).mono ?_
      rintro e wa ⟨hga, rfl, hra⟩
      have HGA := Hid.mk' hga
      have HRA := Hid.mk' hra
      clear hga hra
      go_wp2_with fail
      refine (KT.out _ HRA.out).mono ?_
      rintro e wb ⟨rfl, hbb⟩
      have HGB := Hid.mk' (grown_trans HGA.out (below_grown' (r := some q) hbb))
      have HRB := Hid.mk' (HRA.out.keep hbb)
      have hsab : w2.heap.size ≤ wb.heap.size := HGB.out.size
      clear hbb HGA HRA
      go_wp2_with fail
      refine (K1.out _ HRB.out).mono ?_
      rintro e w3 ⟨hg', u1, rfl, ho', hr, hll⟩
      have hg := grown_trans HGB.out hg'
      have ho := ownE_down ho' hsab
      clear hg' HGB HRB ho'
      obtain ⟨la, lc, rfl⟩ := ownE_slice ho
      have HOR := Hid.mk' (ownE_down ho (show w.heap.size ≤ _ from hs2))
      have HNR : Hid ((Value.slice la v1.length lc).ownBlock ≠ some w.heap.size ∧ (Value.slice la v1.length lc).ownBlock ≠ some (w.heap.size + 1)) := ⟨fun e => by have := (ho.lt _ e).1; omega, fun e => by have := (ho.lt _ e).1; omega⟩
      have HLL := Hid.mk' hll
      clear ho hll
      have ha2 := Hid.mk' (c5_grown HX2.out hg LX.out.ne)
      have hb2 := Hid.mk' (c5_grown HZ2.out hg LR.out.ne)
      have hc2 := Hid.mk' (grown_trans HG2.out hg)
      have hd2 := Hid.mk' hr
      have hs3 := hc2.out.size
      obtain ⟨⟨y00, y01, y02, y03, y04⟩, yf⟩ := ha2.out
      have yf01 := yf 1
      have yf02 := yf 2
      have yf03 := yf 3
      have yf04 := yf 4
      obtain ⟨⟨z00, z01, z02, z03, z04⟩, zf⟩ := hb2.out
      have zf00 := zf 0
      have zf01 := zf 1
      have zf02 := zf 2
      have zf03 := zf 3
      have zf04 := zf 4
      clear hg hr yf zf HX2 HZ2 HG2 HR2 K1 K0 KT hsab
      have HX3 := Hid.mk' (c5_set4 (v := .slice la v1.length lc) ha2.out)
      have HZ3 := Hid.mk' (c5_far (X := w.heap.size + 1) (i := 4) (v := .slice la v1.length lc) hb2.out (by omega))
      have HG3 := Hid.mk' (grown_far hc2.out LX.out 4 (.slice la v1.length lc))
      have HR3 := Hid.mk' (hd2.out.far LX.out 4 (.slice la v1.length lc))
      replace HOR := Hid.mk' (ownE_set (o := 4) (u := .slice la v1.length lc) HOR.out HNR.out.2)
      go_wp2_with fail
      refine (K2.out _ HR3.out).mono ?_
      rintro e w4 ⟨hg, rfl, hr⟩
      replace HOR := Hid.mk' (ownE_grown' HOR.out hg (fun j hj => by have := (HOR.out.lt j hj).1; have := LR.out.ne; intro e; simp at e; have := HQ.out; omega))
      have ha3 := Hid.mk' (c5_grown HX3.out hg LX.out.ne)
      have hb3 := Hid.mk' (c5_grown HZ3.out hg LR.out.ne)
      have hc3 := Hid.mk' (grown_trans HG3.out hg)
      have hd3 := Hid.mk' hr
      have hs4 := hc3.out.size
      obtain ⟨⟨y10, y11, y12, y13, y14⟩, yf⟩ := ha3.out
      have yf11 := yf 1
      have yf12 := yf 2
      have yf13 := yf 3
      have yf14 := yf 4
      obtain ⟨⟨z10, z11, z12, z13, z14⟩, zf⟩ := hb3.out
      have zf10 := zf 0
      have zf11 := zf 1
      have zf12 := zf 2
      have zf13 := zf 3
      have zf14 := zf 4
      clear hg hr yf zf HX3 HZ3 HG3 HR3 K2
      have HX4 := Hid.mk' (c5_set1 (v := .int .i64 v2) ha3.out)
      have HZ4 := Hid.mk' (c5_far (X := w.heap.size + 1) (i := 1) (v := .int .i64 v2) hb3.out (by omega))
      have HG4 := Hid.mk' (grown_far hc3.out LX.out 1 (.int .i64 v2))
      have HR4 := Hid.mk' (hd3.out.far LX.out 1 (.int .i64 v2))
      replace HOR := Hid.mk' (ownE_set (o := 1) (u := .int .i64 v2) HOR.out HNR.out.2)
      go_wp2_with fail
      exact bodyPost_ret (v := inV (⟨op, v2, 0, 0, v1⟩ : In) la lc) (by simp [results, Try.results29, go_sem, y10, y11, y12, y13, y14, z10, z11, z12, z13, z14]) rfl (by
        obtain ⟨t1, t2, t3⟩ := rd_fin (x := (⟨op, v2, 0, 0, v1⟩ : In)) (la := la) (lc := lc) HR4.out HG4.out LR.out HOR.out HNR.out.1
        exact ⟨t1, la, lc, rfl, t2, t3, HLL.out⟩)
set_option maxHeartbeats 8000000 in
theorem rins_3 (q : Nat) (ba : Option Addr) (bc : Nat) (bs : List Int) (p : Nat) (op : Int) (w : World) (hf : formR (rowOf op) = 3) (h : Rd w q ba bc bs p) (hA : AllB bs) (hl : bs.length ≤ 1099511627776) :
    Calls Try.prog 29 #[.pointer (some ⟨q, 0, none⟩), .int .i64 op] w (RiP (decF 3 op bs p) w q ba bc bs) := by
  have HFF := Hid.mk' hf
  have HH := Hid.mk' h
  have HF := Hid.mk' (iform_c op)
  rw [hf] at HF
  obtain ⟨W, hW⟩ : ∃ W, W = (w.alloc (.cells #[.int .i64 0, .int .i64 0, .int .i64 0, .int .u64 0, .slice none 0 0] 26)).alloc (.cells #[.int .i64 op, .int .i64 0, .int .i64 0, .int .u64 0, .slice none 0 0] 26) := ⟨_, rfl⟩
  obtain ⟨hz, hx, hb⟩ := two_box w op
  rw [← hW] at hz hx hb
  have hws : w.heap.size + 2 = W.heap.size := by rw [hW]; simp
  have HW := Hid.mk' hW
  have HZ := Hid.mk' hz
  have HX := Hid.mk' hx
  have HRW := Hid.mk' (h.keep hb)
  have HGW := Hid.mk' (show w.grownBy W (some q) from below_grown' hb)
  have LR := Hid.mk' (lies_of h (Nat.le_refl _))
  have LX := Hid.mk' (lies_of h (show w.heap.size ≤ w.heap.size + 1 by omega))
  have HQ := Hid.mk' h.lt
  clear hf hW hz hx hb h
  show Calls _ _ _ _ (RiP (((numM false 32 bs p).bind fun n p0 => repM bs n.toNat [] p0).bind fun v1 p1 => (numM false 32 bs p1).bind fun v2 p2 => .ok ⟨op, v2, 0, 0, v1⟩ p2) _ _ _ _ _)
  have K0 := Hid.mk' (fun V (hV : Rd V q ba bc bs p) => u32_rc q ba bc bs p V hV hA hl)
  have hbd := fun v p1 => numU_bd (p := p) (p1 := p1) (v := v) hA
  generalize numM false 32 bs p = M0 at *
  cases M0 with
  | bad er at_ =>
    go_enter Try.func29, Try.ntmps29
    go_wp2_with fail
    rw [show (w.alloc (.cells #[.int .i64 0, .int .i64 0, .int .i64 0, .int .u64 0, .slice none 0 0] 26)).alloc (.cells #[.int .i64 op, .int .i64 0, .int .i64 0, .int .u64 0, .slice none 0 0] 26) = W from HW.out.symm]
    refine (HF.out _).mono ?_
    rintro e w2 ⟨rfl, hb2⟩
    have HR2 := Hid.mk' (HRW.out.keep hb2)
    have HX2 := Hid.mk' (HX.out.keep hb2)
    have HZ2 := Hid.mk' (HZ.out.keep hb2)
    have HG2 := Hid.mk' (grown_trans HGW.out (below_grown' (r := some q) hb2))
    have hs2 := HG2.out.size
    have hz2 : w.heap.size + 2 ≤ w2.heap.size := by have := hb2.size; omega
    obtain ⟨⟨x0, x1, x2, x3, x4⟩, xf⟩ := HX2.out
    have xf1 := xf 1
    have xf2 := xf 2
    have xf3 := xf 3
    have xf4 := xf 4
    clear hb2 HF HW HRW HX HZ HGW xf
    go_wp2_with fail
    refine (K0.out _ HR2.out).mono ?_
    rintro e w3 ⟨hg, rfl⟩
    exact ⟨rfl, grown_trans HG2.out hg, rfl⟩
  | ok n p0 =>
    obtain ⟨n0, n1⟩ := hbd n p0 rfl
    exact rins_3k n p0 n0 n1 q ba bc bs p op w HFF.out HH.out hA hl K0
end Go.Proofs.Yteaegmlnacnofaa
