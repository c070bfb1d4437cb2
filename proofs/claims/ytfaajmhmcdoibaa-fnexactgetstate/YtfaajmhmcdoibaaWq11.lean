import Derived.Test.YtfaajmhmcdoibaaWq10
import Derived.Test.YtfaajmhmcdoibaaSq
import Derived.Lib.SlBytesConst
set_option linter.all false
set_option linter.unusedVariables false
namespace Go.Proofs.Ytfaajmhmcdoibaa
open Go.RowKit Go.Sort
set_option maxRecDepth 100000
/-- The image of a state. -/
def imgM (x : Sta) : List Int := if staO x && decide ((staE x).length + 2 ≤ IM) then [83, 1] ++ staE x else []
theorem numsE_ne (n : Int) (l : List Int) : numsE (n :: l) ≠ [] := by
  rw [numsE_cons]
  have := (lebU_len 9 n).1
  intro h
  have h2 : numsE [n] = [] := (List.append_eq_nil_iff.1 h).1
  simp [numsE] at h2
  rw [h2] at this
  simp at this
theorem staE_ne (x : Sta) : staE x ≠ [] := by
  intro h
  exact numsE_ne x.st [x.tr] (List.append_eq_nil_iff.1 h).1
theorem stk_img {x : Sta} {xs' : List Int} {b' : Bool} {c : Nat} (h : Wp [83, 1] false xs' b' (staO x) (staE x) c) : (stk xs' b' = true ∧ imgM x = []) ∨ (stk xs' b' = false ∧ imgM x = xs' ∧ xs' = [83, 1] ++ staE x) := by
  have hs : stk [83, 1] false = false := by
    unfold stk IM; rfl
  have hst := h.st
  rw [hs] at hst
  have hl : [83, (1 : Int)].length = 2 := rfl
  cases hh : stk xs' b' with
  | true =>
    refine .inl ⟨rfl, ?_⟩
    rw [hh, hl] at hst
    unfold imgM
    rw [if_neg]
    intro hc
    simp only [Bool.and_eq_true, decide_eq_true_eq] at hc
    rw [hc.1] at hst
    simp only [Bool.false_or, Bool.not_true] at hst
    have := of_decide_eq_true hst.symm
    omega
  | false =>
    refine .inr ⟨rfl, ?_, h.eq hh⟩
    rw [hh, hl] at hst
    rw [h.eq hh]
    unfold imgM
    rw [if_pos]
    cases ho : staO x with
    | false => rw [ho] at hst; cases hst
    | true =>
      rw [ho] at hst
      simp only [Bool.false_or, Bool.not_true] at hst
      have := of_decide_eq_false hst.symm
      simp only [Bool.true_and, decide_eq_true_eq]
      omega
theorem wb_new (w1 : World) (t : TypeId) : Wb ((w1.alloc (.cells #[.int .u8 83, .int .u8 1] 5 (2, 3))).alloc (.cells #[.slice (some ⟨w1.heap.size, 0, none⟩) 2 2, .bool false] t)) (w1.heap.size + 1) (fun k => k < w1.heap.size) [83, 1] false := by
  have e : (w1.alloc (.cells #[.int .u8 83, .int .u8 1] 5 (2, 3))).heap.size = w1.heap.size + 1 := by simp
  refine ⟨.slice (some ⟨w1.heap.size, 0, none⟩) 2 2, ?_, ?_, ?_, .inr ⟨rfl, rfl, ?_⟩, by omega, ?_, fun k hk => by simp; omega⟩
  · rw [← e]; exact cell_new rfl rfl
  · rw [← e]; exact cell_new rfl rfl
  · intro j; rw [← e]; exact World.frozen?_alloc_new _ _ _ _
  · rw [Nat.add_sub_cancel, heap_old _ _ _ (by rw [e]; omega)]; exact heap_new w1 _
  · intro k hk
    have e2 : w1.heap.size = k := by simpa [Value.ownBlock] using hk
    omega
/-- What is asked of a state's numbers. -/
def Sta.Vs (x : Sta) : Prop := (∀ j, j < x.stk.length → 0 ≤ x.stk.getD j 0 ∧ x.stk.getD j 0 ≤ 18446744073709551615) ∧ ∀ i, i < x.frs.length → ∀ j, j < (x.frs.getD i Frm.z).loc.length → 0 ≤ (x.frs.getD i Frm.z).loc.getD j 0 ∧ (x.frs.getD i Frm.z).loc.getD j 0 ≤ 18446744073709551615
theorem sum_const {α : Type} (l : List α) (c : Nat) : (l.map fun _ => c).sum = c * l.length := by
  induction l with
  | nil => rfl
  | cons x l ih => simp only [List.map_cons, List.sum_cons, ih, List.length_cons]; rw [Nat.mul_add]; omega
theorem frmC_le (x : Frm) : frmC x ≤ 50 + 31 * Frm.sz x := by
  simp only [frmC, listC, Frm.sz]
  rw [sum_const]
  have : (x.labs.map labC).sum = 31 * x.labs.length := sum_const x.labs 31
  omega
theorem sumC_le (l : List Frm) : (l.map frmC).sum ≤ 50 * l.length + 31 * (l.map Frm.sz).sum := by
  induction l with
  | nil => simp
  | cons x l ih => simp only [List.map_cons, List.sum_cons, List.length_cons]; have := frmC_le x; omega
theorem staC_le (x : Sta) : staC x ≤ 40 + 50 * Sta.sz x := by
  simp only [staC, listC, Sta.sz]
  rw [sum_const]
  have := sumC_le x.frs
  omega
set_option maxHeartbeats 8000000 in
theorem iput_c (x : Sta) (a1 : Option Addr) (c1 : Nat) (a2 : Option Addr) (c2 : Nat) (w : World) (hI : Sta.Is 0 w x a1 a2) (hlb : Sta.LB 1048576 x) (hl : x.sz ≤ 10000000) (hv : x.Vs) :
    Calls Try.prog 8 #[.agg #[.int .i64 x.st, .int .i64 x.tr, .slice a1 x.stk.length c1, .slice a2 x.frs.length c2]] w fun e w' => ∃ v, e = .returned v ∧ w'.ownsRow w.heap.size 5 1 v (imgM x).length (U (imgM x)) ∧ Below w.heap.size w w' := by
  obtain ⟨W0, hW0⟩ : ∃ W0, W0 = w.alloc (.cells #[.int .i64 x.st, .int .i64 x.tr, .slice a1 x.stk.length c1, .slice a2 x.frs.length c2] 31) := ⟨_, rfl⟩
  have b0 : Below w.heap.size w W0 := by rw [hW0]; exact (Below.refl _ _).alloc (Nat.le_refl _) _
  have s0 : W0.heap.size = w.heap.size + 1 := by rw [hW0]; simp
  have hBk : Bk W0 w.heap.size [.int .i64 x.st, .int .i64 x.tr, .slice a1 x.stk.length c1, .slice a2 x.frs.length c2] := by rw [hW0]; exact Bk.new
  have hAt : Sta.At 0 W0 w.heap.size 0 x := ⟨a1, c1, a2, c2, ⟨hBk.2.1 0 _ rfl, hBk.2.1 1 _ rfl, hBk.2.1 2 _ rfl, hBk.2.1 3 _ rfl⟩, hI.up (up_below b0)⟩
  have hC := staC_le x
  have hcv : (convert 27 27 (.slice (some ⟨W0.heap.size, 0, none⟩) 2 2)).run Try.prog (W0.alloc (.cells #[.int .u8 83, .int .u8 1] 5)) = .ok (.slice (some ⟨W0.heap.size, 0, none⟩) 2 2) (W0.alloc (.cells #[.int .u8 83, .int .u8 1] 5 (2, 3))) := Lib.run_convert_bytes_const W0 27 5 #[.int .u8 83, .int .u8 1] 2 2 Try.underlying27 Try.underlying5
  have KS := Hid.mk' (fun W (hb : Below W0.heap.size W0 W) (hW : Wb W (W0.heap.size + 1) (fun k => k < W0.heap.size) [83, 1] false) => ista_c (W0.heap.size + 1) (fun k => k < W0.heap.size) [83, 1] false W0 W w.heap.size 0 x hb (fun k hk => hk) hlb (by simp only [List.length_cons, List.length_nil]; omega) hAt hv.1 hv.2 hW)
  have HW0 := Hid.mk' hW0
  have HB0 := Hid.mk' b0
  have HS0 := Hid.mk' s0
  clear hW0 b0 s0 hBk hAt hI hlb hv
  go_enter Try.func8, Try.ntmps8
  go_upto_region 1 with fail
  rw [← HW0.out]
  go_upto_region 2 with fail
  refine wp_gen (fun W => Wb W (W0.heap.size + 1) (fun k => k < W0.heap.size) [83, 1] false ∧ Below W0.heap.size W0 W) ⟨wb_new W0 _, ((Below.refl _ _).alloc (Nat.le_refl _) _).alloc (by simp) _⟩ ?_
  rintro W ⟨hWb, hbW⟩
  have KI := Hid.mk' (KS.out W hbW hWb)
  have HBW := Hid.mk' hbW
  clear hWb hbW KS hcv HW0
  go_wp2_with fail
  refine KI.out.mono ?_
  rintro e w2 ⟨rfl, hw2⟩
  obtain ⟨xs', b', hw, hk, hp⟩ := hw2
  have hle := hp.le
  simp only [List.length_cons, List.length_nil] at hle
  have KT := Hid.mk' (wstk_c (W0.heap.size + 1) _ xs' b' w2 (by omega) hw)
  have HBL : Hid (Below w.heap.size w w2) := HB0.out.trans ((HBW.out.mono (by have := HS0.out; omega)).trans (Kept.below (hk.weak (fun k hk => by have := HS0.out; show k < _; omega))))
  have HIM := Hid.mk' (stk_img hp)
  have HWB := Hid.mk' hw
  obtain ⟨v, c0, cb, f0, own, hnp, hr, hSS⟩ := hw
  obtain ⟨va, vc, rfl⟩ := own.slice
  have HOW := Hid.mk' own
  clear hk hp hle own f0 hr hSS KI cb hnp
  go_wp2_with fail
  refine KT.out.mono ?_
  rintro e w3 ⟨rfl, rfl⟩
  rcases HIM.out with ⟨h1, h2⟩ | ⟨h1, h2, h3⟩
  · rw [h1]
    have H2 := Hid.mk' h2
    clear HIM HOW HWB KT h1 h2
    go_wp2
    go_ret
    rw [H2.out]
    exact ⟨_, rfl, ⟨rfl, .inl ⟨rfl, rfl⟩⟩, HBL.out⟩
  · rw [h1]
    have H2 := Hid.mk' h2
    have HO : Hid (w2.ownsRow w.heap.size 5 1 (.slice va xs'.length vc) xs'.length (U xs')) := by
      rcases HOW.out with h | ⟨h, _⟩
      · exact ownE_down h (by have := HS0.out; omega)
      · rw [h3] at h
        exact absurd (by simpa using h) (staE_ne x)
    clear HIM HOW HWB KT h1 h2 h3
    go_wp2
    go_ret
    rw [H2.out]
    exact ⟨_, rfl, HO.out, HBL.out⟩
end Go.Proofs.Ytfaajmhmcdoibaa
