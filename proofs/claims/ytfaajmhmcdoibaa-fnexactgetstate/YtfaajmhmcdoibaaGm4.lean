import Derived.Test.YtfaajmhmcdoibaaGr2
set_option linter.all false
set_option linter.unusedVariables false
namespace Go.Proofs.Ytfaajmhmcdoibaa
open Go.RowKit Go.Sort
set_option maxRecDepth 100000
theorem rnilN (a : Addr) (w : World) : (nilAhead 251 76 (.pointer (some a)) "loop.example/s00119/impl.numbers").run Try.prog w = .ok (some false) w := by kernel_rfl
theorem rmetN (a : Addr) (w : World) : (method 251 76 (.pointer (some a)) "loop.example/s00119/impl.numbers").run Try.prog w = .ok (91, .pointer (some a)) w := by kernel_rfl
theorem rnilM (a : Addr) (w : World) : (nilAhead 251 76 (.pointer (some a)) "loop.example/s00119/impl.mark").run Try.prog w = .ok (some false) w := by kernel_rfl
theorem rmetM (a : Addr) (w : World) : (method 251 76 (.pointer (some a)) "loop.example/s00119/impl.mark").run Try.prog w = .ok (90, .pointer (some a)) w := by kernel_rfl
theorem rnilV (a : Addr) (w : World) : (nilAhead 251 76 (.pointer (some a)) "loop.example/s00119/impl.value").run Try.prog w = .ok (some false) w := by kernel_rfl
theorem rmetV (a : Addr) (w : World) : (method 251 76 (.pointer (some a)) "loop.example/s00119/impl.value").run Try.prog w = .ok (93, .pointer (some a)) w := by kernel_rfl
theorem rnilS (a : Addr) (w : World) : (nilAhead 251 76 (.pointer (some a)) "loop.example/s00119/impl.stuck").run Try.prog w = .ok (some false) w := by kernel_rfl
theorem rmetS (a : Addr) (w : World) : (method 251 76 (.pointer (some a)) "loop.example/s00119/impl.stuck").run Try.prog w = .ok (92, .pointer (some a)) w := by kernel_rfl
theorem rlit_c (w0 : World) (R : Nat) (l : List Int) (b : Bool) (ab lo n m : Nat) (w V : World) (hn : n ≤ 3) (hR : Rb w0 w R l b) (hr : Ro w ab m) (hm : lo + n ≤ m) (hne : R ≠ ab) (hge : w0.heap.size ≤ ab) (hb : Below w.heap.size w V) (hlt : w.heap.size < V.heap.size) (hP : ∀ i, i < n → V.cell? ⟨w.heap.size, i, none⟩ = some (.pointer (some ⟨ab, lo + i, none⟩))) :
    Calls Try.prog 91 #[.pointer (some ⟨R, 0, none⟩), .slice (some ⟨w.heap.size, 0, none⟩) n n] V fun e w' => e = .returned (.tuple #[]) ∧ NmP w0 w R ab lo n l b w' := by
  have hRl := hR.pos
  have hal := hr.lt
  refine (rnum_c w0 R l b ab lo n m w.heap.size n V hn (hR.below hb) (hr.ch (Ch.of_below (R := R) (lo := lo) (hi := lo + n) hb hal)) hm hne hge hlt (by omega) (by omega) hP).mono fun e w' ⟨h1, h2, h3, h4⟩ => ⟨h1, h2, (Ch.of_below hb hal).trans h3, h4⟩
/-- What the reading of a label leaves. -/
def LbP (w0 w : World) (R : Nat) (l : List Int) (b : Bool) (ab o : Nat) (w' : World) : Prop := ∃ x l' b', Rb w0 w' R l' b' ∧ Ch R ab o (o + 4) w w' ∧ (w'.cell? ⟨ab, o, none⟩ = some (.int .i64 x.pc) ∧ w'.cell? ⟨ab, o + 1, none⟩ = some (.int .i64 x.ar) ∧ w'.cell? ⟨ab, o + 2, none⟩ = some (.int .i64 x.ht) ∧ w'.cell? ⟨ab, o + 3, none⟩ = some (.bool x.lp)) ∧ RP labE labO Lab.z (fun _ => 0) 0 l b x l' b'
set_option maxHeartbeats 4000000 in
theorem rlab_c (w0 : World) (R : Nat) (l : List Int) (b : Bool) (ab o m : Nat) (w : World) (hR : Rb w0 w R l b) (hr : Ro w ab m) (hm : o + 4 ≤ m) (hne : R ≠ ab) (hge : w0.heap.size ≤ ab) :
    Calls Try.prog 54 #[.iface 76 (.pointer (some ⟨R, 0, none⟩)), .pointer (some ⟨ab, o, none⟩)] w fun e w' => e = .returned (.tuple #[]) ∧ LbP w0 w R l b ab o w' := by
  have n1 := rnilN ⟨R, 0, none⟩
  have n2 := rmetN ⟨R, 0, none⟩
  have n3 := rnilM ⟨R, 0, none⟩
  have n4 := rmetM ⟨R, 0, none⟩
  have KN := Hid.mk' (rlit_c w0 R l b ab o 3 m w ((w.alloc (.cells #[.pointer (some ⟨ab, o, none⟩), .pointer (some ⟨ab, o + 1, none⟩), .pointer (some ⟨ab, o + 2, none⟩)] 91)).drew) (by omega) hR hr (by omega) hne hge (bel_lit _ _) (by simp) (one3 (cell_new rfl rfl) (cell_new rfl rfl) (cell_new rfl rfl)))
  have HRo := Hid.mk' hr
  clear hR hr
  go_enter Try.func54, Try.ntmps54
  go_wp2_with fail
  go_region_law (go_simp; refine KN.out.mono ?_; rintro e w2 ⟨rfl, hw2⟩; have HR := Hid.mk' hw2; clear hw2)
  all_goals
    obtain ⟨hR1, hC1, hc1⟩ := HR.out
    have hro1 := HRo.out.ch hC1
    have KM := Hid.mk' (rmark_c w0 R _ _ ab (o + 3) m w2.drew (hR1.below (Below.refl _ _).drew) (hro1.ch (Ch.of_below (R := R) (lo := 0) (hi := 0) (Below.refl _ _).drew hro1.lt)) (by omega) hne hge)
    have HF : Hid (∀ w3, FP w0 w2.drew R ab (o + 3) (.bool (rwV (rns l b 3).2.1 1 != 0)) (rwL (rns l b 3).2.1 1) (rwB (rns l b 3).2.1 1 (rns l b 3).2.2) w3 → LbP w0 w R l b ab o w3) := by
      rintro w3 ⟨h1, h2, h3⟩
      have h2' : Ch R ab (o + 3) (o + 3 + 1) w2 w3 := (Ch.of_below (Below.refl _ _).drew hro1.lt).trans h2
      refine ⟨_, _, _, h1, (hC1.wide (Nat.le_refl _) (by omega)).trans (h2'.wide (by omega) (by omega)), ⟨?_, ?_, ?_, h3⟩, lab_rp l b (rf_rp _ _ (fun i => (hR1.allB i).1))⟩
      · rw [h2'.cell hro1 (.inl (by omega))]; exact hc1 0 (by omega)
      · rw [h2'.cell hro1 (.inl (by omega))]; exact hc1 1 (by omega)
      · rw [h2'.cell hro1 (.inl (by omega))]; exact hc1 2 (by omega)
    clear HR KN hR1 hC1 hc1 hro1 HRo
    go_simp
    go_wp2_with fail
    go_region_law (go_simp; refine KM.out.mono ?_; rintro e w3 ⟨rfl, hw3⟩; have HR := Hid.mk' (HF.out w3 hw3); clear hw3)
    all_goals
      go_simp
      go_wp2
      go_end0
      exact ⟨rfl, HR.out⟩
end Go.Proofs.Ytfaajmhmcdoibaa
