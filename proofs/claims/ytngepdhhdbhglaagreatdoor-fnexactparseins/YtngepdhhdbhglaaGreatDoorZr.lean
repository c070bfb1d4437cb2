import Derived.Test.YtngepdhhdbhglaaGreatDoorZc
import Derived.Test.YtngepdhhdbhglaaGreatDoorYk
set_option linter.all false
set_option linter.unusedVariables false
namespace Go.Proofs.YtngepdhhdbhglaaGreatDoor
open Go.RowKit Go.Sort
set_option maxRecDepth 100000
/-- The specification's flag. -/
structure Pb (w : World) (p : Nat) (bd : Bool) : Prop where
  c : w.cell? ⟨p, 19, none⟩ = some (.bool bd)
  f : w.frozen? ⟨p, 19, none⟩ = false
theorem Pb.lt {w : World} {p : Nat} {bd : Bool} (h : Pb w p bd) : p < w.heap.size := World.block_lt_of_cell? w _ h.c
theorem Pb.keep {w w1 : World} {p : Nat} {bd : Bool} (h : Pb w p bd) (hb : Below w.heap.size w w1) : Pb w1 p bd :=
  ⟨(hb.cell (p := ⟨p, 19, none⟩) h.lt).trans h.c, (hb.frozen (p := ⟨p, 19, none⟩) h.lt).trans h.f⟩
theorem Pb.grown {w w1 : World} {p : Nat} {bd : Bool} {r : Option Nat} (h : Pb w p bd) (hb : w.grownBy w1 r) (hr : r ≠ some p) : Pb w1 p bd := by
  have hk : w1.heap[p]? = w.heap[p]? := hb.block p h.lt (fun e => hr e.symm)
  exact ⟨(World.cell?_of_block hk).trans h.c, (World.frozen?_of_block hk).trans h.f⟩
theorem bad_c (p : Nat) (bd : Bool) (w : World) (h : Pb w p bd) : Calls Tryz.prog 24 #[.pointer (some ⟨p, 0, none⟩)] w fun e w' => e = .returned (.tuple #[]) ∧ Pb w' p true ∧ w.grownBy w' (some p) := by
  have c1 := h.c
  have f1 := h.f
  clear h
  go_enter Tryz.func24, Tryz.ntmps24
  go_wp2
  go_end0
  exact ⟨rfl, ⟨set_same c1, by rw [World.frozen?_setCell]; exact f1⟩, grown_set' _ _ _ _⟩
/-- Words in memory. -/
def Wv (w : World) (a : Option Addr) (p : Nat) (ws : List Wd) : Prop := ws = [] ∨ ∃ b o, a = some ⟨b, o, none⟩ ∧ b < p ∧ ∀ i, i < ws.length → w.cell? ⟨b, o + i, none⟩ = some (.string (S (ws.getD i [])))
theorem Wv.grown {w w1 : World} {a : Option Addr} {p : Nat} {ws : List Wd} (h : Wv w a p ws) (hb : w.grownBy w1 (some p)) (hp : p < w.heap.size) : Wv w1 a p ws := by
  rcases h with h | ⟨b, o, e, hlt, hc⟩
  · exact .inl h
  · exact .inr ⟨b, o, e, hlt, fun i hi => (World.cell?_of_block (hb.block b (by omega) (by simp; omega))).trans (hc i hi)⟩
theorem Wv.keep {w w1 : World} {a : Option Addr} {p : Nat} {ws : List Wd} (h : Wv w a p ws) (hb : Below w.heap.size w w1) (hp : p < w.heap.size) : Wv w1 a p ws := by
  rcases h with h | ⟨b, o, e, hlt, hc⟩
  · exact .inl h
  · exact .inr ⟨b, o, e, hlt, fun i hi => (hb.cell (p := ⟨b, o + i, none⟩) (show b < w.heap.size by omega)).trans (hc i hi)⟩
set_option maxHeartbeats 1000000 in
theorem sru_c (p : Nat) (a : Option Addr) (c : Nat) (ws : List Wd) (bd : Bool) (w : World) (h : Pb w p bd) (hW : Wv w a p ws) (hl : ∀ x ∈ ws, x.length ≤ 1099511627776) :
    Calls Tryz.prog 26 #[.pointer (some ⟨p, 0, none⟩), .slice a ws.length c] w fun e w' => ∃ (x : Int) (b2 : Bool), e = .returned (.int .i64 x) ∧ Pb w' p b2 ∧ w.grownBy w' (some p) ∧ (b2 = false → bd = false ∧ ∃ s, ws = [s] ∧ Nm 0 4294967295 s x) ∧ (bd = false → (∃ s v, ws = [s] ∧ Nm 0 4294967295 s v) → b2 = false) := by
  have KB := Hid.mk' (bad_c p bd w h)
  by_cases h1 : ws.length = 1
  · obtain ⟨s, rfl⟩ := List.length_eq_one_iff.1 h1
    rcases hW with hW | ⟨b, o, rfl, hlt, hc⟩
    · cases hW
    have c0 := hc 0 (by simp)
    simp only [Nat.add_zero, List.getD_cons_zero] at c0
    have K := Hid.mk' (su32_c s w (hl s (by simp)))
    have HB := Hid.mk' h
    clear h hc hl h1
    cases hok : okN 0 4294967295 s with
    | true =>
      rw [hok] at K
      go_enter Tryz.func26, Tryz.ntmps26
      go_wp2_with fail
      refine K.out.mono ?_
      rintro e w1 ⟨rfl, x, rfl, hx⟩
      have HX := Hid.mk' hx
      clear hx
      go_wp2
      go_ret
      exact ⟨x, bd, rfl, HB.out, World.grownBy.refl _ _, fun e => ⟨e, s, rfl, hok, HX.out trivial⟩, fun e _ => e⟩
    | false =>
      rw [hok] at K
      have HOK := Hid.mk' hok
      clear hok
      go_enter Tryz.func26, Tryz.ntmps26
      go_wp2_with fail
      refine K.out.mono ?_
      rintro e w1 ⟨rfl, x, rfl, -⟩
      go_wp2_with fail
      refine KB.out.mono ?_
      rintro e w2 ⟨rfl, hp, hg⟩
      have HP := Hid.mk' (And.intro hp hg)
      clear hp hg
      go_wp2
      go_ret
      exact ⟨x, true, rfl, HP.out.1, HP.out.2, fun e => absurd e (by decide), fun _ ⟨s2, v, e, hn⟩ => by cases e; exact absurd hn.1 (by rw [HOK.out]; decide)⟩
  · have i1 : ¬ (ws.length : Int) = 1 := by omega
    have H1 := Hid.mk' h1
    clear h1 h hW hl
    go_enter Tryz.func26, Tryz.ntmps26
    go_wp2_with fail
    refine KB.out.mono ?_
    rintro e w2 ⟨rfl, hp, hg⟩
    have HP := Hid.mk' (And.intro hp hg)
    clear hp hg
    go_wp2
    go_ret
    exact ⟨0, true, rfl, HP.out.1, HP.out.2, fun e => absurd e (by decide), fun _ ⟨s2, v, e, hn⟩ => absurd (by rw [e]; rfl) H1.out⟩
def RnP (p : Nat) (ws : List Wd) (bd : Bool) (w : World) (e : Ending) (w' : World) : Prop := ∃ (v : Value) (vs : List Int) (b2 : Bool), e = .returned v ∧ w'.ownsRow w.heap.size 2 1 v vs.length (I vs) ∧ vs.length = ws.length ∧ Pb w' p b2 ∧ w.grownBy w' (some p) ∧ (b2 = false → bd = false ∧ Nms ws vs) ∧ (bd = false → (∀ s ∈ ws, okN 0 4294967295 s = true) → b2 = false)
set_option maxHeartbeats 4000000 in
theorem srn_c (p : Nat) (a : Option Addr) (c : Nat) (ws : List Wd) (bd : Bool) (w : World) (h : Pb w p bd) (hW : Wv w a p ws) (hl : ∀ x ∈ ws, x.length ≤ 1099511627776) (hn : ws.length ≤ 1099511627776) :
    Calls Tryz.prog 27 #[.pointer (some ⟨p, 0, none⟩), .slice a ws.length c] w (RnP p ws bd w) := by
  obtain ⟨i0, hi, hz0, hz1, hz2⟩ := info_parts Tryz.info2
  have hp := h.lt
  have HB := Hid.mk' h
  have HW := Hid.mk' hW
  clear h hW
  go_enter Tryz.func27, Tryz.ntmps27
  go_upto_region 3 with fail
  go_loopw [5, 6] (fun v i wr => ∃ (k : Nat) (acc : List Int) (b2 : Bool), k ≤ ws.length ∧ i = .int .i64 (k : Int) ∧ wr.ownsRow w.heap.size 2 1 v acc.length (I acc) ∧ Pb wr p b2 ∧ w.grownBy wr (some p) ∧ Hid (acc.length = k ∧ (b2 = false → bd = false ∧ Nms (ws.take k) acc) ∧ (bd = false → (∀ s ∈ ws.take k, okN 0 4294967295 s = true) → b2 = false))) (fun _ i _ => ws.length - (intOf i).toNat)
  case atStart =>
    refine ⟨0, [], bd, Nat.zero_le _, rfl, ?_, HB.out.keep ((Below.refl _ _).alloc (Nat.le_refl _) _), below_gr ((Below.refl _ _).alloc (Nat.le_refl _) _), ⟨rfl, fun e => ⟨e, trivial⟩, fun e _ => e⟩⟩
    exact World.ownsRow_made w #[] 0 (Nat.le_refl _) (by unfold maxLen; omega) rfl
  case round =>
    obtain ⟨k, acc, b2, hk, rfl, hown, hpb, hg, hh⟩ := hrel
    have hacc : acc.length ≤ 1099511627776 := by have := hh.out.1; omega
    have HO := Hid.mk' hown
    have HP := Hid.mk' hpb
    have HG := Hid.mk' hg
    have hs := hg.size
    obtain ⟨va, vc, rfl⟩ := ownE_slice hown
    clear hown hpb hg
    by_cases hlt : k < ws.length
    · have hki : (k : Int) < (ws.length : Int) := by omega
      rcases HW.out.grown HG.out hp with e | ⟨b, o, rfl, hbp, hc⟩
      · subst e; simp at hlt
      have ck := hc k hlt
      have hmem : ws.getD k [] ∈ ws := by simp [List.getD, hlt]
      have het : ws.take (k + 1) = ws.take k ++ [ws.getD k []] := by rw [List.take_succ]; simp [List.getD, hlt]
      have HT := Hid.mk' het
      have K := Hid.mk' (su32_c (ws.getD k []) wr (hl _ hmem))
      have w5 : IntKind.i64.wrap ((k : Int) + 1) = (k : Int) + 1 := by rw [IntKind.wrap_i64]; omega
      clear hc hmem het
      generalize ws.getD k [] = s at *
      cases hok : okN 0 4294967295 s with
      | true =>
        rw [hok] at K
        have HOK := Hid.mk' hok
        clear hok
        go_wp2_with fail
        refine K.out.mono ?_
        rintro e w1 ⟨rfl, x, rfl, hx⟩
        have HX := Hid.mk' (hx trivial)
        clear hx K
        go_wp2_with (at_builtin; refine wpList_append_own _ rfl _ _ 24 rfl w.heap.size 2 i0 (.int .i64 0) 1 8 Tryz.underlying24 hi hz0 hz1 hz2 rfl (by decide) _ _ _ rfl (HO.out.alloc _) ⟨wr.heap.size, 0, none⟩ 1 1 [.int .i64 x] rfl rfl (cell_one_new _ _ _) (oneI _) (by unfold maxLen; omega) (by omega) (by simp; omega) ?_; intro v3 w3 own3 gr3 hnn; have HO3 : Hid (w3.ownsRow w.heap.size 2 1 v3 (acc ++ [x]).length (I (acc ++ [x]))) := (by show World.ownsRow _ _ _ _ _ _ _; simpa [I] using own3); have HR3 := Hid.mk' (((HP.out.keep ((Below.refl _ _).alloc (Nat.le_refl _) _))).grown gr3 (fun e => by have := (HO.out.lt p e).1; omega)); have HG3 := Hid.mk' (show w.grownBy w3 (some p) from ⟨gr3.os.trans HG.out.os, gr3.tape.trans HG.out.tape, gr3.output.trans HG.out.output, Nat.le_trans hs (Nat.le_trans (by simp) gr3.size), fun j hj hne => (gr3.block j (by simp; omega) (fun e => by have := (HO.out.lt j e.symm).1; omega)).trans ((heap_old wr _ j (by omega)).trans (HG.out.block j hj hne))⟩); clear own3 gr3 hnn)
        go_roundw
        case rel => exact ⟨k + 1, acc ++ [x], b2, by omega, by go_num, HO3.out, HR3.out, HG3.out, ⟨by simp [hh.out.1], fun e => ⟨(hh.out.2.1 e).1, by rw [HT.out]; exact nms_snoc ⟨HOK.out, HX.out⟩ _ _ (hh.out.2.1 e).2⟩, fun e hf => hh.out.2.2 e (fun t ht => hf t (by rw [HT.out]; simp [ht]))⟩⟩
        case measure => simp [intOf]; omega
      | false =>
        rw [hok] at K
        have HOK := Hid.mk' hok
        have KB := Hid.mk' (bad_c p b2 wr HP.out)
        clear hok
        go_wp2_with fail
        refine K.out.mono ?_
        rintro e w1 ⟨rfl, x, rfl, -⟩
        clear K
        go_wp2_with fail
        refine KB.out.mono ?_
        rintro e w2 ⟨rfl, hp2, hg2⟩
        have HP2 := Hid.mk' hp2
        have HG2 := Hid.mk' (grown_trans HG.out hg2)
        have HO2 := Hid.mk' (ownE_grown' HO.out hg2 (fun j hj e => by have := (HO.out.lt j hj).1; cases e; omega))
        have hs2 := HG2.out.size
        clear hp2 hg2 KB HO HP HG
        go_wp2_with (at_builtin; refine wpList_append_own _ rfl _ _ 24 rfl w.heap.size 2 i0 (.int .i64 0) 1 8 Tryz.underlying24 hi hz0 hz1 hz2 rfl (by decide) _ _ _ rfl (HO2.out.alloc _) ⟨w2.heap.size, 0, none⟩ 1 1 [.int .i64 x] rfl rfl (cell_one_new _ _ _) (oneI _) (by unfold maxLen; omega) (by omega) (by simp; omega) ?_; intro v3 w3 own3 gr3 hnn; have HO3 : Hid (w3.ownsRow w.heap.size 2 1 v3 (acc ++ [x]).length (I (acc ++ [x]))) := (by show World.ownsRow _ _ _ _ _ _ _; simpa [I] using own3); have HR3 := Hid.mk' (((HP2.out.keep ((Below.refl _ _).alloc (Nat.le_refl _) _))).grown gr3 (fun e => by have := (HO2.out.lt p e).1; omega)); have HG3 := Hid.mk' (show w.grownBy w3 (some p) from ⟨gr3.os.trans HG2.out.os, gr3.tape.trans HG2.out.tape, gr3.output.trans HG2.out.output, Nat.le_trans hs2 (Nat.le_trans (by simp) gr3.size), fun j hj hne => (gr3.block j (by simp; omega) (fun e => by have := (HO2.out.lt j e.symm).1; omega)).trans ((heap_old w2 _ j (by omega)).trans (HG2.out.block j hj hne))⟩); clear own3 gr3 hnn)
        go_roundw
        case rel => exact ⟨k + 1, acc ++ [x], true, by omega, by go_num, HO3.out, HR3.out, HG3.out, ⟨by simp [hh.out.1], fun e => absurd e (by decide), fun e hf => absurd (hf s (by rw [HT.out]; simp)) (by rw [HOK.out]; decide)⟩⟩
        case measure => simp [intOf]; omega
    · have e : k = ws.length := by omega
      subst e
      have hki : ¬ (ws.length : Int) < (ws.length : Int) := by omega
      go_wp2
      go_ret
      refine ⟨_, acc, b2, rfl, HO.out, hh.out.1, HP.out, HG.out, ?_, ?_⟩
      · have := hh.out.2.1; rwa [List.take_length] at this
      · have := hh.out.2.2; rwa [List.take_length] at this
end Go.Proofs.YtngepdhhdbhglaaGreatDoor
