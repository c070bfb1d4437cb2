import Derived.Test.YtngepdhhdbhglaaGreatDoorYk
import Derived.Laws.OwnMore
import Derived.OpenShut
import Derived.Test.YtngepdhhdbhglaaGreatDoorZA
import Derived.Test.YtngepdhhdbhglaaGreatDoorRows
import Derived.Lib.LaidTab
import Derived.ProofKit
import Derived.LaidMore
import Derived.LaidLaws
import Derived.Stop.Joined
import Derived.Test.YtngepdhhdbhglaaGreatDoorCards
import Derived.Test.YtngepdhhdbhglaaGreatDoorTie
import Derived.SevenTiedAt
import Derived.WalkKit
import Derived.ShutString
import Derived.ChangeOld
import Derived.Below
set_option linter.all false
set_option linter.unusedVariables false
namespace Go.Proofs.YtngepdhhdbhglaaGreatDoor.By
open Go.RowKit
set_option maxRecDepth 100000
theorem Tryz.info5 : (Tryz.prog.info? 5).map (fun i => (i.zero, i.size, i.bytes)) = some (some (.int .u8 0), 1, 1) := by kernel_rfl
theorem copy_step (k : Nat) (xs : List Int) (h : k < xs.length) : (U (xs.take k ++ List.replicate (xs.length - k) 0)).set k (.int .u8 (xs.getD k 0)) = U (xs.take (k + 1) ++ List.replicate (xs.length - (k + 1)) 0) := by
  have e : List.replicate (xs.length - k) (0 : Int) = 0 :: List.replicate (xs.length - (k + 1)) 0 := by
    rw [← List.replicate_succ, show xs.length - (k + 1) + 1 = xs.length - k by omega]
  rw [e, List.take_succ_eq_append_getElem h]
  simp only [U, List.map_append, List.map_cons, List.append_assoc, List.cons_append, List.nil_append]
  rw [List.set_append_right _ _ (by simp; omega)]
  simp [List.getD, h, Nat.min_eq_left (Nat.le_of_lt h)]

set_option maxHeartbeats 400000 in
theorem toBytes_any (a : Option Addr) (cap : Nat) (xs : List Int) (w : World) (hl : xs.length ≤ 1099511627776) (ha : Has w a xs) :
    Calls Tryz.prog 5 #[.slice a xs.length cap] w fun e w' => e = .returned (.slice (some ⟨w.heap.size, 0, none⟩) xs.length xs.length) ∧
      w'.ownsRow w.heap.size 5 1 (.slice (some ⟨w.heap.size, 0, none⟩) xs.length xs.length) xs.length (U xs) ∧ Below w.heap.size w w' := by
  obtain ⟨i0, hi, hz0, hz1, hz2⟩ := info_parts Tryz.info5
  have HA : Hid (Has w a xs) := ha
  clear ha
  go_enter Tryz.func5, Tryz.ntmps5
  go_wp2_with (at_make; refine wpList_make_full _ rfl _ _ 22 rfl w.heap.size 5 i0 (.int .u8 0) 1 Tryz.underlying22 hi hz0 hz1 .i64 .i64 _ _ xs.length rfl rfl rfl rfl (by rw [hz2]; omega) (by unfold maxLen; omega) (Nat.le_refl _) ?_)
  intro w1 ho hg
  have hb : Below w.heap.size w w1 := (Below.refl _ _).grown hg (Nat.le_refl _) (fun k hk => by cases hk)
  have ho' : w1.ownsRow w.heap.size 5 1 (.slice (some ⟨w.heap.size, 0, none⟩) xs.length xs.length) xs.length (U (xs.take 0 ++ List.replicate (xs.length - 0) 0)) := by
    have e : (madeCells #[Value.int .u8 0] xs.length).toList = U (xs.take 0 ++ List.replicate (xs.length - 0) 0) := by
      rw [toList_madeCells_one]; simp
    rw [← e]; exact ho
  clear ho hg hi hz0 hz1 hz2
  go_wp2
  go_loopw [4] (fun i wr => ∃ k : Nat, k ≤ xs.length ∧ i = .int .i64 k ∧ wr.ownsRow w.heap.size 5 1 (.slice (some ⟨w.heap.size, 0, none⟩) xs.length xs.length) xs.length (U (xs.take k ++ List.replicate (xs.length - k) 0)) ∧ Below w.heap.size w wr) (fun i _ => xs.length - (intOf i).toNat)
  case atStart => exact ⟨0, Nat.zero_le _, rfl, ho', hb⟩
  case round =>
    obtain ⟨k, hk, rfl, ho, hb'⟩ := hrel
    clear ho' hb
    by_cases hlt : k < xs.length
    · rcases HA.out with hx | ⟨b1, o1, ea, hc1⟩
      · subst hx; simp at hlt
      subst ea
      have hki : (k : Int) < (xs.length : Int) := by omega
      have d0 := hc1 k hlt
      have d1 : wr.cell? ⟨b1, o1 + k, none⟩ = some (.int .u8 (xs.getD k 0)) := (hb'.cell (World.block_lt_of_cell? w _ d0)).trans d0
      obtain ⟨q, hqq⟩ : ∃ q, q = xs.getD k 0 := ⟨_, rfl⟩
      rw [← hqq] at d1
      have hcell : ∃ u, wr.cell? ⟨w.heap.size, k, none⟩ = some u := by
        rw [ho.cellAt k (by omega)]
        exact ⟨_, List.getElem?_eq_getElem (by simp; omega)⟩
      obtain ⟨u, hu⟩ := hcell
      have hfz := ho.frozenAt k
      obtain ⟨s1, s2⟩ := ho.stored k (.int .u8 q)
      rw [hqq, copy_step k xs hlt, ← hqq] at s1
      have hsz := hb'.size
      have R := And.intro s1 (hb'.grown s2 hsz (fun j hj => by simp at hj; omega))
      clear s1 s2 ho hb' hsz hqq d0 hc1 HA
      go_wp2
      go_roundw
      case rel => exact ⟨k + 1, by omega, by go_num, R.1, R.2⟩
      case measure => simp [intOf]; omega
    · have e : k = xs.length := by omega
      subst e
      rw [List.take_length, Nat.sub_self, List.replicate_zero, List.append_nil] at ho
      go_wp2
      go_ret
      exact ⟨rfl, ho, hb'⟩
/-- What came in as a slice of bytes. -/
theorem row_has {w : World} {a : Option Addr} {len cap : Nat} {zs : List Int}
    (h : (a = none ∧ len = 0 ∧ cap = 0 ∧ zs = []) ∨ ∃ x, a = some x ∧ len ≤ cap ∧ cap ≤ maxLen ∧ zs.length = cap ∧ (∀ i, i < zs.length → w.cell? (x.add i) = some (.int .u8 (zs.getD i 0))) ∧ ∀ n ∈ zs, (Lit.int .u8 n).wf = true) :
    ∃ xs : List Int, xs.length = len ∧ len ≤ maxLen ∧ Has w a xs := by
  rcases h with ⟨rfl, rfl, rfl, rfl⟩ | ⟨x, rfl, hlc, hcm, hz, hc, hw⟩
  · exact ⟨[], rfl, Nat.zero_le _, .inl rfl⟩
  · refine ⟨zs.take len, by simp; omega, by omega, ?_⟩
    by_cases h0 : len = 0
    · subst h0; exact .inl (by simp)
    · obtain ⟨b, off, spot⟩ := x
      have h1 := hc 0 (by omega)
      have hspot : spot = none := by simpa [Addr.add] using World.cell?_spot h1
      subst hspot
      refine .inr ⟨b, off, rfl, fun i hi => ?_⟩
      have hi' : i < len := by simp at hi; omega
      have h2 := hc i (by omega)
      have e : (zs.take len).getD i 0 = zs.getD i 0 := by simp [List.getD, hi']
      rw [e]
      rwa [Addr.add_lit] at h2
theorem Has.keep {w w1 : World} {a : Option Addr} {xs : List Int} (h : Has w a xs) (hb : Below w.heap.size w w1) : Has w1 a xs := by
  rcases h with h | ⟨b, o, e, hc⟩
  · exact .inl h
  · exact .inr ⟨b, o, e, fun i hi => (hb.cell (World.block_lt_of_cell? w _ (hc i hi))).trans (hc i hi)⟩
end Go.Proofs.YtngepdhhdbhglaaGreatDoor.By
namespace Go.Proofs.YtngepdhhdbhglaaGreatDoor
open Go.RowKit Go.Sort
set_option maxRecDepth 100000
theorem ownE_keep {w w' : World} {B C e n : Nat} {v : Value} {xs : List Value} (h : w.ownsRow B e 1 v n xs) (hb : Below C w w') (hg : w.heap.size ≤ C) : w'.ownsRow B e 1 v n xs := by
  refine ⟨h.1, ?_⟩
  rcases h.2 with h0 | ⟨g, cap, cur, hv, hB, hh, r⟩
  · exact .inl h0
  · subst hv
    exact .inr ⟨g, cap, cur, rfl, hB, (hb.block g (by have := (h.lt g rfl).2; omega)).trans hh, r⟩
theorem below_grown' {w w1 : World} {r : Option Nat} (hb : Below w.heap.size w w1) : w.grownBy w1 r := ⟨hb.os, hb.tape, hb.output, hb.size, fun k hk _ => hb.block k hk⟩
theorem grown_alloc' {w w1 : World} {o : Obj} {r : Option Nat} (h : (w.alloc o).grownBy w1 r) : w.grownBy w1 r :=
  ⟨h.os, h.tape, h.output, by have := h.size; simp at this; omega, fun k hk hne => (h.block k (by simp; omega) hne).trans (heap_old w o k hk)⟩
set_option maxHeartbeats 1000000 in
theorem markInV (B : Nat) (x : In) (la : Option Addr) (lc : Nat) (w : World) (hn : x.l.length ≤ 1099511627776) (hG : w.ownsRow B 2 1 (.slice la x.l.length lc) x.l.length (I x.l)) :
    Calls Tryz.prog 20 #[inV x la lc, .int .i64 1] w fun e w' => e = .returned (.int .i64 ((1 : Int) + x.l.length)) ∧ w'.ownsRow B 2 1 (.slice la x.l.length lc) x.l.length (I (marks 1 x.l.length)) ∧ w.grownBy w' (Value.slice la x.l.length lc).ownBlock := by
  have KM := Hid.mk' (fun o => markV B 1 x.l.length _ x.l (w.alloc o) (by omega) hn (ownE_keep hG ((Below.refl _ _).alloc (Nat.le_refl _) o) (Nat.le_refl _)))
  clear hG
  go_enter Tryz.func20, Tryz.ntmps20
  go_wp2_with fail
  refine (KM.out _).mono ?_
  rintro e w1 ⟨rfl, ho, hg⟩
  have HO := Hid.mk' ho
  have HG := Hid.mk' hg
  clear ho hg KM
  go_wp2
  go_ret
  exact ⟨rfl, HO.out, grown_alloc' HG.out⟩
set_option maxHeartbeats 1000000 in
theorem heldInV (B : Nat) (x : In) (la : Option Addr) (lc : Nat) (w : World) (hn : x.l.length ≤ 1099511627776) (hG : w.ownsRow B 2 1 (.slice la x.l.length lc) x.l.length (I (marks 1 x.l.length))) :
    Calls Tryz.prog 21 #[inV x la lc, .int .i64 1] w fun e w' => e = .returned (.int .i64 ((1 : Int) + x.l.length)) ∧ Below w.heap.size w w' := by
  have KM := Hid.mk' (fun o => heldV B 1 x.l.length _ (w.alloc o) (by omega) hn (ownE_keep hG ((Below.refl _ _).alloc (Nat.le_refl _) o) (Nat.le_refl _)))
  clear hG
  have hneg : ¬ ((1 : Int) + x.l.length) < 0 := by omega
  go_enter Tryz.func21, Tryz.ntmps21
  go_wp2_with fail
  refine (KM.out _).mono ?_
  rintro e w1 ⟨rfl, rfl⟩
  go_wp2
  go_ret
  exact ⟨rfl, (Below.refl _ _).alloc (Nat.le_refl _) _⟩
set_option maxHeartbeats 2000000 in
theorem eqTxt_c (ok : Bool) (x : In) (la la' : Option Addr) (lc lc' : Nat) (w : World) (hl : x.l.length ≤ 1099511627776) (h : Has w la x.l) (h' : Has w la' x.l) :
    Calls Tryz.prog 7 #[itV ok x la lc, itV ok x la' lc'] w fun e w' => e = .returned (.bool true) ∧ Below w.heap.size w w' := by
  have b2 : ∀ o1 o2, Below w.heap.size w ((w.alloc o1).alloc o2) := fun o1 o2 => ((Below.refl _ _).alloc (Nat.le_refl _) _).alloc (by simp) _
  have H := Hid.mk' (fun o1 o2 => eqIn_c x la la' lc lc' ((w.alloc o1).alloc o2) hl (h.keep (b2 o1 o2)) (h'.keep (b2 o1 o2)))
  have HB := Hid.mk' b2
  clear h h' b2
  have hok : (ok != ok) = false := by simp
  go_enter Tryz.func7, Tryz.ntmps7
  go_wp2_with fail
  refine (H.out _ _).mono ?_
  rintro e w1 ⟨rfl, hb⟩
  have HB1 := Hid.mk' ((HB.out _ _).trans (hb.mono (by simp; omega)))
  clear hb H HB
  go_wp2
  go_ret
  exact ⟨rfl, HB1.out⟩
set_option maxHeartbeats 1000000 in
theorem markTxt_c (B : Nat) (ok : Bool) (x : In) (la : Option Addr) (lc : Nat) (w : World) (hn : x.l.length ≤ 1099511627776) (hG : w.ownsRow B 2 1 (.slice la x.l.length lc) x.l.length (I x.l)) :
    Calls Tryz.prog 10 #[itV ok x la lc, .int .i64 1] w fun e w' => e = .returned (.int .i64 ((1 : Int) + x.l.length)) ∧ w'.ownsRow B 2 1 (.slice la x.l.length lc) x.l.length (I (marks 1 x.l.length)) ∧ w.grownBy w' (Value.slice la x.l.length lc).ownBlock := by
  have KM := Hid.mk' (fun o => markInV B x la lc (w.alloc o) hn (ownE_keep hG ((Below.refl _ _).alloc (Nat.le_refl _) o) (Nat.le_refl _)))
  clear hG
  go_enter Tryz.func10, Tryz.ntmps10
  go_wp2_with fail
  refine (KM.out _).mono ?_
  rintro e w1 ⟨rfl, ho, hg⟩
  have HO := Hid.mk' ho
  have HG := Hid.mk' hg
  clear ho hg KM
  go_wp2
  go_ret
  exact ⟨rfl, HO.out, grown_alloc' HG.out⟩
set_option maxHeartbeats 1000000 in
theorem heldTxt_c (B : Nat) (ok : Bool) (x : In) (la : Option Addr) (lc : Nat) (w : World) (hn : x.l.length ≤ 1099511627776) (hG : w.ownsRow B 2 1 (.slice la x.l.length lc) x.l.length (I (marks 1 x.l.length))) :
    Calls Tryz.prog 11 #[itV ok x la lc, .int .i64 1] w fun e w' => e = .returned (.int .i64 ((1 : Int) + x.l.length)) ∧ Below w.heap.size w w' := by
  have KM := Hid.mk' (fun o => heldInV B x la lc (w.alloc o) hn (ownE_keep hG ((Below.refl _ _).alloc (Nat.le_refl _) o) (Nat.le_refl _)))
  clear hG
  have hneg : ¬ ((1 : Int) + x.l.length) < 0 := by omega
  go_enter Tryz.func11, Tryz.ntmps11
  go_wp2_with fail
  refine (KM.out _).mono ?_
  rintro e w1 ⟨rfl, hb⟩
  have HB := Hid.mk' (((Below.refl w.heap.size w).alloc (Nat.le_refl _) (.cells #[.bool ok, .int .i64 x.op, .int .i64 x.a, .int .i64 x.b, .int .u64 x.v, .slice la x.l.length lc] 28)).trans (hb.mono (by simp)))
  clear hb
  go_wp2
  go_ret
  exact ⟨rfl, HB.out⟩
end Go.Proofs.YtngepdhhdbhglaaGreatDoor

namespace Go.Proofs.YtngepdhhdbhglaaGreatDoor
open Go.RowKit Go.Sort
set_option maxRecDepth 100000
theorem words_len : ∀ (n : Nat) (l : Wd) (ws : List Wd), l.length ≤ n → wordsM l = some ws → ws ≠ [] ∧ ws.length ≤ l.length + 1 ∧ ∀ x ∈ ws, x.length ≤ l.length
  | n, l, ws, hn, hw => by
    rw [wordsM] at hw
    cases hj : wlen l with
    | none => rw [hj] at hw; cases hw
    | some j =>
      rw [hj] at hw
      simp only at hw
      by_cases h : j < l.length
      · rw [dif_pos h] at hw
        split at hw
        · cases hr : wordsM (l.drop (j + 1)) with
          | none => rw [hr] at hw; cases hw
          | some r =>
            rw [hr] at hw
            simp at hw
            subst hw
            have hd : (l.drop (j + 1)).length = l.length - (j + 1) := by simp
            obtain ⟨h0, h1, h2⟩ := words_len (n - 1) (l.drop (j + 1)) r (by rw [hd]; omega) hr
            rw [hd] at h1 h2
            refine ⟨by simp, by simp only [List.length_cons]; omega, fun x hx => ?_⟩
            simp only [List.mem_cons] at hx
            rcases hx with rfl | hx
            · simp; omega
            · have := h2 x hx; omega
        · cases hw
      · rw [dif_neg h] at hw
        cases hw
        exact ⟨by simp, by simp, fun x hx => by simp at hx; subst hx; exact Nat.le_refl _⟩
termination_by n l => l.length
decreasing_by simp; omega
/-- What the specification's ParseIns answers. -/
def PsP (l : Wd) (w : World) (e : Ending) (w' : World) : Prop := ∃ (ok : Bool) (x : In) (la : Option Addr) (lc : Nat), e = .returned (itV ok x la lc) ∧ Has w' la x.l ∧ Below w.heap.size w w' ∧ (ok = true → ∃ ws, wordsM l = some ws ∧ Prs ws x) ∧ (ok = false → x = ⟨0, 0, 0, 0, []⟩ ∧ ∀ ws, wordsM l = some ws → ¬ ∃ y, Prs ws y)
theorem has_six {V : World} {B : Nat} {la : Option Addr} {xs : List Int} (h : Has V la xs) (hne : ∀ p, la = some p → B < p.block) (u0 u1 u2 u3 u4 u5 : Value) : Has (Six V B u0 u1 u2 u3 u4 u5) la xs := by
  rcases h with h | ⟨b, o, rfl, hc⟩
  · exact .inl h
  · refine .inr ⟨b, o, rfl, fun i hi => ?_⟩
    have hb : B < b := hne _ rfl
    have hh : ∀ k, (⟨B, k, none⟩ : Addr).block ≠ (⟨b, o + i, none⟩ : Addr).block := fun k => fun e => by
      have : B = b := e
      omega
    unfold Six
    rw [World.cell?_setCell_other _ _ _ _ (fun e => hh _ (congrArg Addr.block e)), World.cell?_setCell_other _ _ _ _ (fun e => hh _ (congrArg Addr.block e)), World.cell?_setCell_other _ _ _ _ (fun e => hh _ (congrArg Addr.block e)), World.cell?_setCell_other _ _ _ _ (fun e => hh _ (congrArg Addr.block e)), World.cell?_setCell_other _ _ _ _ (fun e => hh _ (congrArg Addr.block e)), World.cell?_setCell_other _ _ _ _ (fun e => hh _ (congrArg Addr.block e))]
    exact hc i hi
theorem has_low {V U : World} {la : Option Addr} {xs : List Int} (h : Has V la xs) (hb : Below V.heap.size V U) : Has U la xs := by
  rcases h with h | ⟨b, o, rfl, hc⟩
  · exact .inl h
  · exact .inr ⟨b, o, rfl, fun i hi => (hb.cell (p := ⟨b, o + i, none⟩) (World.block_lt_of_cell? V _ (hc i hi))).trans (hc i hi)⟩
set_option maxHeartbeats 8000000 in
theorem spar_c (a : Option Addr) (c : Nat) (xs : List Int) (w : World) (h : By.Has w a xs) (hl : xs.length ≤ 1048576) :
    Calls Tryz.prog 4 #[.slice a xs.length c] w (PsP (bytesOf xs) w) := by
  obtain ⟨W, hW⟩ : ∃ W, W = w.alloc (.cells #[.bool false, .int .i64 0, .int .i64 0, .int .i64 0, .int .u64 0, .slice none 0 0] 28) := ⟨_, rfl⟩
  have hbW : Below w.heap.size w W := by rw [hW]; exact (Below.refl _ _).alloc (Nat.le_refl _) _
  have hsW : W.heap.size = w.heap.size + 1 := by rw [hW]; simp
  have hcv : (convert 22 9 (.slice a xs.length c)).run Tryz.prog W = .ok (.string (S (bytesOf xs))) W := by
    by_cases hx : xs = []
    · subst hx
      cases a with
      | none => exact run_convert_bytes_nil W 22 5 Tryz.underlying22 Tryz.underlying5 _ _ 9 Tryz.underlying9
      | some p => exact run_convert_bytes_back W 22 9 5 p c [] Tryz.underlying22 Tryz.underlying5 Tryz.underlying9 (fun j hj => by simp at hj)
    · rcases h with h | ⟨b, o, rfl, hc⟩
      · exact absurd h hx
      · exact run_convert_bytes_arg W 22 5 Tryz.underlying22 Tryz.underlying5 b o _ c xs rfl (fun i hi => (hbW.cell (p := ⟨b, o + i, none⟩) (World.block_lt_of_cell? w _ (hc i hi))).trans (hc i hi)) 9 Tryz.underlying9
  have h6 : C6 W w.heap.size (.bool false) (.int .i64 0) (.int .i64 0) (.int .i64 0) (.int .u64 0) (.slice none 0 0) := by
    rw [hW]
    exact ⟨cell_new rfl rfl, cell_new rfl rfl, cell_new rfl rfl, cell_new rfl rfl, cell_new rfl rfl, cell_new rfl rfl, fun i => World.frozen?_alloc_new w _ _ i⟩
  have hbl : (bytesOf xs).length ≤ 1048576 := by simpa [bytesOf] using hl
  have KS := Hid.mk' (words_c (bytesOf xs) W hbl)
  have HLE := Hid.mk' (fun ws => words_len _ (bytesOf xs) ws (Nat.le_refl _))
  have HBL := Hid.mk' hbl
  have HBW := Hid.mk' hbW
  have H6 := Hid.mk' h6
  have HW := Hid.mk' hW
  have HSW := Hid.mk' hsW
  clear h hbW h6 hbl hW hsW
  generalize bytesOf xs = l at *
  go_enter Tryz.func4, Tryz.ntmps4
  go_upto_region 1 with fail
  rw [show w.alloc (.cells #[.bool false, .int .i64 0, .int .i64 0, .int .i64 0, .int .u64 0, .slice none 0 0] 28) = W from HW.out.symm]
  cases hm : wordsM l with
  | none =>
    have HM := Hid.mk' hm
    unfold SwP at KS
    rw [hm] at KS
    clear hm
    go_wp2_with fail
    refine KS.out.mono ?_
    rintro e w1 ⟨v, rfl, hb1, -⟩
    have h6 := H6.out.low hb1 (by have := HSW.out; omega)
    have HF := Hid.mk' (h6.fin (HBW.out.trans (hb1.mono (by have := HSW.out; omega))) (World.ownsRow_nil w1 (w.heap.size + 1) 2 1))
    obtain ⟨z0, z1, z2, z3, z4, z5, zf⟩ := h6
    have zf0 := zf 0
    have zf1 := zf 1
    have zf2 := zf 2
    have zf3 := zf 3
    have zf4 := zf 4
    have zf5 := zf 5
    clear zf H6 HBW hb1 HSW KS HLE HBL HW hcv
    go_wp2
    refine body_gen (fun U => C6 U w.heap.size (.bool false) (.int .i64 0) (.int .i64 0) (.int .i64 0) (.int .u64 0) (.slice none 0 0) ∧ Below w.heap.size w U ∧ U.ownsRow w.heap.size 2 1 (.slice none 0 0) 0 []) (HF.out _ _ _ _ _ _) ?_
    rintro U ⟨⟨t0, t1, t2, t3, t4, t5, -⟩, bU, -⟩
    have HU := Hid.mk' bU
    clear bU
    exact bodyPost_ret (v := itV false ⟨0, 0, 0, 0, []⟩ none 0) (by simp [results, Tryz.results4, go_sem, t0, t1, t2, t3, t4, t5]) rfl ⟨false, ⟨0, 0, 0, 0, []⟩, none, 0, rfl, .inl rfl, HU.out, fun h => absurd h (by decide), fun _ => ⟨rfl, fun ws e => by rw [HM.out] at e; cases e⟩⟩
  | some ws =>
    have HM := Hid.mk' hm
    obtain ⟨hpn, hpl, hpw⟩ := HLE.out ws hm
    unfold SwP at KS
    rw [hm] at KS
    have hll : ∀ x ∈ ws, x.length ≤ 1099511627776 := fun x hx => by have := hpw x hx; have := HBL.out; omega
    have hlp : ws.length ≤ 1099511627776 := by have := HBL.out; omega
    obtain ⟨s, r, rfl⟩ : ∃ s r, ws = s :: r := by
      cases ws with
      | nil => exact absurd rfl hpn
      | cons s r => exact ⟨s, r, rfl⟩
    have HLL := Hid.mk' hll
    clear hm hpl hpw hll
    go_wp2_with fail
    refine KS.out.mono ?_
    rintro e w1 ⟨v, rfl, hb1, hO⟩
    obtain ⟨g, gc, rfl, hg, hgc, hw⟩ := own_words (hO _ rfl) hpn
    have h6 := H6.out.low hb1 (by have := HSW.out; omega)
    have H61 := Hid.mk' h6
    have HB1 := Hid.mk' (HBW.out.trans (hb1.mono (by have := HSW.out; omega)))
    have hs1 : w.heap.size < w1.heap.size := by have := HSW.out; have := hb1.size; omega
    have HWS := Hid.mk' hw
    clear KS hO hb1 hcv H6 HBW HSW HW HLE HBL h6 hw
    go_upto_region 5 with fail
    refine wp_gen (fun U => Pb U w1.heap.size false ∧ Below w1.heap.size w1 U) ⟨⟨cell_new rfl (by simp), World.frozen?_alloc_new w1 _ _ 19⟩, (Below.refl _ _).alloc (Nat.le_refl _) _⟩ ?_
    rintro U ⟨pU, bU⟩
    have KR := Hid.mk' (sri_c w1.heap.size g 0 gc s r U pU hg (fun i hi => (bU.cell (p := ⟨g, 0 + i, none⟩) hg).trans (HWS.out i hi)) hgc HLL.out (by simp at hlp; omega))
    have BU := Hid.mk' bU
    have hsU := bU.size
    have hpU := pU.lt
    clear pU bU HWS hgc
    go_wp2_with fail
    refine KR.out.mono ?_
    rintro e w2 ⟨x, la, lc, bd, rfl, hxo, hz, pb, gb, A1, A2⟩
    have HPR := Hid.mk' (sip_prs hxo A1 A2)
    have hb2 : Below w1.heap.size w1 w2 := BU.out.trans ((grown_below gb hpU).mono (Nat.le_refl _))
    have hs2 := hb2.size
    have TX := Hid.mk' (show Pb (w2.alloc (.cells #[.int .i64 x.op, .int .i64 x.a, .int .i64 x.b, .int .u64 x.v, .slice la x.l.length lc] 26)) w1.heap.size bd ∧ Below w1.heap.size w1 (w2.alloc (.cells #[.int .i64 x.op, .int .i64 x.a, .int .i64 x.b, .int .u64 x.v, .slice la x.l.length lc] 26)) ∧ Has (w2.alloc (.cells #[.int .i64 x.op, .int .i64 x.a, .int .i64 x.b, .int .u64 x.v, .slice la x.l.length lc] 26)) la x.l ∧ C5 (w2.alloc (.cells #[.int .i64 x.op, .int .i64 x.a, .int .i64 x.b, .int .u64 x.v, .slice la x.l.length lc] 26)) w2.heap.size 0 (.int .i64 x.op) (.int .i64 x.a) (.int .i64 x.b) (.int .u64 x.v) (.slice la x.l.length lc) from ⟨pb.keep ((Below.refl _ _).alloc (Nat.le_refl _) _), hb2.alloc hb2.size _, has_low hz.1 ((Below.refl _ _).alloc (Nat.le_refl _) _), C5.new⟩)
    have HZ := Hid.mk' hz.2
    clear hxo A1 A2 hz pb gb KR hb2 BU
    go_upto_region 6 with fail
    refine wp_gen (fun U => Pb U w1.heap.size bd ∧ Below w1.heap.size w1 U ∧ Has U la x.l ∧ C5 U w2.heap.size 0 (.int .i64 x.op) (.int .i64 x.a) (.int .i64 x.b) (.int .u64 x.v) (.slice la x.l.length lc)) TX.out ?_
    rintro V ⟨pV, bV, oV, xV⟩
    have h6 := H61.out.low bV hs1
    have HF := Hid.mk' (h6.fin (HB1.out.trans (bV.mono (Nat.le_of_lt hs1))) (World.ownsRow_nil V (w.heap.size + 1) 2 1))
    have HH := Hid.mk' (fun u0 u1 u2 u3 u4 u5 => has_six (B := w.heap.size) oV (fun p e => by have := HZ.out p e; omega) u0 u1 u2 u3 u4 u5)
    obtain ⟨z0, z1, z2, z3, z4, z5, zf⟩ := h6
    obtain ⟨⟨x0, x1, x2, x3, x4⟩, -⟩ := xV
    obtain ⟨p1, -⟩ := pV
    simp only [Nat.zero_add] at x0 x1 x2 x3 x4
    have zf0 := zf 0
    have zf1 := zf 1
    have zf2 := zf 2
    have zf3 := zf 3
    have zf4 := zf 4
    have zf5 := zf 5
    clear zf TX H61 HB1 bV oV HZ hs2 hsU hpU hs1 hlp HLL
    cases bd with
    | true =>
      go_wp2
      refine body_gen (fun U => C6 U w.heap.size (.bool false) (.int .i64 0) (.int .i64 0) (.int .i64 0) (.int .u64 0) (.slice none 0 0) ∧ Below w.heap.size w U ∧ U.ownsRow w.heap.size 2 1 (.slice none 0 0) 0 []) (HF.out _ _ _ _ _ _) ?_
      rintro U ⟨⟨t0, t1, t2, t3, t4, t5, -⟩, bU, -⟩
      have HU := Hid.mk' bU
      clear bU
      exact bodyPost_ret (v := itV false ⟨0, 0, 0, 0, []⟩ none 0) (by simp [results, Tryz.results4, go_sem, t0, t1, t2, t3, t4, t5]) rfl ⟨false, ⟨0, 0, 0, 0, []⟩, none, 0, rfl, .inl rfl, HU.out, fun h => absurd h (by decide), fun _ => ⟨rfl, fun ws e => by rw [HM.out] at e; cases e; exact HPR.out.2 trivial⟩⟩
    | false =>
      go_wp2
      refine body_gen (fun U => (C6 U w.heap.size (.bool true) (.int .i64 x.op) (.int .i64 x.a) (.int .i64 x.b) (.int .u64 x.v) (.slice la x.l.length lc) ∧ Below w.heap.size w U ∧ U.ownsRow w.heap.size 2 1 (.slice none 0 0) 0 []) ∧ Has U la x.l) ⟨HF.out _ _ _ _ _ _, HH.out _ _ _ _ _ _⟩ ?_
      rintro U ⟨⟨⟨t0, t1, t2, t3, t4, t5, -⟩, bU, -⟩, oU⟩
      have HU := Hid.mk' (And.intro bU oU)
      clear bU oU
      exact bodyPost_ret (v := itV true x la lc) (by simp [results, Tryz.results4, go_sem, t0, t1, t2, t3, t4, t5]) rfl ⟨true, x, la, lc, rfl, HU.out.2, HU.out.1, fun _ => ⟨s :: r, HM.out, HPR.out.1 trivial⟩, fun h => absurd h (by decide)⟩
end Go.Proofs.YtngepdhhdbhglaaGreatDoor

namespace Go.Proofs.YtngepdhhdbhglaaGreatDoor
open Go.RowKit Go.Sort
set_option maxRecDepth 100000
theorem arg_len {f : Int} {r : List Wd} {x : In} (h : Arg f r x) : x.l.length ≤ r.length := by
  have nl : ∀ (ss : List Wd) (vs : List Int), Nms ss vs → vs.length = ss.length := by
    intro ss
    induction ss with
    | nil => intro vs h; cases vs with
      | nil => rfl
      | cons v vs => exact h.elim
    | cons s ss ih => intro vs h; cases vs with
      | nil => exact h.elim
      | cons v vs => simp [ih vs h.2]
  unfold Arg at h
  split at h
  · rcases h with ⟨_, h⟩ | ⟨t, _, _, h⟩ <;> rw [h] <;> simp
  · split at h
    · obtain ⟨s, v, _, _, h⟩ := h; rw [h]; simp
    · split at h
      · obtain ⟨ss, s, vs, v, rfl, hn, _, h⟩ := h; rw [h]; have := nl ss vs hn; simp; omega
      · split at h
        · obtain ⟨s, t, v, u, _, _, _, h⟩ := h; rw [h]; simp
        · split at h
          · obtain ⟨s, v, _, _, h⟩ := h; rw [h]; simp
          · split at h
            · obtain ⟨s, v, _, _, h⟩ := h; rw [h]; simp
            · split at h
              · obtain ⟨s, u, _, _, _, _, h⟩ := h; rw [h]; simp
              · split at h
                · obtain ⟨s, u, _, _, _, _, h⟩ := h; rw [h]; simp
                · rw [h.2]; simp
theorem prs_len {ws : List Wd} {x : In} (h : Prs ws x) : x.l.length ≤ ws.length := by
  obtain ⟨s, r, rfl, _, _, ha⟩ := h
  have := arg_len ha
  simp; omega
/-- The one answer. -/
theorem one_ans (l : Wd) (hl : l.length ≤ 1048576) : ∃ (ok : Bool) (x : In), x.l.length ≤ 1099511627776 ∧
    (∀ ok1 x1, (ok1 = true → Prs (psplit l) x1) → (ok1 = false → x1 = ⟨0, 0, 0, 0, []⟩ ∧ ¬ ∃ y, Prs (psplit l) y) → ok1 = ok ∧ x1 = x) ∧
    (∀ ok0 x0, (ok0 = true → ∃ ws, wordsM l = some ws ∧ Prs ws x0) → (ok0 = false → x0 = ⟨0, 0, 0, 0, []⟩ ∧ ∀ ws, wordsM l = some ws → ¬ ∃ y, Prs ws y) → ok0 = ok ∧ x0 = x) := by
  by_cases h : ∃ y, Prs (psplit l) y
  · obtain ⟨y, hy⟩ := h
    have hw := words_cln l.length l (Nat.le_refl _) (prs_cln hy)
    refine ⟨true, y, ?_, fun ok1 x1 h1 h2 => ?_, fun ok0 x0 h1 h2 => ?_⟩
    · have := prs_len hy
      have := (psplit_len l.length l (Nat.le_refl _)).1
      omega
    · cases ok1 with
      | true => exact ⟨rfl, prs_uniq (h1 rfl) hy⟩
      | false => exact absurd ⟨y, hy⟩ (h2 rfl).2
    · cases ok0 with
      | true =>
        obtain ⟨ws, e, hx⟩ := h1 rfl
        rw [hw] at e
        cases e
        exact ⟨rfl, prs_uniq hx hy⟩
      | false => exact absurd ⟨y, hy⟩ ((h2 rfl).2 _ hw)
  · refine ⟨false, ⟨0, 0, 0, 0, []⟩, by simp, fun ok1 x1 h1 h2 => ?_, fun ok0 x0 h1 h2 => ?_⟩
    · cases ok1 with
      | true => exact absurd ⟨x1, h1 rfl⟩ h
      | false => exact ⟨rfl, (h2 rfl).1⟩
    · cases ok0 with
      | true =>
        obtain ⟨ws, e, hx⟩ := h1 rfl
        have := words_back l.length l ws (Nat.le_refl _) e (prs_cln hx)
        rw [← this] at hx
        exact absurd ⟨x0, hx⟩ h
      | false => exact ⟨rfl, (h2 rfl).1⟩
theorem hasOf {w : World} {B : Nat} {la : Option Addr} {lc : Nat} {xs : List Int} (h : w.ownsRow B 2 1 (.slice la xs.length lc) xs.length (I xs)) : Has w la xs := by
  obtain ⟨a, c, e, hh⟩ := own_shape h
  cases e
  exact hh
theorem has_grown {w w1 : World} {la : Option Addr} {xs : List Int} {r : Option Nat} (h : Has w la xs) (hg : w.grownBy w1 r) (hne : ∀ p, la = some p → xs ≠ [] → some p.block ≠ r) : Has w1 la xs := by
  rcases h with h | ⟨b, o, rfl, hc⟩
  · exact .inl h
  · by_cases hx : xs = []
    · exact .inl hx
    · have hb : b < w.heap.size := World.block_lt_of_cell? w _ (hc 0 (List.length_pos_iff.2 hx))
      exact .inr ⟨b, o, rfl, fun i hi => (World.cell?_of_block (hg.block b hb (hne _ rfl hx))).trans (hc i hi)⟩
theorem has_lt {w : World} {la : Option Addr} {xs : List Int} (h : Has w la xs) : ∀ p, la = some p → xs ≠ [] → p.block < w.heap.size := by
  intro p e hx
  rcases h with h | ⟨b, o, rfl, hc⟩
  · exact absurd h hx
  · cases e
    exact World.block_lt_of_cell? w _ (hc 0 (List.length_pos_iff.2 hx))
structure SV (w : World) (b : Nat) (ok : Bool) (x : In) (la : Option Addr) (lc : Nat) : Prop where
  c0 : w.cell? ⟨b, 0, none⟩ = some (.bool ok)
  c1 : w.cell? ⟨b, 1, none⟩ = some (.int .i64 x.op)
  c2 : w.cell? ⟨b, 2, none⟩ = some (.int .i64 x.a)
  c3 : w.cell? ⟨b, 3, none⟩ = some (.int .i64 x.b)
  c4 : w.cell? ⟨b, 4, none⟩ = some (.int .u64 x.v)
  c5 : w.cell? ⟨b, 5, none⟩ = some (.slice la x.l.length lc)
theorem SV.new (w : World) (ok : Bool) (x : In) (la : Option Addr) (lc : Nat) : SV (w.alloc (.cells #[.bool ok, .int .i64 x.op, .int .i64 x.a, .int .i64 x.b, .int .u64 x.v, .slice la x.l.length lc] 28)) w.heap.size ok x la lc :=
  ⟨cell_new rfl rfl, cell_new rfl rfl, cell_new rfl rfl, cell_new rfl rfl, cell_new rfl rfl, cell_new rfl rfl⟩
theorem SV.lt {w : World} {b : Nat} {ok : Bool} {x : In} {la : Option Addr} {lc : Nat} (h : SV w b ok x la lc) : b < w.heap.size := World.block_lt_of_cell? w _ h.1
theorem SV.grown {w w1 : World} {b : Nat} {ok : Bool} {x : In} {la : Option Addr} {lc : Nat} {r : Option Nat} (h : SV w b ok x la lc) (hg : w.grownBy w1 r) (hne : some b ≠ r) : SV w1 b ok x la lc := by
  have hk : w1.heap[b]? = w.heap[b]? := hg.block b h.lt hne
  obtain ⟨h0, h1, h2, h3, h4, h5⟩ := h
  exact ⟨(World.cell?_of_block hk).trans h0, (World.cell?_of_block hk).trans h1, (World.cell?_of_block hk).trans h2, (World.cell?_of_block hk).trans h3, (World.cell?_of_block hk).trans h4, (World.cell?_of_block hk).trans h5⟩
theorem SV.drewN {w : World} {b : Nat} {ok : Bool} {x : In} {la : Option Addr} {lc : Nat} (h : SV w b ok x la lc) (n : Nat) : SV (w.drewN n) b ok x la lc := ⟨h.c0, h.c1, h.c2, h.c3, h.c4, h.c5⟩
theorem SV.keep {w w1 : World} {b : Nat} {ok : Bool} {x : In} {la : Option Addr} {lc : Nat} (h : SV w b ok x la lc) (hb : Below w.heap.size w w1) : SV w1 b ok x la lc := h.grown (r := none) (below_grown' hb) (by simp)
set_option maxHeartbeats 16000000 in
theorem lawPIn (a : Option Addr) (cap : Nat) (bs : List Int) (w : World) (hm : bs.length ≤ maxLen) (hH : By.Has w a bs) (hVs : Vs w.heap.size w) :
    Calls Tryz.prog 3 #[.slice a bs.length cap] w fun e w' => e = .returned (.bool true) ∧ Below w.heap.size w w' := by
  unfold maxLen at hm
  by_cases hbig : 1048576 < bs.length
  · have hbi : (1048576 : Int) < (bs.length : Int) := by omega
    clear hH hVs
    go_enter Tryz.func3, Tryz.ntmps3
    go_wp2
    go_ret
    exact ⟨rfl, Below.refl _ _⟩
  have hbi : ¬ (1048576 : Int) < (bs.length : Int) := by omega
  have hl : bs.length ≤ 1099511627776 := by omega
  obtain ⟨ok, x, hdl2, uI, uS⟩ := one_ans (bytesOf bs) (by simp [bytesOf]; omega)
  have KT := Hid.mk' (fun (V : World) (h : Below w.heap.size w V) => By.toBytes_any a cap bs V hl (By.Has.keep hH h))
  have KS := Hid.mk' (fun (V : World) (g : Nat) (h : By.Has V (some ⟨g, 0, none⟩) bs) => (spar_c (some ⟨g, 0, none⟩) bs.length bs V h (by omega)).mono (fun e w' (hp : PsP (bytesOf bs) V e w') => show ∃ la lc, e = .returned (itV ok x la lc) ∧ Has w' la x.l ∧ Below V.heap.size V w' from by
    obtain ⟨ok0, x0, la, lc, e1, h1, h2, h3, h4⟩ := hp
    obtain ⟨rfl, rfl⟩ := uS ok0 x0 h3 h4
    exact ⟨la, lc, e1, h1, h2⟩))
  have KI := Hid.mk' (fun (V : World) (g : Nat) (hbV : Below w.heap.size w V) (h : By.Has V (some ⟨g, 0, none⟩) bs) => (ipar_c (some ⟨g, 0, none⟩) bs.length bs V h (by omega) ((hVs.keep hbV).up hbV.size)).mono (fun e w' (hp : PiP (psplit (bytesOf bs)) V e w') => show ∃ la lc, e = .returned (itV ok x la lc) ∧ w'.ownsRow V.heap.size 2 1 (.slice la x.l.length lc) x.l.length (I x.l) ∧ Below V.heap.size V w' from by
    obtain ⟨ok1, x1, la, lc, e1, h1, h2, h3, h4⟩ := hp
    obtain ⟨rfl, rfl⟩ := uI ok1 x1 h3 h4
    exact ⟨la, lc, e1, h1, h2⟩))
  have KE := Hid.mk' (fun (la la' : Option Addr) (lc lc' : Nat) (V : World) (h : Has V la x.l) (h' : Has V la' x.l) => eqTxt_c ok x la la' lc lc' V hdl2 h h')
  have KM := Hid.mk' (fun (B : Nat) (la : Option Addr) (lc : Nat) (V : World) (h : V.ownsRow B 2 1 (.slice la x.l.length lc) x.l.length (I x.l)) => markTxt_c B ok x la lc V hdl2 h)
  have KH := Hid.mk' (fun (B : Nat) (la : Option Addr) (lc : Nat) (V : World) (h : V.ownsRow B 2 1 (.slice la x.l.length lc) x.l.length (I (marks 1 x.l.length))) => heldTxt_c B ok x la lc V hdl2 h)
  clear hH hVs hbig hm uI uS
  go_enter Tryz.func3, Tryz.ntmps3
  go_wp2_with fail
  refine (KT.out _ (Below.refl _ _)).mono ?_
  rintro e w1 ⟨rfl, o1, b1⟩
  have B1 := Hid.mk' b1
  have H1 := Hid.mk' (By.own_has o1)
  have z1 : w.heap.size < w1.heap.size := (o1.lt _ rfl).2
  clear o1 b1
  go_wp2_with fail
  refine (KS.out _ _ H1.out).mono ?_
  rintro e w2 ⟨la0, lc0, rfl, o2, b2⟩
  have B2 := Hid.mk' (B1.out.trans (b2.mono B1.out.size))
  have s2 := b2.size
  obtain ⟨V2, hV2⟩ : ∃ V2, V2 = w2.alloc (.cells #[.bool ok, .int .i64 x.op, .int .i64 x.a, .int .i64 x.b, .int .u64 x.v, .slice la0 x.l.length lc0] 28) := ⟨_, rfl⟩
  have bV2 : Below w2.heap.size w2 V2 := by rw [hV2]; exact (Below.refl _ _).alloc (Nat.le_refl _) _
  have hs2 : w2.heap.size < V2.heap.size := by rw [hV2]; simp
  have S2 := Hid.mk' (show SV V2 w2.heap.size ok x la0 lc0 by rw [hV2]; exact SV.new _ _ _ _ _)
  have O2 := Hid.mk' (o2.keep bV2)
  have LO := Hid.mk' (has_lt o2)
  have BV2 := Hid.mk' (B2.out.trans (bV2.mono B2.out.size))
  have HV2 := Hid.mk' hV2
  clear o2 b2 bV2 hV2 H1
  go_wp2_with fail
  rw [← HV2.out]
  refine (KT.out _ BV2.out).mono ?_
  rintro e w3 ⟨rfl, o3, b3⟩
  have B3 := Hid.mk' (BV2.out.trans (b3.mono BV2.out.size))
  have O3 := Hid.mk' o3
  have z3' : V2.heap.size < w3.heap.size := (o3.lt _ rfl).2
  have S3 := Hid.mk' (S2.out.keep b3)
  have P3 := Hid.mk' (O2.out.keep b3)
  clear o3 b3 HV2 S2 O2 B2 BV2
  go_wp2_with fail
  refine (KI.out _ _ B3.out (By.own_has O3.out)).mono ?_
  rintro e w4 ⟨la1, lc1, rfl, o4, b4⟩
  have B4 := Hid.mk' (B3.out.trans (b4.mono B3.out.size))
  have s4 := b4.size
  obtain ⟨V4, hV4⟩ : ∃ V4, V4 = w4.alloc (.cells #[.bool ok, .int .i64 x.op, .int .i64 x.a, .int .i64 x.b, .int .u64 x.v, .slice la1 x.l.length lc1] 28) := ⟨_, rfl⟩
  have bV4 : Below w4.heap.size w4 V4 := by rw [hV4]; exact (Below.refl _ _).alloc (Nat.le_refl _) _
  have hs4 : w4.heap.size < V4.heap.size := by rw [hV4]; simp
  have T4 := Hid.mk' (show SV V4 w4.heap.size ok x la1 lc1 by rw [hV4]; exact SV.new _ _ _ _ _)
  have S4 := Hid.mk' ((S3.out.keep b4).keep bV4)
  have P4 := Hid.mk' ((P3.out.keep b4).keep bV4)
  have Q4 := Hid.mk' (ownE_keep o4 bV4 (Nat.le_refl _))
  have X4 := Hid.mk' (ownE_keep (ownE_keep O3.out b4 (Nat.le_refl _)) bV4 (Nat.le_refl _))
  have LQ := Hid.mk' (fun k (hk : (Value.slice la1 x.l.length lc1).ownBlock = some k) => o4.lt k hk)
  have BV4 := Hid.mk' (B4.out.trans (bV4.mono B4.out.size))
  have HV4 := Hid.mk' hV4
  clear o4 b4 bV4 hV4 O3 P3 S3 B3 B4
  obtain ⟨m0, m1, m2, m3, m4, m5⟩ := S4.out
  obtain ⟨n0, n1, n2, n3, n4, n5⟩ := T4.out
  go_upto_region 6 with fail
  rw [← HV4.out]
  go_wp2_with fail
  refine (KE.out _ _ _ _ _ (hasOf Q4.out) (P4.out)).mono ?_
  rintro e w5 ⟨rfl, b5⟩
  have B5 := Hid.mk' (BV4.out.trans (b5.mono BV4.out.size))
  have T5 := Hid.mk' (T4.out.keep b5)
  have S5 := Hid.mk' (S4.out.keep b5)
  have P5 := Hid.mk' (P4.out.keep b5)
  have Q5 := Hid.mk' (ownE_keep Q4.out b5 (Nat.le_refl _))
  have X5 := Hid.mk' (ownE_keep X4.out b5 (Nat.le_refl _))
  have s5 := b5.size
  clear b5 HV4 T4 S4 P4 Q4 X4 BV4
  clear m0 m1 m2 m3 m4 m5
  clear n0 n1 n2 n3 n4 n5
  go_wp2_with fail
  refine (KT.out _ B5.out).mono ?_
  rintro e w6 ⟨rfl, o6, b6⟩
  have B6 := Hid.mk' (B5.out.trans (b6.mono B5.out.size))
  have X6 := Hid.mk' (ownE_keep X5.out b6 (Nat.le_refl _))
  have C6 := Hid.mk' o6
  have T6 := Hid.mk' (T5.out.keep b6)
  have S6 := Hid.mk' (S5.out.keep b6)
  have P6 := Hid.mk' (P5.out.keep b6)
  have Q6 := Hid.mk' (ownE_keep Q5.out b6 (Nat.le_refl _))
  have s6 := b6.size
  clear o6 b6 T5 S5 P5 Q5 X5 B5
  go_wp2_with fail
  refine (By.eq_any _ _ _ _ bs _ hl (By.own_has X6.out) (By.own_has C6.out)).mono ?_
  rintro e w7 ⟨rfl, n7, rfl⟩
  have X7 := Hid.mk' (show (w6.drewN n7).ownsRow V2.heap.size 5 1 (.slice (some ⟨V2.heap.size, 0, none⟩) bs.length bs.length) bs.length (U bs) from X6.out)
  have B7 := Hid.mk' (below_drewN' B6.out n7)
  have T7 := Hid.mk' (show SV (w6.drewN n7) w4.heap.size ok x la1 lc1 from T6.out.drewN n7)
  have S7 := Hid.mk' (show SV (w6.drewN n7) w2.heap.size ok x la0 lc0 from S6.out.drewN n7)
  have P7 := Hid.mk' (show Has (w6.drewN n7) la0 x.l from P6.out)
  have Q7 := Hid.mk' (show (w6.drewN n7).ownsRow w3.heap.size 2 1 (.slice la1 x.l.length lc1) x.l.length (I x.l) from Q6.out)
  have s7 : w5.heap.size ≤ (w6.drewN n7).heap.size := s6
  clear X6 C6 B6 T6 S6 P6 Q6 s6
  generalize w6.drewN n7 = w7 at *
  go_wp2_with fail
  refine (By.mark_any V2.heap.size V2.heap.size bs.length bs.length bs _ hl X7.out).mono ?_
  rintro e w8 ⟨rfl, o8, g8⟩
  have B8 := Hid.mk' (B7.out.grown g8 B7.out.size (fun k hk => by simp at hk; omega))
  have T8 := Hid.mk' (T7.out.grown g8 (by simp; omega))
  have S8 := Hid.mk' (S7.out.grown g8 (by simp; omega))
  have P8 := Hid.mk' (has_grown P7.out g8 (fun p hp hx => by have := LO.out p hp hx; simp; omega))
  have Q8 := Hid.mk' (ownE_grown' Q7.out g8 (fun k hk => by have := (LQ.out k hk).1; simp; omega))
  have s8 := g8.size
  clear o8 g8 X7 B7 T7 S7 P7 Q7
  have hk1 : ¬ ((1 : Int) + bs.length) < 0 := by omega
  have hd1 : decide (((1 : Int) + bs.length) < 0) = false := decide_eq_false hk1
  obtain ⟨m0, m1, m2, m3, m4, m5⟩ := S8.out
  obtain ⟨n0, n1, n2, n3, n4, n5⟩ := T8.out
  go_wp2_with fail
  refine (KE.out _ _ _ _ _ (hasOf Q8.out) (P8.out)).mono ?_
  rintro e w9 ⟨rfl, b9⟩
  have B9 := Hid.mk' (B8.out.trans (b9.mono B8.out.size))
  have T9 := Hid.mk' (T8.out.keep b9)
  have S9 := Hid.mk' (S8.out.keep b9)
  have P9 := Hid.mk' (P8.out.keep b9)
  have Q9 := Hid.mk' (ownE_keep Q8.out b9 (Nat.le_refl _))
  have s9 := b9.size
  clear b9 T8 S8 P8 Q8 B8
  clear m0 m1 m2 m3 m4 m5
  clear n0 n1 n2 n3 n4 n5
  obtain ⟨n0, n1, n2, n3, n4, n5⟩ := T9.out
  go_wp2_with fail
  refine (KM.out _ _ _ _ Q9.out).mono ?_
  rintro e w10 ⟨rfl, o10, g10⟩
  have B10 := Hid.mk' (B9.out.grown g10 B9.out.size (fun k hk => by have := (LQ.out k hk).1; omega))
  have T10 := Hid.mk' (T9.out.grown g10 (fun e => by have := (LQ.out _ e.symm).2; omega))
  have S10 := Hid.mk' (S9.out.grown g10 (fun e => by have := (LQ.out _ e.symm).1; omega))
  have P10 := Hid.mk' (has_grown P9.out g10 (fun p hp hx e => by have h1 := LO.out p hp hx; have := (LQ.out _ e.symm).1; omega))
  have Q10 := Hid.mk' o10
  have s10 := g10.size
  clear o10 g10 T9 S9 P9 Q9 B9
  clear n0 n1 n2 n3 n4 n5
  obtain ⟨n0, n1, n2, n3, n4, n5⟩ := T10.out
  go_wp2_with fail
  refine (KH.out _ _ _ _ Q10.out).mono ?_
  rintro e w11 ⟨rfl, b11⟩
  have B11 := Hid.mk' (B10.out.trans (b11.mono B10.out.size))
  have T11 := Hid.mk' (T10.out.keep b11)
  have S11 := Hid.mk' (S10.out.keep b11)
  have P11 := Hid.mk' (P10.out.keep b11)
  have Q11 := Hid.mk' (ownE_keep Q10.out b11 (Nat.le_refl _))
  have s11 := b11.size
  clear b11 T10 S10 P10 Q10 B10
  clear n0 n1 n2 n3 n4 n5
  have hq1 : ¬ ((1 : Int) + x.l.length) < 0 := by omega
  have hq2 : (((1 : Int) + x.l.length) != ((1 : Int) + x.l.length)) = false := by simp
  go_wp2_with fail
  refine (KT.out _ B11.out).mono ?_
  rintro e w12 ⟨rfl, o12, b12⟩
  have B12 := Hid.mk' (B11.out.trans (b12.mono B11.out.size))
  have T12 := Hid.mk' (T11.out.keep b12)
  have S12 := Hid.mk' (S11.out.keep b12)
  have P12 := Hid.mk' (P11.out.keep b12)
  have Q12 := Hid.mk' (ownE_keep Q11.out b12 (Nat.le_refl _))
  have H12 := Hid.mk' (By.own_has o12)
  have z12 : w11.heap.size < w12.heap.size := (o12.lt _ rfl).2
  clear o12 b12 T11 S11 P11 Q11 B11
  go_wp2_with fail
  refine (KI.out _ _ B12.out H12.out).mono ?_
  rintro e w13 ⟨la2, lc2, rfl, o13, b13⟩
  have B13 := Hid.mk' (B12.out.trans (b13.mono B12.out.size))
  obtain ⟨V13, hV13⟩ : ∃ V13, V13 = w13.alloc (.cells #[.bool ok, .int .i64 x.op, .int .i64 x.a, .int .i64 x.b, .int .u64 x.v, .slice la2 x.l.length lc2] 28) := ⟨_, rfl⟩
  have bV13 : Below w13.heap.size w13 V13 := by rw [hV13]; exact (Below.refl _ _).alloc (Nat.le_refl _) _
  have R13 := Hid.mk' (show SV V13 w13.heap.size ok x la2 lc2 by rw [hV13]; exact SV.new _ _ _ _ _)
  have T13 := Hid.mk' ((T12.out.keep b13).keep bV13)
  have S13 := Hid.mk' ((S12.out.keep b13).keep bV13)
  have P13 := Hid.mk' ((P12.out.keep b13).keep bV13)
  have Q13 := Hid.mk' (ownE_keep (ownE_keep Q12.out b13 (Nat.le_refl _)) bV13 (Nat.le_refl _))
  have O13 := Hid.mk' (ownE_keep o13 bV13 (Nat.le_refl _))
  have BV13 := Hid.mk' (B13.out.trans (bV13.mono B13.out.size))
  have HV13 := Hid.mk' hV13
  clear o13 b13 bV13 hV13 T12 S12 P12 Q12 B12 H12 B13
  obtain ⟨m0, m1, m2, m3, m4, m5⟩ := S13.out
  obtain ⟨r0, r1, r2, r3, r4, r5⟩ := R13.out
  go_upto_region 23 with fail
  rw [← HV13.out]
  go_wp2_with fail
  refine (KE.out _ _ _ _ _ (hasOf O13.out) (P13.out)).mono ?_
  rintro e w14 ⟨rfl, b14⟩
  have B14 := Hid.mk' (BV13.out.trans (b14.mono BV13.out.size))
  have T14 := Hid.mk' (T13.out.keep b14)
  have Q14 := Hid.mk' (ownE_keep Q13.out b14 (Nat.le_refl _))
  clear b14 T13 S13 P13 Q13 O13 R13 BV13 HV13
  clear m0 m1 m2 m3 m4 m5
  clear r0 r1 r2 r3 r4 r5
  obtain ⟨n0, n1, n2, n3, n4, n5⟩ := T14.out
  go_wp2_with fail
  refine (KH.out _ _ _ _ Q14.out).mono ?_
  rintro e w15 ⟨rfl, b15⟩
  have B15 := Hid.mk' (B14.out.trans (b15.mono B14.out.size))
  clear b15
  go_wp2
  go_ret
  exact ⟨rfl, B15.out⟩
end Go.Proofs.YtngepdhhdbhglaaGreatDoor

namespace Go.Proofs.YtngepdhhdbhglaaGreatDoor
open Go.ChangeShapes Go.WideShapes Go.ChangeAt Go.WideMaps Go.WideElems Go.RowKit
theorem of_vars {P : Program} {W : World} {name : String} {k : IntKind} {zs : List Int} {rest : List (String × DataW Unit)} {g : Nat} {t e : TypeId} {n : Nat} {ps : List MemPlace}
    (hg : P.globalNamed name = some g) (hty : (P.globals[g]?).map (·.type) = some t) (ht : P.underlying t = some (.array n e)) (he : P.underlying e = some (.int k)) (hce : P.cellsOf e = 1) (hct : P.cellsOf t = n)
    (h : DataW.LaidVars P W ((name, Lib.tabData k zs) :: rest) ps) : Lib.TabIs P W name k zs ∧ ∃ q, DataW.LaidVars P W rest q := by
  obtain ⟨g', t', cs, fuel, p, q, hg', ht', hvar, hd, hr, _⟩ := h
  obtain rfl := Option.some.inj (hg.symm.trans hg')
  obtain rfl := Option.some.inj (hty.symm.trans ht')
  refine ⟨?_, q, hr⟩
  unfold Lib.TabIs
  rw [hvar, ← Lib.cells_of_tab ht he hce hct hd]
theorem of_err {P : Program} {W : World} {name nm : String} {d : DataW Unit} {rest : List (String × DataW Unit)} {g : Nat} {t : TypeId} {ms : Array (String × TypeId)} {ps : List MemPlace}
    (hg : P.globalNamed name = some g) (hty : (P.globals[g]?).map (·.type) = some t) (ht : P.underlying t = some (.interface ms))
    (h : DataW.LaidVars P W ((name, .iface nm d) :: rest) ps) : (∃ ev, W.cell? ⟨g, 0, none⟩ = some ev ∧ IsErr ev) ∧ ∃ q, DataW.LaidVars P W rest q := by
  obtain ⟨g', t', cs, fuel, p, q, hg', ht', hvar, hd, hr, _⟩ := h
  obtain rfl := Option.some.inj (hg.symm.trans hg')
  obtain rfl := Option.some.inj (hty.symm.trans ht')
  refine ⟨?_, q, hr⟩
  obtain ⟨_, u, v, hcs, _, _⟩ := iface_of_trod ht hd
  refine ⟨.iface u v, ?_, .inr ⟨u, v, rfl⟩⟩
  rw [World.var?_cell hg hvar 0]
  have : cs = #[.iface u v] := by
    apply Array.ext'
    exact hcs
  rw [this]; rfl
def z32 : List Int := [0, 1, 28, 2, 29, 14, 24, 3, 30, 22, 20, 15, 25, 17, 4, 8, 31, 27, 13, 23, 21, 19, 16, 7, 26, 12, 18, 6, 11, 5, 10, 9]
def z64 : List Int := [0, 1, 56, 2, 57, 49, 28, 3, 61, 58, 42, 50, 38, 29, 17, 4, 62, 47, 59, 36, 45, 43, 51, 22, 53, 39, 33, 30, 24, 18, 12, 5, 63, 55, 48, 27, 60, 41, 37, 16, 46, 35, 44, 21, 52, 32, 23, 11, 54, 26, 40, 15, 34, 20, 31, 10, 25, 14, 19, 9, 13, 8, 7, 6]
theorem d32 : (Rows.laid_math_bits_deBruijn32tab : DataW Unit) = Lib.tabData .u8 z32 := rfl
theorem d64 : (Rows.laid_math_bits_deBruijn64tab : DataW Unit) = Lib.tabData .u8 z64 := rfl
theorem d10 : (Rows.laid_internal_strconv_uint64pow10 : DataW Unit) = Lib.tabData .u64 Lib.pow10Tab := by kernel_rfl
abbrev lds : List (String × DataW Unit) := [("math/bits.deBruijn32tab", Rows.laid_math_bits_deBruijn32tab), ("math/bits.deBruijn64tab", Rows.laid_math_bits_deBruijn64tab), ("internal/strconv.uint64pow10", Rows.laid_internal_strconv_uint64pow10), ("strconv.ErrRange", Rows.laid_strconv_ErrRange), ("strconv.ErrSyntax", Rows.laid_strconv_ErrSyntax)]
theorem of_laid {W : World} (h : laidMetH Tryz.prog lds W) : Vs W.heap.size W := by
  rw [MakeChecks.laidMetH_plain _ _ _ (by kernel_rfl)] at h
  obtain ⟨ps, h1, _, _⟩ := h
  rw [show lds = [("math/bits.deBruijn32tab", Lib.tabData .u8 z32), ("math/bits.deBruijn64tab", Lib.tabData .u8 z64), ("internal/strconv.uint64pow10", Lib.tabData .u64 Lib.pow10Tab), ("strconv.ErrRange", Rows.laid_strconv_ErrRange), ("strconv.ErrSyntax", Rows.laid_strconv_ErrSyntax)] by unfold lds; rw [d32, d64, d10]] at h1
  obtain ⟨_, q1, h2⟩ := of_vars (g := 4) (t := 165) (e := 5) (n := 32) (by kernel_rfl) (by kernel_rfl) (by kernel_rfl) (by kernel_rfl) (by kernel_rfl) (by kernel_rfl) h1
  obtain ⟨t64, q2, h3⟩ := of_vars (g := 5) (t := 166) (e := 5) (n := 64) (by kernel_rfl) (by kernel_rfl) (by kernel_rfl) (by kernel_rfl) (by kernel_rfl) (by kernel_rfl) h2
  obtain ⟨t10, q3, h4⟩ := of_vars (g := 3) (t := 157) (e := 23) (n := 20) (by kernel_rfl) (by kernel_rfl) (by kernel_rfl) (by kernel_rfl) (by kernel_rfl) (by kernel_rfl) h3
  unfold Rows.laid_strconv_ErrRange at h4
  obtain ⟨e2, q4, h5⟩ := of_err (g := 2) (t := 100) (by kernel_rfl) (by kernel_rfl) Tryz.underlying100 h4
  unfold Rows.laid_strconv_ErrSyntax at h5
  obtain ⟨e1, q5, h6⟩ := of_err (g := 1) (t := 100) (by kernel_rfl) (by kernel_rfl) Tryz.underlying100 h5
  have c := t64.cell (g := 5) (by kernel_rfl) 15 (by decide)
  have hlt : 5 < W.heap.size := World.block_lt_of_cell? W _ c
  exact ⟨c, Lib.tabBelow_of_tabIs t10, e1, e2, hlt⟩
/-- The door's own heap meets the condition. -/
theorem door_met (os : Os) (args : Array Value) : laidMetH Tryz.prog lds ((World.doorLaid Tryz.prog 400 os).forCall (fun _ _ => 0) ⟨#[], args, []⟩).memory :=
  laidMetH_of_parts3 (fuel := 8) (laidMet_of_run' 8 (by kernel_rfl) (by kernel_rfl)) (by kernel_rfl) (by kernel_rfl)
end Go.Proofs.YtngepdhhdbhglaaGreatDoor

set_option linter.all false
namespace Go.Proofs.YtngepdhhdbhglaaGreatDoor.fnExactParseIns
open Go.ChangeShapes Go.WideShapes Go.ChangeAt Go.RowKit
open Go.ChangeMaps (open_string shut_string)
set_option linter.unusedVariables false

theorem own : ownKnob Tryz.prog.godebug = none := by kernel_rfl
theorem laidOut : laidOutB Tryz.prog = true := by kernel_rfl

def IsRow (k : IntKind) (w : World) (a : Option Addr) (len cap : Nat) (zs : List Int) : Prop :=
  (a = none ∧ len = 0 ∧ cap = 0 ∧ zs = []) ∨
  ∃ x, a = some x ∧ len ≤ cap ∧ cap ≤ maxLen ∧ zs.length = cap ∧ (∀ i, i < zs.length → w.cell? (x.add i) = some (.int k (zs.getD i 0))) ∧ ∀ n ∈ zs, (Lit.int k n).wf = true

theorem walk (a0 : Option Addr) (len0 cap0 : Nat) (z0 : List Int) (w : World) (hV : Vs w.heap.size w) (w0 : IsRow .u8 w a0 len0 cap0 z0) :
    Calls Tryz.prog 3 #[.slice a0 len0 cap0] w fun e w' => e = .returned (.bool true) ∧ Below w.heap.size w w' := by
  obtain ⟨xs, rfl, hm, hh⟩ := By.row_has w0
  exact lawPIn a0 cap0 xs w hm hh hV

set_option maxRecDepth 100000 in
theorem lifted (os : Os) (started : os.Started) (H : Type) (enc : TypeId × Value → H) :
    ReturnsInHanded {} Tryz.checked os 3 .any (fun w args => (Rows.fnExactParseInsSpec.pre enc Tryz.prog Tryz.f3 [] false w args ∧ laidMetH Tryz.prog lds w) ∧ sizedMet enc Tryz.prog Tryz.f3 (OpenSpec.ofChange Rows.fnExactParseInsSpec) false w args) (Rows.fnExactParseInsSpec.post enc Tryz.prog Tryz.f3 false true false false) := by
  refine returnsInHanded_of_change_and (C := Tryz.checked) (X := fun w _ => laidMetH Tryz.prog lds w) (fun _ _ _ hh h => h.of_heap hh) own started (by kernel_rfl) Tryz.func3
    (ChangeSpec.witness_shaped (enc := enc) (C := Tryz.checked) (os := os) (X := fun w _ => laidMetH Tryz.prog lds w) false (World.doorLaid Tryz.prog 400 os) #[.slice none 0 0] 8 rfl (World.shaped_of_RefB (by kernel_rfl) (by kernel_rfl)) (by kernel_rfl) (by kernel_rfl) (by kernel_rfl) (door_met os _)) ?_
  intro W base args ds gs before hval0 hW _ _ hL _
  have hV := of_laid hL
  have hval : ∀ (j : Nat) t v, Tryz.f3.params[j]? = some t → args[j]? = some v → Value.okWide Tryz.prog W .any base t v := hval0
  have hW' := hW
  obtain ⟨p, q, hA0, hVr, rfl, hfz, hnd⟩ := hW
  have hA : DataW.TrodAll enc Tryz.prog W 0 (fun _ => true) true Tryz.f3.params.toList args.toList ds p := hA0
  rw [Tryz.params3] at hA hval
  obtain ⟨v0, vs0, d0, ds0, p0, q0, hargs, rfl, rfl, h0, r0⟩ := trodAll_cons hA
  obtain ⟨rfl, rfl, rfl⟩ := trodAll_nil r0
  obtain rfl : args = #[v0] := by cases args; simp_all
  obtain ⟨rfl, rfl⟩ := trodVars_none hVr
  obtain ⟨a0, len0, cap0, rfl⟩ := okWide_slice Tryz.underlying22 (hval 0 22 v0 rfl rfl)
  have k0 := h0
  have lt0 : ∀ x ∈ p0, x.block < W.heap.size := by obtain ⟨m, hm⟩ := k0; exact DataW.trod_lt m _ _ _ hm
  obtain ⟨z0, w0⟩ : ∃ zs, IsRow .u8 W a0 len0 cap0 zs := by
    obtain ⟨fuel, hf⟩ := h0
    rcases open_ints Tryz.underlying22 Tryz.underlying5 (by kernel_rfl) hf with ⟨hcs, _⟩ | ⟨x, l, c, zs, hcs, _, hl, hm, hz, _, hcell, hwz⟩
    · simp [Value.cells] at hcs
      obtain ⟨rfl, rfl, rfl⟩ := hcs
      exact ⟨[], .inl ⟨rfl, rfl, rfl, rfl⟩⟩
    · simp [Value.cells] at hcs
      obtain ⟨rfl, rfl, rfl⟩ := hcs
      exact ⟨zs, .inr ⟨_, rfl, hl, hm, by simpa using hz, hcell, hwz⟩⟩
  clear hA0 hval0
  refine (walk a0 len0 cap0 z0 W hV w0).mono fun e W' ⟨he, bel⟩ => ?_
  subst he
  exact ⟨_, rfl, _, _, _, [], _, [], hW', trodAll_mk1 (shut_bool Tryz.underlying4 _), (trodAll_cons_mk (Below.trod laidOut (by kernel_rfl) (of_decide_eq_true (by kernel_rfl)) k0 bel lt0) trodAll_mk0), rfl, bel.frame _, fun h => by cases h⟩

theorem jf0 : OpenClaim.wf (OpenSpec.ofChange Rows.fnExactParseInsSpec) Rows.fnExactParseInsRow = true := by kernel_rfl
theorem jf1 : laidOutB Tryz.prog = true := by kernel_rfl
theorem jf2 : mapsRowed Tryz.prog = true := by kernel_rfl
theorem jf3 : (Tryz.f3.params.all fun x => Tryz.prog.readableRec x) = true := by kernel_rfl
theorem jf4 : namedTie Tryz.prog Rows.fnExactParseInsRow.named Rows.fnExactParseInsSpec.vars = true := by kernel_rfl
theorem jf5 : (Rows.fnExactParseInsRow.stops == []) = true := by kernel_rfl
theorem jf6 : (Tryz.prog.stops == []) = true := by kernel_rfl
theorem jf7 : (Rows.fnExactParseInsRow.knobs == []) = true := by kernel_rfl
theorem jf8 : (Tryz.prog.stopKnobs == []) = true := by kernel_rfl
theorem jf9 : (Rows.fnExactParseInsRow.inPlace == Tryz.prog.inPlace 3) = true := by kernel_rfl
theorem jf10 : (Rows.fnExactParseInsRow.unfollowed == Tryz.prog.unfollowed 3) = true := by kernel_rfl
theorem jf11 : (Rows.fnExactParseInsRow.recurses == Tryz.prog.recurses 3) = true := by kernel_rfl
theorem jf12 : (Rows.fnExactParseInsRow.named == Tryz.prog.varsNamed 3) = true := by kernel_rfl
theorem jf13 : (Rows.fnExactParseInsRow.maps == (Tryz.f3.params.toList ++ DataSpec.varTypes Tryz.prog Rows.fnExactParseInsSpec.plain).any fun x => Tryz.prog.mapsRec x) = true := by kernel_rfl
theorem jf14 : (Rows.fnExactParseInsRow.ifaces == (Tryz.f3.params.toList ++ DataSpec.varTypes Tryz.prog Rows.fnExactParseInsSpec.plain).any fun x => Tryz.prog.ifacesRec x) = true := by kernel_rfl
theorem jf15 : (Rows.fnExactParseInsRow.mapsOut == Tryz.prog.mapsAmong Tryz.f3.resultTypes.toList) = true := by kernel_rfl
theorem jf16 : (Rows.fnExactParseInsRow.loops == (Tryz.f3.params.toList ++ DataSpec.varTypes Tryz.prog Rows.fnExactParseInsSpec.plain).any fun x => Tryz.prog.loopsFrom x) = true := by kernel_rfl
theorem jf17 : (Rows.fnExactParseInsRow.wideKeys == (Tryz.f3.params.toList ++ DataSpec.varTypes Tryz.prog Rows.fnExactParseInsSpec.plain ++ Tryz.f3.resultTypes.toList).any fun x => Tryz.prog.wideKeysFrom x) = true := by kernel_rfl
theorem jf18 : (Rows.fnExactParseInsSpec.vars.all fun x => Tryz.prog.varReadable x) = true := by kernel_rfl
theorem jf19 : (Tryz.f3.resultTypes.all fun t => Tryz.prog.readableRec t && decide (t < Tryz.prog.types.size)) = true := by kernel_rfl
theorem jf20 : (Rows.fnExactParseInsRow.ifacesOut == Tryz.f3.resultTypes.toList.any fun x => Tryz.prog.ifacesRec x) = true := by kernel_rfl
theorem jf21 : (Rows.fnExactParseInsRow.loopsOut == Tryz.f3.resultTypes.toList.any fun x => Tryz.prog.loopsFrom x) = true := by kernel_rfl
theorem jf22 : (Rows.fnExactParseInsRow.plainKeys == Tryz.prog.plainKeys) = true := by kernel_rfl
theorem jf23 : Rows.fnExactParseInsRow.shortTexts.isNone = true := by kernel_rfl
theorem jf24 : Tryz.prog.stopsHeard = true := by kernel_rfl
theorem jf25 : Tryz.prog.mayEnter = true := by kernel_rfl
theorem jf26 : (Rows.fnExactParseInsRow.lifted == Tryz.prog.liftsFinal) = true := by kernel_rfl
theorem jf27 : (Tryz.prog.make == some Rows.fnExactParseInsRow.make) = true := by kernel_rfl
theorem jf28 : (Rows.fnExactParseInsRow.kinds == if Rows.fnExactParseInsRow.domain.isEmpty = true then [] else List.map (fun t => match Tryz.prog.underlying t with | some (TypeDesc.int k) => some k | x => none) Tryz.f3.params.toList) = true := by kernel_rfl
theorem jf29 : (Rows.fnExactParseInsRow.pinned == Rows.fnExactParseInsRow.pinnedBy) = true := by kernel_rfl
theorem jf30 : (Rows.fnExactParseInsRow.veiled == (Tryz.f3.params.toList ++ DataSpec.varTypes Tryz.prog Rows.fnExactParseInsSpec.plain ++ Tryz.f3.resultTypes.toList).any fun x => Tryz.prog.veiledRec x) = true := by kernel_rfl
theorem jf31 : Rows.fnExactParseInsRow.veiledFits Tryz.prog Tryz.f3.params.toList (Tryz.f3.params.toList ++ DataSpec.varTypes Tryz.prog Rows.fnExactParseInsSpec.plain ++ Tryz.f3.resultTypes.toList) = true := by kernel_rfl
set_option maxRecDepth 100000 in
theorem facts : joinedFacts Tryz.prog 3 Tryz.f3 Rows.fnExactParseInsSpec Rows.fnExactParseInsRow = true := by
  unfold joinedFacts
  simp only [Bool.and_eq_true]
  exact ⟨⟨⟨⟨⟨⟨⟨⟨⟨⟨⟨⟨⟨⟨⟨⟨⟨⟨⟨⟨⟨⟨⟨⟨⟨⟨⟨⟨⟨⟨⟨jf0, jf1⟩, jf2⟩, jf3⟩, jf4⟩, jf5⟩, jf6⟩, jf7⟩, jf8⟩, jf9⟩, jf10⟩, jf11⟩, jf12⟩, jf13⟩, jf14⟩, jf15⟩, jf16⟩, jf17⟩, jf18⟩, jf19⟩, jf20⟩, jf21⟩, jf22⟩, jf23⟩, jf24⟩, jf25⟩, jf26⟩, jf27⟩, jf28⟩, jf29⟩, jf30⟩, jf31⟩

theorem over : Rows.fnExactParseInsRow.holds Tryz.pinned (OpenSpec.ofChange Rows.fnExactParseInsSpec) :=
  OpenClaim.holds_of_wide 3 Tryz.f3 rfl rfl rfl rfl rfl rfl rfl ⟨rfl, rfl, rfl, rfl, rfl⟩ rfl rfl rfl rfl rfl (by kernel_rfl) Tryz.func3 facts
    (of_decide_eq_true (by kernel_rfl)) (by unfold Func.isWrapper; first | (rw [if_pos (by decide +kernel)]; kernel_rfl) | (rw [if_neg (by decide +kernel)]; exact ⟨rfl, rfl⟩))
    (fun os started H enc _ => lifted os started H enc)

theorem card : Rows.FnExactParseInsCardSaid :=
  Claim7.holds_tied_plain_at .later [] [.data, .data, .data, .sentinel, .sentinel] true (true, "df87fe94d82199341ca45ea79933a0852605dc05eadd5523ef0efd17742337eb") true
    over (fun _ h => by cases h) (by kernel_rfl) (fun _ h => by cases h) fnExactParseIns_row_tie rfl ⟨rfl, rfl⟩ (by kernel_rfl) rfl
    (fun f fn hf hfn => by
      obtain rfl : f = 3 := Option.some.inj ((show Tryz.prog.funcNamed "loop.example/s00119/laws.FnExactParseIns" = some 3 by kernel_rfl).symm.trans hf) |>.symm
      obtain rfl : fn = Tryz.f3 := (Option.some.inj (Tryz.func3.symm.trans hfn)).symm
      exact ⟨by kernel_rfl, fun j t ht => by
        rw [Tryz.params3] at ht
        have hm : t ∈ [22] := by simpa using Array.mem_of_getElem? ht
        have hall : ([22].all fun u => !Tryz.prog.wantsStandIn u) = true := by kernel_rfl
        exact (show Tryz.prog.wantsStandIn t = false by simpa using List.all_eq_true.1 hall t hm)⟩)
    (by kernel_rfl)
end Go.Proofs.YtngepdhhdbhglaaGreatDoor.fnExactParseIns
namespace Go.Proofs.YtngepdhhdbhglaaGreatDoor
theorem fnExactParseIns_holds : Rows.FnExactParseInsCardSaid := fnExactParseIns.card
#print axioms fnExactParseIns_holds
end Go.Proofs.YtngepdhhdbhglaaGreatDoor

