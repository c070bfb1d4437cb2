import Derived.Test.YtfaajmhmcdoibaaHqA
import Derived.Test.YtfaajmhmcdoibaaGn1
import Derived.Test.YtfaajmhmcdoibaaGs3
set_option linter.all false
set_option linter.unusedVariables false
namespace Go.Proofs.Ytfaajmhmcdoibaa
open Go.RowKit Go.Sort
set_option maxRecDepth 100000
/-- Only the block o has changed. -/
structure Ko (o : Option Nat) (w w' : World) : Prop where
  os : w'.os = w.os
  tape : w'.tape = w.tape
  output : w'.output = w.output
  size : w'.heap.size = w.heap.size
  block : ∀ q, o ≠ some q → w'.heap[q]? = w.heap[q]?
theorem Ko.refl (o : Option Nat) (w : World) : Ko o w w := ⟨rfl, rfl, rfl, rfl, fun _ _ => rfl⟩
theorem Ko.trans {o : Option Nat} {a b c : World} (h : Ko o a b) (k : Ko o b c) : Ko o a c :=
  ⟨k.os.trans h.os, k.tape.trans h.tape, k.output.trans h.output, k.size.trans h.size, fun q hq => (k.block q hq).trans (h.block q hq)⟩
theorem Ko.set {o : Option Nat} {g i : Nat} (w : World) (u : Value) (ho : o = some g) : Ko o w (w.setCell ⟨g, i, none⟩ u) :=
  ⟨rfl, rfl, rfl, by simp, fun q hq => Below.heap_setCell _ _ _ _ (fun e => hq (by rw [ho, show q = g from e]))⟩
theorem own_put {w : World} {B e sz n g cap i : Nat} {L : List Value} {u : Value} (h : w.ownsRow B e sz (.slice (some ⟨g, 0, none⟩) n cap) n L) (hi : i < n * sz) : (w.setCell ⟨g, i, none⟩ u).ownsRow B e sz (.slice (some ⟨g, 0, none⟩) n cap) n (L.set i u) := by
  have hlen := h.1
  have hcell := h.cellAt i hi
  obtain ⟨y, hy⟩ : ∃ y, L[i]? = some y := ⟨L[i]'(by omega), by simp⟩
  have hset : (w.setCell ⟨g, i, none⟩ u).cell? ⟨g, i, none⟩ = some u := set_same (hcell.trans hy)
  refine ⟨by simpa using hlen, ?_⟩
  rcases h.2 with ⟨h0, _⟩ | ⟨g', cap', cur, hv, hB, hh, h1, h2, h3, h4⟩
  · cases h0
  · injection hv with hv1 hv2 hv3
    injection hv1 with hv1
    injection hv1 with hv1
    subst hv1 hv3
    obtain ⟨cur', e1, e2, e3⟩ := (Ch.set (R := g) (ab := g) (lo := i) (hi := i + 1) (o := i) w u (Nat.le_refl _) (by omega)).row cur e hh
    refine .inr ⟨g, cap, cur', rfl, hB, e1, h1, h2, by rw [e2]; exact h3, ?_⟩
    have hcs : n * sz ≤ cur.size := by rw [h3]; exact Nat.mul_le_mul_right _ h1
    have hci : cur'[i]? = some u := by simpa [World.cell?, e1] using hset
    apply List.ext_getElem?
    intro j
    by_cases hj : j < n * sz
    · rw [List.getElem?_take, if_pos hj, Array.getElem?_toList]
      by_cases hji : j = i
      · subst hji
        rw [hci, List.getElem?_set_self (by omega)]
      · rw [e3 j (by omega), List.getElem?_set_ne (by omega)]
        have := congrArg (fun q => q[j]?) h4
        simp only [List.getElem?_take, hj, if_true, Array.getElem?_toList] at this
        exact this
    · rw [List.getElem?_eq_none (by simp; omega), List.getElem?_eq_none (by simp; omega)]
theorem set_at {α : Type} (X R : List α) (n t : Nat) (u : α) (hn : X.length = n) : (X ++ R).set (n + t) u = X ++ R.set t u := by
  rw [List.set_append_right _ _ (by omega)]
  congr 2
  omega
theorem set_at0 {α : Type} (X R : List α) (n : Nat) (u : α) (hn : X.length = n) : (X ++ R).set n u = X ++ R.set 0 u := set_at X R n 0 u hn
theorem mkW_succ (k : Int) (n : Nat) : mkW k (n + 1) = mkW k n ++ [k + (n : Int)] := by simp [mkW, List.range_succ]
theorem mkL_succ (k : Int) (n : Nat) : mkL k (n + 1) = mkL k n ++ [⟨k + 4 * (n : Int), k + 4 * (n : Int) + 1, k + 4 * (n : Int) + 1 + 1, (k + 4 * (n : Int) + 1 + 1 + 1) % 3 == 0⟩] := by simp [mkL, List.range_succ]
theorem drop_cons {α : Type} (z : α) (l : List α) (j : Nat) (h : j < l.length) : l.drop j = l.getD j z :: l.drop (j + 1) := by
  rw [List.drop_eq_getElem_cons h]; simp [List.getD, h]
theorem own_open {w : World} {B e sz : Nat} {a : Option Addr} {n c : Nat} {L : List Value} (h : w.ownsRow B e sz (.slice a n c) n L) (hn : 1 ≤ n) : ∃ g, a = some ⟨g, 0, none⟩ ∧ B ≤ g ∧ g < w.heap.size ∧ Ro w g (n * sz) := by
  obtain ⟨g, cap, hsl, h1, h2, h3⟩ := ownS_split h hn
  injection hsl with h4
  exact ⟨g, h4, h1, h2, h3⟩
set_option maxHeartbeats 4000000 in
theorem mW2_c (a : Option Addr) (n c : Nat) (ws : List Int) (hn : n = ws.length) (k0 : Int) (B : Nat) (w : World) (h : w.ownsRow B 85 1 (.slice a n c) n (ws.flatMap ceW)) (h0 : 0 ≤ k0) (h1 : k0 + n ≤ 100000000) :
    Calls Try.prog 31 #[.slice a n c, .int .i64 k0] w fun e w' => e = .returned (.int .i64 (k0 + n)) ∧ w'.ownsRow B 85 1 (.slice a n c) n ((mkW k0 n).flatMap ceW) ∧ Ko (Value.slice a n c).ownBlock w w' := by
  have HH := Hid.mk' h
  have HN := Hid.mk' hn
  clear h hn
  go_enter Try.func31, Try.ntmps31
  go_wp2
  go_loopw [1, 5] (fun q i wr => ∃ j : Nat, j ≤ n ∧ i = .int .i64 j ∧ q = .int .i64 (k0 + j) ∧ wr.ownsRow B 85 1 (.slice a n c) n ((mkW k0 j).flatMap ceW ++ (ws.drop j).flatMap ceW) ∧ Ko (Value.slice a n c).ownBlock w wr) (fun _ i _ => n - (intOf i).toNat)
  case atStart => exact ⟨0, Nat.zero_le _, rfl, by simp, by simpa [mkW] using HH.out, Ko.refl _ _⟩
  case round =>
    obtain ⟨j, hj, rfl, rfl, hown, hko⟩ := hrel
    clear HH
    by_cases hlt : j < n
    · have hji : (j : Int) < (n : Int) := by omega
      obtain ⟨g, rfl, hgB, hgl, hro⟩ := own_open hown (by omega)
      obtain ⟨u, hu⟩ := hro.cell (j := j) (by omega)
      have hz := hro.frozen j
      have HS : Hid ((wr.setCell ⟨g, j, none⟩ (.int .u64 (k0 + j))).ownsRow B 85 1 (.slice (some ⟨g, 0, none⟩) n c) n ((mkW k0 (j + 1)).flatMap ceW ++ (ws.drop (j + 1)).flatMap ceW) ∧ Ko (Value.slice (some ⟨g, 0, none⟩) n c).ownBlock w (wr.setCell ⟨g, j, none⟩ (.int .u64 (k0 + j)))) := by
        refine ⟨?_, hko.trans (Ko.set _ _ rfl)⟩
        have hp := own_put (i := j) (u := .int .u64 (k0 + j)) hown (by omega)
        have hl : ((mkW k0 j).flatMap ceW).length = j := by rw [ceW_len, mkW_len]; omega
        rw [drop_cons 0 ws j (by have := HN.out; omega), List.flatMap_cons] at hp
        have e := set_at0 ((mkW k0 j).flatMap ceW) (ceW (ws.getD j 0) ++ (ws.drop (j + 1)).flatMap ceW) j (.int .u64 (k0 + j)) hl
        rw [e] at hp
        rw [mkW_succ, List.flatMap_append, List.append_assoc]
        exact hp
      have hw : IntKind.i64.wrap (k0 + j + 1) = k0 + j + 1 := by rw [IntKind.wrap_i64]; omega
      have hwu : IntKind.u64.wrap (k0 + j) = k0 + j := by rw [IntKind.wrap_u64]; omega
      clear hown hko hro
      go_wp2
      go_roundw
      case rel => exact ⟨j + 1, by omega, by go_num, by go_num, HS.out⟩
      case measure => simp [intOf]; omega
    · have e : j = n := by omega
      subst e
      have HE : Hid (wr.ownsRow B 85 1 (.slice a j c) j ((mkW k0 j).flatMap ceW) ∧ Ko (Value.slice a j c).ownBlock w wr) := by
        refine ⟨?_, hko⟩
        rw [List.drop_of_length_le (by have := HN.out; omega)] at hown
        simpa using hown
      clear hown hko
      go_wp2
      go_ret
      exact ⟨rfl, HE.out⟩
set_option maxHeartbeats 8000000 in
theorem mL2_c (a : Option Addr) (n c : Nat) (ls : List Lab) (hn : n = ls.length) (k0 : Int) (B : Nat) (w : World) (h : w.ownsRow B 56 4 (.slice a n c) n (ls.flatMap ceL)) (h0 : 0 ≤ k0) (h1 : k0 + 4 * n ≤ 100000000) :
    Calls Try.prog 46 #[.slice a n c, .int .i64 k0] w fun e w' => e = .returned (.int .i64 (k0 + 4 * n)) ∧ w'.ownsRow B 56 4 (.slice a n c) n ((mkL k0 n).flatMap ceL) ∧ Ko (Value.slice a n c).ownBlock w w' := by
  have HH := Hid.mk' h
  have HN := Hid.mk' hn
  clear h hn
  go_enter Try.func46, Try.ntmps46
  go_wp2
  go_loopw [1, 5] (fun q i wr => ∃ j : Nat, j ≤ n ∧ i = .int .i64 j ∧ q = .int .i64 (k0 + 4 * j) ∧ wr.ownsRow B 56 4 (.slice a n c) n ((mkL k0 j).flatMap ceL ++ (ls.drop j).flatMap ceL) ∧ Ko (Value.slice a n c).ownBlock w wr) (fun _ i _ => n - (intOf i).toNat)
  case atStart => exact ⟨0, Nat.zero_le _, rfl, by simp, by simpa [mkL] using HH.out, Ko.refl _ _⟩
  case round =>
    obtain ⟨j, hj, rfl, rfl, hown, hko⟩ := hrel
    clear HH
    by_cases hlt : j < n
    · have hji : (j : Int) < (n : Int) := by omega
      obtain ⟨g, rfl, hgB, hgl, hro⟩ := own_open hown (by omega)
      have hl : ((mkL k0 j).flatMap ceL).length = j * 4 := by rw [ceL_len, mkL_len]
      rw [drop_cons Lab.z ls j (by have := HN.out; omega), List.flatMap_cons] at hown
      have HX : Hid ((mkL k0 (j + 1)).flatMap ceL ++ (ls.drop (j + 1)).flatMap ceL = (mkL k0 j).flatMap ceL ++ ([.int .i64 (k0 + 4 * j), .int .i64 (k0 + 4 * j + 1), .int .i64 (k0 + 4 * j + 1 + 1), .bool ((k0 + 4 * (j : Int) + 1 + 1 + 1) % 3 == 0)] ++ (ls.drop (j + 1)).flatMap ceL)) := by
        show _ = _
        rw [mkL_succ, List.flatMap_append, List.append_assoc]
        rfl
      generalize (mkL k0 j).flatMap ceL = X at *
      generalize hY : (ls.drop (j + 1)).flatMap ceL = Y at *
      have HY := Hid.mk' hY
      clear hY
      obtain ⟨⟨y0, y1, y2, y3⟩, hy⟩ : ∃ y, y = ls.getD j Lab.z := ⟨_, rfl⟩
      rw [← hy] at hown
      clear hy
      have HL := Hid.mk' hl
      have hb4 : 0 ≤ k0 + 4 * (j : Int) := by omega
      have hb5 : k0 + 4 * (j : Int) + 4 ≤ 100000000 := by omega
      have HJ := Hid.mk' hlt
      have hnb : n ≤ 100000000 := by omega
      clear hl hro h0 h1
      obtain ⟨u, hu⟩ := Ro.cell (w := wr) (ab := g) (n := n * 4) (j := j * 4) (by obtain ⟨g', e, _, _, hr⟩ := own_open hown (by omega); injection e with e; injection e with e; rw [e]; exact hr) (by have := HJ.out; omega)
      have hz := Ro.frozen (w := wr) (ab := g) (n := n * 4) (by obtain ⟨g', e, _, _, hr⟩ := own_open hown (by omega); injection e with e; injection e with e; rw [e]; exact hr) (j * 4)
      have HS : Hid ((wr.setCell ⟨g, j * 4, none⟩ (.int .i64 (k0 + 4 * j))).ownsRow B 56 4 (.slice (some ⟨g, 0, none⟩) n c) n (X ++ ([.int .i64 (k0 + 4 * j), .int .i64 y1, .int .i64 y2, .bool y3] ++ Y)) ∧ Ko (Value.slice (some ⟨g, 0, none⟩) n c).ownBlock w (wr.setCell ⟨g, j * 4, none⟩ (.int .i64 (k0 + 4 * j)))) := by
        refine ⟨?_, hko.trans (Ko.set _ _ rfl)⟩
        have hp := own_put (i := j * 4) (u := .int .i64 (k0 + 4 * j)) hown (by have := HJ.out; omega)
        have e := set_at0 X (ceL ⟨y0, y1, y2, y3⟩ ++ Y) (j * 4)  (.int .i64 (k0 + 4 * j)) HL.out
        rw [e] at hp
        exact hp
      have hw : IntKind.i64.wrap (k0 + 4 * (j : Int) + 1) = k0 + 4 * (j : Int) + 1 := by rw [IntKind.wrap_i64]; omega
      clear hown hko
      go_upto_region 5 with fail
      refine wp_gen (fun V => V.ownsRow B 56 4 (.slice (some ⟨g, 0, none⟩) n c) n (X ++ ([.int .i64 (k0 + 4 * j), .int .i64 y1, .int .i64 y2, .bool y3] ++ Y)) ∧ Ko (Value.slice (some ⟨g, 0, none⟩) n c).ownBlock w V) HS.out ?_
      rintro V0 ⟨hown, hko⟩
      clear HS hu hz u
      go_upto_region 6 with fail
      clear hw
      obtain ⟨u, hu⟩ := Ro.cell (w := V0) (ab := g) (n := n * 4) (j := j * 4 + 1) (by obtain ⟨g', e, _, _, hr⟩ := own_open hown (by omega); injection e with e; injection e with e; rw [e]; exact hr) (by have := HJ.out; omega)
      have hz := Ro.frozen (w := V0) (ab := g) (n := n * 4) (by obtain ⟨g', e, _, _, hr⟩ := own_open hown (by omega); injection e with e; injection e with e; rw [e]; exact hr) (j * 4 + 1)
      have HS : Hid ((V0.setCell ⟨g, j * 4 + 1, none⟩ (.int .i64 (k0 + 4 * j + 1))).ownsRow B 56 4 (.slice (some ⟨g, 0, none⟩) n c) n (X ++ ([.int .i64 (k0 + 4 * j), .int .i64 (k0 + 4 * j + 1), .int .i64 y2, .bool y3] ++ Y)) ∧ Ko (Value.slice (some ⟨g, 0, none⟩) n c).ownBlock w (V0.setCell ⟨g, j * 4 + 1, none⟩ (.int .i64 (k0 + 4 * j + 1)))) := by
        refine ⟨?_, hko.trans (Ko.set _ _ rfl)⟩
        have hp := own_put (i := j * 4 + 1) (u := .int .i64 (k0 + 4 * j + 1)) hown (by have := HJ.out; omega)
        have e := set_at X ([.int .i64 (k0 + 4 * j), .int .i64 y1, .int .i64 y2, .bool y3] ++ Y) (j * 4) 1 (.int .i64 (k0 + 4 * j + 1)) HL.out
        rw [e] at hp
        exact hp
      have hw : IntKind.i64.wrap (k0 + 4 * (j : Int) + 1 + 1) = k0 + 4 * (j : Int) + 1 + 1 := by rw [IntKind.wrap_i64]; omega
      clear hown hko
      go_upto_region 7 with fail
      refine wp_gen (fun V => V.ownsRow B 56 4 (.slice (some ⟨g, 0, none⟩) n c) n (X ++ ([.int .i64 (k0 + 4 * j), .int .i64 (k0 + 4 * j + 1), .int .i64 y2, .bool y3] ++ Y)) ∧ Ko (Value.slice (some ⟨g, 0, none⟩) n c).ownBlock w V) HS.out ?_
      rintro V1 ⟨hown, hko⟩
      clear HS hu hz u
      go_upto_region 8 with fail
      clear hw
      obtain ⟨u, hu⟩ := Ro.cell (w := V1) (ab := g) (n := n * 4) (j := j * 4 + 2) (by obtain ⟨g', e, _, _, hr⟩ := own_open hown (by omega); injection e with e; injection e with e; rw [e]; exact hr) (by have := HJ.out; omega)
      have hz := Ro.frozen (w := V1) (ab := g) (n := n * 4) (by obtain ⟨g', e, _, _, hr⟩ := own_open hown (by omega); injection e with e; injection e with e; rw [e]; exact hr) (j * 4 + 2)
      have HS : Hid ((V1.setCell ⟨g, j * 4 + 2, none⟩ (.int .i64 (k0 + 4 * j + 1 + 1))).ownsRow B 56 4 (.slice (some ⟨g, 0, none⟩) n c) n (X ++ ([.int .i64 (k0 + 4 * j), .int .i64 (k0 + 4 * j + 1), .int .i64 (k0 + 4 * j + 1 + 1), .bool y3] ++ Y)) ∧ Ko (Value.slice (some ⟨g, 0, none⟩) n c).ownBlock w (V1.setCell ⟨g, j * 4 + 2, none⟩ (.int .i64 (k0 + 4 * j + 1 + 1)))) := by
        refine ⟨?_, hko.trans (Ko.set _ _ rfl)⟩
        have hp := own_put (i := j * 4 + 2) (u := .int .i64 (k0 + 4 * j + 1 + 1)) hown (by have := HJ.out; omega)
        have e := set_at X ([.int .i64 (k0 + 4 * j), .int .i64 (k0 + 4 * j + 1), .int .i64 y2, .bool y3] ++ Y) (j * 4) 2 (.int .i64 (k0 + 4 * j + 1 + 1)) HL.out
        rw [e] at hp
        exact hp
      have hw : IntKind.i64.wrap (k0 + 4 * (j : Int) + 1 + 1 + 1) = k0 + 4 * (j : Int) + 1 + 1 + 1 := by rw [IntKind.wrap_i64]; omega
      clear hown hko
      go_upto_region 9 with fail
      refine wp_gen (fun V => V.ownsRow B 56 4 (.slice (some ⟨g, 0, none⟩) n c) n (X ++ ([.int .i64 (k0 + 4 * j), .int .i64 (k0 + 4 * j + 1), .int .i64 (k0 + 4 * j + 1 + 1), .bool y3] ++ Y)) ∧ Ko (Value.slice (some ⟨g, 0, none⟩) n c).ownBlock w V) HS.out ?_
      rintro V2 ⟨hown, hko⟩
      clear HS hu hz u
      go_upto_region 10 with fail
      clear hw
      obtain ⟨u, hu⟩ := Ro.cell (w := V2) (ab := g) (n := n * 4) (j := j * 4 + 3) (by obtain ⟨g', e, _, _, hr⟩ := own_open hown (by omega); injection e with e; injection e with e; rw [e]; exact hr) (by have := HJ.out; omega)
      have hz := Ro.frozen (w := V2) (ab := g) (n := n * 4) (by obtain ⟨g', e, _, _, hr⟩ := own_open hown (by omega); injection e with e; injection e with e; rw [e]; exact hr) (j * 4 + 3)
      have HS : Hid ((V2.setCell ⟨g, j * 4 + 3, none⟩ (.bool ((k0 + 4 * (j : Int) + 1 + 1 + 1) % 3 == 0))).ownsRow B 56 4 (.slice (some ⟨g, 0, none⟩) n c) n (X ++ ([.int .i64 (k0 + 4 * j), .int .i64 (k0 + 4 * j + 1), .int .i64 (k0 + 4 * j + 1 + 1), .bool ((k0 + 4 * (j : Int) + 1 + 1 + 1) % 3 == 0)] ++ Y)) ∧ Ko (Value.slice (some ⟨g, 0, none⟩) n c).ownBlock w (V2.setCell ⟨g, j * 4 + 3, none⟩ (.bool ((k0 + 4 * (j : Int) + 1 + 1 + 1) % 3 == 0)))) := by
        refine ⟨?_, hko.trans (Ko.set _ _ rfl)⟩
        have hp := own_put (i := j * 4 + 3) (u := .bool ((k0 + 4 * (j : Int) + 1 + 1 + 1) % 3 == 0)) hown (by have := HJ.out; omega)
        have e := set_at X ([.int .i64 (k0 + 4 * j), .int .i64 (k0 + 4 * j + 1), .int .i64 (k0 + 4 * j + 1 + 1), .bool y3] ++ Y) (j * 4) 3 (.bool ((k0 + 4 * (j : Int) + 1 + 1 + 1) % 3 == 0)) HL.out
        rw [e] at hp
        exact hp
      have hw : IntKind.i64.wrap (k0 + 4 * (j : Int) + 1 + 1 + 1 + 1) = k0 + 4 * (j : Int) + 1 + 1 + 1 + 1 := by rw [IntKind.wrap_i64]; omega
      clear hown hko
      go_upto_region 11 with fail
      refine wp_gen (fun V => V.ownsRow B 56 4 (.slice (some ⟨g, 0, none⟩) n c) n (X ++ ([.int .i64 (k0 + 4 * j), .int .i64 (k0 + 4 * j + 1), .int .i64 (k0 + 4 * j + 1 + 1), .bool ((k0 + 4 * (j : Int) + 1 + 1 + 1) % 3 == 0)] ++ Y)) ∧ Ko (Value.slice (some ⟨g, 0, none⟩) n c).ownBlock w V) HS.out ?_
      rintro V3 ⟨hown, hko⟩
      clear HS hu hz u
      go_upto_region 3 with fail
      clear hw
      have HF := Hid.mk' (And.intro hown hko)
      rw [← HX.out, ← HY.out] at HF
      clear hown hko HX HL
      go_wp2
      go_roundw
      case rel => exact ⟨j + 1, by omega, by go_num, by go_num, HF.out⟩
      case measure => simp [intOf]; omega
    · have e : j = n := by omega
      subst e
      have HE : Hid (wr.ownsRow B 56 4 (.slice a j c) j ((mkL k0 j).flatMap ceL) ∧ Ko (Value.slice a j c).ownBlock w wr) := by
        refine ⟨?_, hko⟩
        rw [List.drop_of_length_le (by have := HN.out; omega)] at hown
        simpa using hown
      clear hown hko
      go_wp2
      go_ret
      exact ⟨rfl, HE.out⟩
end Go.Proofs.Ytfaajmhmcdoibaa

set_option linter.all false
set_option linter.unusedVariables false
namespace Go.Proofs.Ytfaajmhmcdoibaa
open Go.RowKit Go.Sort
set_option maxRecDepth 100000
/-- A frame as it is marked from k on, and how many numbers that takes. -/
def mkFr (k : Int) (x : Frm) : Frm := ⟨k, k + 1, mkW (k + 1 + 1) x.loc.length, k + 1 + 1 + x.loc.length, mkL (k + 1 + 1 + x.loc.length + 1) x.labs.length⟩
def szF (x : Frm) : Nat := 3 + x.loc.length + 4 * x.labs.length
def mkFs (k : Int) : List Frm → List Frm
  | [] => []
  | x :: xs => mkFr k x :: mkFs (k + szF x) xs
theorem mkFs_snoc (xs : List Frm) (x : Frm) : ∀ k : Int, mkFs k (xs ++ [x]) = mkFs k xs ++ [mkFr (k + ((xs.map szF).sum : Nat)) x] := by
  induction xs with
  | nil => intro k; simp [mkFs]
  | cons y ys ih =>
    intro k
    simp only [List.cons_append, mkFs, ih, List.map_cons, List.sum_cons]
    rw [show k + ((szF y : Nat) : Int) + (((ys.map szF).sum : Nat) : Int) = k + ((szF y + (ys.map szF).sum : Nat) : Int) by omega]
theorem mkFs_len (xs : List Frm) : ∀ k : Int, (mkFs k xs).length = xs.length := by
  induction xs with
  | nil => intro k; rfl
  | cons y ys ih => intro k; simp [mkFs, ih]
def mkT (k : Int) (p : Frm × Value × Value) : Frm × Value × Value := (mkFr k p.1, p.2)
def mkTs (k : Int) : List (Frm × Value × Value) → List (Frm × Value × Value)
  | [] => []
  | x :: xs => mkT k x :: mkTs (k + szF x.1) xs
def szT (xs : List (Frm × Value × Value)) : Nat := (xs.map fun p => szF p.1).sum
theorem mkTs_snoc (xs : List (Frm × Value × Value)) (x : Frm × Value × Value) : ∀ k : Int, mkTs k (xs ++ [x]) = mkTs k xs ++ [mkT (k + (szT xs : Nat)) x] := by
  induction xs with
  | nil => intro k; simp [mkTs, szT]
  | cons y ys ih =>
    intro k
    simp only [List.cons_append, mkTs, ih, szT, List.map_cons, List.sum_cons]
    rw [show k + ((szF y.1 : Nat) : Int) + (((ys.map fun p => szF p.1).sum : Nat) : Int) = k + ((szF y.1 + (ys.map fun p => szF p.1).sum : Nat) : Int) by omega]
theorem mkTs_len (xs : List (Frm × Value × Value)) : ∀ k : Int, (mkTs k xs).length = xs.length := by
  induction xs with
  | nil => intro k; rfl
  | cons y ys ih => intro k; simp [mkTs, ih]
theorem mkTs_map (xs : List (Frm × Value × Value)) : ∀ k : Int, (mkTs k xs).map (·.1) = mkFs k (xs.map (·.1)) := by
  induction xs with
  | nil => intro k; rfl
  | cons y ys ih => intro k; simp [mkTs, mkFs, mkT, ih]
theorem szT_snoc (xs : List (Frm × Value × Value)) (x : Frm × Value × Value) : szT (xs ++ [x]) = szT xs + szF x.1 := by simp [szT]
theorem mkW_rg (k : Int) (n : Nat) (h0 : 0 ≤ k) (h1 : k + n ≤ 100000000) : ∀ y ∈ mkW k n, 0 ≤ y ∧ y ≤ 18446744073709551615 := by
  intro y hy
  simp only [mkW, List.mem_map, List.mem_range] at hy
  obtain ⟨i, hi, rfl⟩ := hy
  omega
/-- One frame of many, and how to put another in its place. -/
theorem fs_zip {W : World} {B : Nat} {vb : Option Nat} {X Y : List (Frm × Value × Value)} {p : Frm × Value × Value} (h : FsI W B vb (X ++ p :: Y)) :
    ∃ A M C, FrH W A M C p.1 p.2.1 p.2.2 ∧ (∀ q, (p.2.1.ownBlock = some q ∨ p.2.2.ownBlock = some q) → B ≤ q ∧ vb ≠ some q) ∧ ∀ (W2 : World) (p' : Frm × Value × Value), p'.2 = p.2 → W.heap.size ≤ W2.heap.size → (∀ q, q < W.heap.size → vb ≠ some q → p.2.1.ownBlock ≠ some q → p.2.2.ownBlock ≠ some q → W2.heap[q]? = W.heap[q]?) → FrH W2 A M C p'.1 p'.2.1 p'.2.2 → (∀ y ∈ p'.1.loc, 0 ≤ y ∧ y ≤ 18446744073709551615) → FsI W2 B vb (X ++ p' :: Y) := by
  obtain ⟨bd, b1, b2, b3⟩ := h
  have hlen : (X ++ p :: Y).length = X.length + 1 + Y.length := by simp; omega
  have hat : ∀ r : Frm × Value × Value, (X ++ r :: Y).getD X.length zF = r := fun r => by simp [List.getD]
  have hoth : ∀ (r : Frm × Value × Value) i, i ≠ X.length → (X ++ r :: Y).getD i zF = (X ++ p :: Y).getD i zF := fun r i hi => by
    rcases Nat.lt_or_ge i X.length with h1 | h1
    · simp [List.getD, List.getElem?_append, h1]
    · have e : i - X.length = (i - X.length - 1) + 1 := by omega
      simp only [List.getD, List.getElem?_append, show ¬ i < X.length by omega, if_false]
      rw [e, List.getElem?_cons_succ, List.getElem?_cons_succ]
  obtain ⟨M, h1, h2, h3⟩ := b3 X.length (by omega)
  rw [hat] at h1 h2 h3
  have mono1 : ∀ i, i < (X ++ p :: Y).length → bd i ≤ bd (i + 1) := fun i hi => by
    obtain ⟨M', g1, _, _⟩ := b3 i hi
    have := g1.2.2.2.2.1
    have := g1.2.2.2.2.2.1
    omega
  have mono : ∀ d i, i + d ≤ (X ++ p :: Y).length → bd i ≤ bd (i + d) := by
    intro d
    induction d with
    | zero => intro i _; exact Nat.le_refl _
    | succ d ih =>
      intro i hi
      have g1 := ih i (by omega)
      have g2 := mono1 (i + d) (by omega)
      rw [show i + (d + 1) = i + d + 1 by omega]
      omega
  have hin : ∀ i, i < (X ++ p :: Y).length → ∀ q, (((X ++ p :: Y).getD i zF).2.1.ownBlock = some q ∨ ((X ++ p :: Y).getD i zF).2.2.ownBlock = some q) → bd i ≤ q ∧ q < bd (i + 1) := fun i hi q hq => by
    obtain ⟨M', g1, _, _⟩ := b3 i hi
    obtain ⟨k1, k2, k3, k4, k5, k6, k7⟩ := g1
    rcases hq with hq | hq
    · have := (k1.lt q hq).1; have := k3 q hq; omega
    · have := (k2.lt q hq).1; have := k4 q hq; omega
  refine ⟨bd X.length, M, bd (X.length + 1), h1, h2, fun W2 p' e hs hk hf hr => ⟨bd, b1, by simp only [List.length_append, List.length_cons] at b2 ⊢; omega, fun i hi => ?_⟩⟩
  have hi' : i < (X ++ p :: Y).length := by simpa using hi
  by_cases hix : i = X.length
  · subst hix
    rw [hat]
    exact ⟨M, hf, by rw [e]; exact h2, hr⟩
  · rw [hoth p' i hix]
    obtain ⟨M', g1, g2, g3⟩ := b3 i hi'
    refine ⟨M', g1.keep hs (fun q hq hqC => hk q (by have := g1.2.2.2.2.2.2; omega) (g2 q hq).2 ?_ ?_), g2, g3⟩
    all_goals
      intro hpq
      have a1 := hin i hi' q hq
      have a2 := hin X.length (by omega) q (by rw [hat]; first | exact .inl hpq | exact .inr hpq)
      rcases Nat.lt_or_ge i X.length with c1 | c1
      · have := mono (X.length - (i + 1)) (i + 1) (by omega)
        rw [show i + 1 + (X.length - (i + 1)) = X.length by omega] at this
        omega
      · have := mono (i - (X.length + 1)) (X.length + 1) (by omega)
        rw [show X.length + 1 + (i - (X.length + 1)) = i by omega] at this
        omega
theorem FrH.mark {W W2 : World} {A M C : Nat} {x : Frm} {v1 v2 : Value} {k : Int} (h : FrH W A M C x v1 v2) (hs : W.heap.size ≤ W2.heap.size) (h1 : W2.ownsRow A 85 1 v1 x.loc.length ((mkW (k + 1 + 1) x.loc.length).flatMap ceW)) (h2 : W2.ownsRow M 56 4 v2 x.labs.length ((mkL (k + 1 + 1 + x.loc.length + 1) x.labs.length).flatMap ceL)) : FrH W2 A M C (mkFr k x) v1 v2 := by
  obtain ⟨k1, k2, k3, k4, k5, k6, k7⟩ := h
  refine ⟨?_, ?_, k3, k4, k5, k6, by omega⟩
  · simpa [mkFr, mkW_len] using h1
  · simpa [mkFr, mkL_len] using h2
end Go.Proofs.Ytfaajmhmcdoibaa

set_option linter.all false
set_option linter.unusedVariables false
namespace Go.Proofs.Ytfaajmhmcdoibaa
open Go.RowKit Go.Sort
set_option maxRecDepth 100000
/-- A frame in the middle of its marking. -/
structure Mf (wr : World) (B A M g n c : Nat) (XF YF cells : List Value) (v1 v2 : Value) (o1 : List Int) (o2 : List Lab) (V : World) : Prop where
  row : V.ownsRow B 54 5 (.slice (some ⟨g, 0, none⟩) n c) n (XF ++ (cells ++ YF))
  w1 : V.ownsRow A 85 1 v1 o1.length (o1.flatMap ceW)
  w2 : V.ownsRow M 56 4 v2 o2.length (o2.flatMap ceL)
  kq : Kq (fun k => k = g ∨ v1.ownBlock = some k ∨ v2.ownBlock = some k) wr V
  n1 : v1.ownBlock ≠ some g
  n2 : v2.ownBlock ≠ some g
  n3 : ∀ q, v1.ownBlock = some q → v2.ownBlock ≠ some q
theorem Mf.ro {wr : World} {B A M g n c : Nat} {XF YF cells : List Value} {v1 v2 : Value} {o1 : List Int} {o2 : List Lab} {V : World} (h : Mf wr B A M g n c XF YF cells v1 v2 o1 o2 V) (hn : 1 ≤ n) : Ro V g (n * 5) := by
  obtain ⟨g', e, _, _, hr⟩ := own_open h.row hn
  injection e with e
  injection e with e
  rw [e]; exact hr
theorem Mf.put {wr : World} {B A M g n c : Nat} {XF YF cells : List Value} {v1 v2 : Value} {o1 : List Int} {o2 : List Lab} {V : World} (h : Mf wr B A M g n c XF YF cells v1 v2 o1 o2 V) (j t : Nat) (u : Value) (hX : XF.length = j * 5) (ht : t < 5) (hj : j < n) (hc : cells.length = 5) : Mf wr B A M g n c XF YF (cells.set t u) v1 v2 o1 o2 (V.setCell ⟨g, j * 5 + t, none⟩ u) := by
  refine ⟨?_, ownS_set h.w1 h.n1, ownS_set h.w2 h.n2, h.kq.trans (Kq.set _ _ (.inl rfl)), h.n1, h.n2, h.n3⟩
  have hp := own_put (i := j * 5 + t) (u := u) h.row (by omega)
  rw [set_at XF (cells ++ YF) (j * 5) t u hX, List.set_append_left _ _ (by omega)] at hp
  exact hp
theorem Mf.mark1 {wr : World} {B A M g n c : Nat} {XF YF cells : List Value} {v1 v2 : Value} {o1 o1' : List Int} {o2 : List Lab} {V V' : World} (h : Mf wr B A M g n c XF YF cells v1 v2 o1 o2 V) (hk : Ko v1.ownBlock V V') (ho : V'.ownsRow A 85 1 v1 o1'.length (o1'.flatMap ceW)) : Mf wr B A M g n c XF YF cells v1 v2 o1' o2 V' := by
  refine ⟨ownS_of h.row (fun q hq => hk.block q (fun e => h.n1 (by have e' : g = q := (by simpa [Value.ownBlock] using hq); rw [e']; exact e))), ho, ownS_of h.w2 (fun q hq => hk.block q (fun e => h.n3 q e hq)), ⟨hk.os.trans h.kq.os, hk.tape.trans h.kq.tape, hk.output.trans h.kq.output, by have := h.kq.size; have := hk.size; omega, fun q hq hn => (hk.block q (fun e => hn (.inr (.inl e)))).trans (h.kq.block q hq hn)⟩, h.n1, h.n2, h.n3⟩
theorem Mf.mark2 {wr : World} {B A M g n c : Nat} {XF YF cells : List Value} {v1 v2 : Value} {o1 : List Int} {o2 o2' : List Lab} {V V' : World} (h : Mf wr B A M g n c XF YF cells v1 v2 o1 o2 V) (hk : Ko v2.ownBlock V V') (ho : V'.ownsRow M 56 4 v2 o2'.length (o2'.flatMap ceL)) : Mf wr B A M g n c XF YF cells v1 v2 o1 o2' V' := by
  refine ⟨ownS_of h.row (fun q hq => hk.block q (fun e => h.n2 (by have e' : g = q := (by simpa [Value.ownBlock] using hq); rw [e']; exact e))), ownS_of h.w1 (fun q hq => hk.block q (fun e => h.n3 q hq e)), ho, ⟨hk.os.trans h.kq.os, hk.tape.trans h.kq.tape, hk.output.trans h.kq.output, by have := h.kq.size; have := hk.size; omega, fun q hq hn => (hk.block q (fun e => hn (.inr (.inr e)))).trans (h.kq.block q hq hn)⟩, h.n1, h.n2, h.n3⟩
/-- The blocks of a row of frames and of what hangs on them. -/
def SF (v : Value) (xs : List (Frm × Value × Value)) (q : Nat) : Prop := v.ownBlock = some q ∨ ∃ p ∈ xs, p.2.1.ownBlock = some q ∨ p.2.2.ownBlock = some q
/-- While frames are marked. -/
def MfI (w : World) (B : Nat) (a : Option Addr) (n c : Nat) (k0 : Int) (xs : List (Frm × Value × Value)) (j : Nat) (W : World) : Prop := W.ownsRow B 54 5 (.slice a n c) n ((mkTs k0 (xs.take j)).flatMap ceF ++ (xs.drop j).flatMap ceF) ∧ FsI W B (Value.slice a n c).ownBlock (mkTs k0 (xs.take j) ++ xs.drop j) ∧ Kq (SF (.slice a n c) xs) w W
theorem mf_start {w wr : World} {B g n c j : Nat} {k0 : Int} {xs : List (Frm × Value × Value)} (hI : MfI w B (some ⟨g, 0, none⟩) n c k0 xs j wr) (hn : n = xs.length) (hj : j < n) :
    ∃ x a1 c1 a2 c2 A M XF YF, XF.length = j * 5 ∧ szT (xs.take (j + 1)) = szT (xs.take j) + szF x ∧ Mf wr B A M g n c XF YF [.int .i64 x.fn, .int .i64 x.pc, .slice a1 x.loc.length c1, .int .i64 x.ht, .slice a2 x.labs.length c2] (.slice a1 x.loc.length c1) (.slice a2 x.labs.length c2) x.loc x.labs wr ∧ ∀ V, Mf wr B A M g n c XF YF [.int .i64 (k0 + szT (xs.take j)), .int .i64 (k0 + szT (xs.take j) + 1), .slice a1 x.loc.length c1, .int .i64 (k0 + szT (xs.take j) + 1 + 1 + x.loc.length), .slice a2 x.labs.length c2] (.slice a1 x.loc.length c1) (.slice a2 x.labs.length c2) (mkW (k0 + szT (xs.take j) + 1 + 1) x.loc.length) (mkL (k0 + szT (xs.take j) + 1 + 1 + x.loc.length + 1) x.labs.length) V → 0 ≤ k0 → k0 + szT (xs.take (j + 1)) ≤ 100000000 → MfI w B (some ⟨g, 0, none⟩) n c k0 xs (j + 1) V := by
  obtain ⟨hown, hfs, hbl⟩ := hI
  obtain ⟨⟨x, v1, v2⟩, hp⟩ : ∃ p, p = xs.getD j zF := ⟨_, rfl⟩
  have hd : xs.drop j = (x, v1, v2) :: xs.drop (j + 1) := by rw [hp]; exact drop_cons zF xs j (by omega)
  have ht : xs.take (j + 1) = xs.take j ++ [(x, v1, v2)] := by rw [hp]; exact take_snoc zF xs j (by omega)
  rw [hd] at hown hfs
  rw [List.flatMap_cons] at hown
  obtain ⟨A, M, C, hfh, hq, hz⟩ := fs_zip hfs
  simp only at hfh hq hz
  obtain ⟨a1, c1, rfl⟩ := ownS_slice hfh.1
  obtain ⟨a2, c2, rfl⟩ := ownS_slice hfh.2.1
  have hvb : (Value.slice (some ⟨g, 0, none⟩) n c).ownBlock = some g := rfl
  rw [hvb] at hq hz
  have n1 : (Value.slice a1 x.loc.length c1).ownBlock ≠ some g := fun e => (hq g (.inl e)).2 rfl
  have n2 : (Value.slice a2 x.labs.length c2).ownBlock ≠ some g := fun e => (hq g (.inr e)).2 rfl
  have n3 : ∀ q, (Value.slice a1 x.loc.length c1).ownBlock = some q → (Value.slice a2 x.labs.length c2).ownBlock ≠ some q := fun q h1 h2 => by
    have := hfh.2.2.1 q h1
    have := (hfh.2.1.lt q h2).1
    omega
  have hXl : ((mkTs k0 (xs.take j)).flatMap ceF).length = j * 5 := by
    rw [ceF_len, mkTs_len, List.length_take, Nat.min_eq_left (by omega)]
  refine ⟨x, a1, c1, a2, c2, A, M, (mkTs k0 (xs.take j)).flatMap ceF, (xs.drop (j + 1)).flatMap ceF, hXl, by rw [ht, szT_snoc], ⟨hown, hfh.1, hfh.2.1, Kq.refl _ _, n1, n2, n3⟩, fun V hV hk0 hk1 => ?_⟩
  have hs := hV.kq.size
  rw [ht, szT_snoc] at hk1
  simp only [szF] at hk1
  refine ⟨?_, ?_, ?_⟩
  · rw [ht, mkTs_snoc, List.flatMap_append, List.append_assoc]
    have := hV.row
    simpa [mkT, mkFr, ceF] using this
  · rw [ht, mkTs_snoc, List.append_assoc]
    refine hz V (mkT (k0 + szT (xs.take j)) (x, .slice a1 x.loc.length c1, .slice a2 x.labs.length c2)) rfl hs (fun q hq1 hq2 hq3 hq4 => hV.kq.block q hq1 (fun h => ?_)) ?_ ?_
    · rcases h with h | h | h
      · exact hq2 (by rw [h])
      · exact hq3 h
      · exact hq4 h
    · refine hfh.mark hs ?_ ?_
      · have := hV.w1; rw [mkW_len] at this; exact this
      · have := hV.w2; rw [mkL_len] at this; exact this
    · show ∀ y ∈ mkW (k0 + szT (xs.take j) + 1 + 1) x.loc.length, _
      exact mkW_rg _ _ (by omega) (by omega)
  · have hmem : (x, Value.slice a1 x.loc.length c1, Value.slice a2 x.labs.length c2) ∈ xs := by
      rw [hp, List.getD_eq_getElem?_getD, List.getElem?_eq_getElem (by omega)]; exact List.getElem_mem _
    refine hbl.tail hV.kq (fun q h => .inl ?_)
    rcases h with h | h | h
    · exact .inl (by rw [h]; rfl)
    · exact .inr ⟨_, hmem, .inl h⟩
    · exact .inr ⟨_, hmem, .inr h⟩
set_option maxHeartbeats 16000000 in
theorem mF2_c (a : Option Addr) (n c : Nat) (xs : List (Frm × Value × Value)) (hn : n = xs.length) (k0 : Int) (B : Nat) (w : World) (h : w.ownsRow B 54 5 (.slice a n c) n (xs.flatMap ceF)) (hf : FsI w B (Value.slice a n c).ownBlock xs) (h0 : 0 ≤ k0) (h1 : k0 + szT xs ≤ 100000000) (hnb : n ≤ 100000000) :
    Calls Try.prog 32 #[.slice a n c, .int .i64 k0] w fun e w' => e = .returned (.int .i64 (k0 + szT xs)) ∧ w'.ownsRow B 54 5 (.slice a n c) n ((mkTs k0 xs).flatMap ceF) ∧ FsI w' B (Value.slice a n c).ownBlock (mkTs k0 xs) ∧ Kq (SF (.slice a n c) xs) w w' := by
  have HST : Hid (MfI w B a n c k0 xs 0 w) := ⟨by simpa [mkTs] using h, by simpa [mkTs] using hf, Kq.refl _ _⟩
  have HN := Hid.mk' hn
  have HB := Hid.mk' (And.intro h0 h1)
  clear h hf h0 h1 hn
  go_enter Try.func32, Try.ntmps32
  go_wp2
  go_loopw [1, 5] (fun q i wr => ∃ (j : Nat) (kk : Int), j ≤ n ∧ i = .int .i64 j ∧ q = .int .i64 kk ∧ kk = k0 + szT (xs.take j) ∧ MfI w B a n c k0 xs j wr) (fun _ i _ => n - (intOf i).toNat)
  case atStart => exact ⟨0, k0, Nat.zero_le _, rfl, rfl, by simp [szT], HST.out⟩
  case round =>
    obtain ⟨j, kk, hj, rfl, rfl, hkk, hI⟩ := hrel
    clear HST
    by_cases hlt : j < n
    · have hji : (j : Int) < (n : Int) := by omega
      obtain ⟨g, rfl, hgB, hgl, -⟩ := own_open hI.1 (by omega)
      obtain ⟨x, a1, c1, a2, c2, A, M, XF, YF, hX, hsz, hM, hend⟩ := mf_start hI HN.out hlt
      have hle : szT (xs.take (j + 1)) ≤ szT xs := by
        have := sumk_le (fun p : Frm × Value × Value => szF p.1) xs (j + 1)
        exact this
      have hB := HB.out
      have hk2 : kk + szF x ≤ 100000000 := by rw [hkk]; omega
      have hk3 : 0 ≤ kk := by rw [hkk]; omega
      rw [← hkk] at hend
      have HEND : Hid (∀ V, Mf wr B A M g n c XF YF [.int .i64 kk, .int .i64 (kk + 1), .slice a1 x.loc.length c1, .int .i64 (kk + 1 + 1 + x.loc.length), .slice a2 x.labs.length c2] (.slice a1 x.loc.length c1) (.slice a2 x.labs.length c2) (mkW (kk + 1 + 1) x.loc.length) (mkL (kk + 1 + 1 + x.loc.length + 1) x.labs.length) V → kk + 1 + 1 + x.loc.length + 1 + 4 * x.labs.length = k0 + szT (xs.take (j + 1)) ∧ MfI w B (some ⟨g, 0, none⟩) n c k0 xs (j + 1) V) := fun V hV => ⟨by rw [hsz, hkk]; simp only [szF]; omega, hend V hV hB.1 (by omega)⟩
      simp only [szF] at hk2
      have HX := Hid.mk' hX
      have HJ := Hid.mk' hlt
      have HM := Hid.mk' hM
      clear hX hM hend hsz hle hB hkk hI HB HN
      obtain ⟨fn, pc, loc, ht, labs⟩ := x
      dsimp only at *
      obtain ⟨m1, hm1⟩ : ∃ m, m = loc.length := ⟨_, rfl⟩
      obtain ⟨m2, hm2⟩ : ∃ m, m = labs.length := ⟨_, rfl⟩
      rw [← hm1] at hk2 HEND HM
      rw [← hm2] at hk2 HEND HM
      have HM1 := Hid.mk' hm1
      have HM2 := Hid.mk' hm2
      clear hm1 hm2
      obtain ⟨u, hu⟩ := (HM.out.ro (by have := HJ.out; omega)).cell (j := j * 5) (by have := HJ.out; omega)
      have hz := (HM.out.ro (by have := HJ.out; omega)).frozen (j * 5)
      have HS := Hid.mk' (HM.out.put j 0 (.int .i64 kk) HX.out (by omega) HJ.out rfl)
      clear HM
      go_upto_region 5 with fail
      refine wp_gen (fun V => Mf wr B A M g n c XF YF [.int .i64 kk, .int .i64 pc, .slice a1 m1 c1, .int .i64 ht, .slice a2 m2 c2] (.slice a1 m1 c1) (.slice a2 m2 c2) loc labs V) HS.out ?_
      rintro V0 hM
      have HM := Hid.mk' hM
      clear hM HS hu hz u
      have hw : IntKind.i64.wrap (kk + 1) = kk + 1 := by rw [IntKind.wrap_i64]; omega
      go_upto_region 6 with fail
      clear hw
      obtain ⟨u, hu⟩ := (HM.out.ro (by have := HJ.out; omega)).cell (j := j * 5 + 1) (by have := HJ.out; omega)
      have hz := (HM.out.ro (by have := HJ.out; omega)).frozen (j * 5 + 1)
      have HS := Hid.mk' (HM.out.put j 1 (.int .i64 (kk + 1)) HX.out (by omega) HJ.out rfl)
      clear HM
      go_upto_region 7 with fail
      refine wp_gen (fun V => Mf wr B A M g n c XF YF [.int .i64 kk, .int .i64 (kk + 1), .slice a1 m1 c1, .int .i64 ht, .slice a2 m2 c2] (.slice a1 m1 c1) (.slice a2 m2 c2) loc labs V) HS.out ?_
      rintro V1 hM
      have HM := Hid.mk' hM
      clear hM HS hu hz u
      have hw : IntKind.i64.wrap (kk + 1 + 1) = kk + 1 + 1 := by rw [IntKind.wrap_i64]; omega
      go_upto_region 8 with fail
      clear hw
      have hq2 : V1.cell? ⟨g, j * 5 + 2, none⟩ = some (.slice a1 m1 c1) := by
        have := HM.out.row.cellAt (j * 5 + 2) (by have := HJ.out; omega)
        rw [List.getElem?_append_right (by rw [HX.out]; omega), HX.out, show j * 5 + 2 - j * 5 = 2 by omega] at this
        exact this
      have KC := Hid.mk' (mW2_c a1 m1 c1 loc HM1.out (kk + 1 + 1) A V1 (by have := HM.out.w1; rw [← HM1.out] at this; exact this) (by omega) (by omega))
      go_wp2_with fail
      refine KC.out.mono ?_
      rintro e V2 ⟨rfl, ho, hk⟩
      have HM' := Hid.mk' (HM.out.mark1 (o1' := mkW (kk + 1 + 1) m1) hk (by rw [mkW_len]; exact ho))
      clear ho hk KC hq2 HM
      have HM := HM'
      clear HM'
      go_upto_region 9 with fail
      obtain ⟨u, hu⟩ := (HM.out.ro (by have := HJ.out; omega)).cell (j := j * 5 + 3) (by have := HJ.out; omega)
      have hz := (HM.out.ro (by have := HJ.out; omega)).frozen (j * 5 + 3)
      have HS := Hid.mk' (HM.out.put j 3 (.int .i64 (kk + 1 + 1 + m1)) HX.out (by omega) HJ.out rfl)
      clear HM
      go_upto_region 10 with fail
      refine wp_gen (fun V => Mf wr B A M g n c XF YF [.int .i64 kk, .int .i64 (kk + 1), .slice a1 m1 c1, .int .i64 (kk + 1 + 1 + m1), .slice a2 m2 c2] (.slice a1 m1 c1) (.slice a2 m2 c2) (mkW (kk + 1 + 1) m1) labs V) HS.out ?_
      rintro V3 hM
      have HM := Hid.mk' hM
      clear hM HS hu hz u
      have hw : IntKind.i64.wrap (kk + 1 + 1 + m1 + 1) = kk + 1 + 1 + m1 + 1 := by rw [IntKind.wrap_i64]; omega
      go_upto_region 11 with fail
      clear hw
      have hq2 : V3.cell? ⟨g, j * 5 + 4, none⟩ = some (.slice a2 m2 c2) := by
        have := HM.out.row.cellAt (j * 5 + 4) (by have := HJ.out; omega)
        rw [List.getElem?_append_right (by rw [HX.out]; omega), HX.out, show j * 5 + 4 - j * 5 = 4 by omega] at this
        exact this
      have KC := Hid.mk' (mL2_c a2 m2 c2 labs HM2.out (kk + 1 + 1 + m1 + 1) M V3 (by have := HM.out.w2; rw [← HM2.out] at this; exact this) (by omega) (by omega))
      go_wp2_with fail
      refine KC.out.mono ?_
      rintro e V4 ⟨rfl, ho, hk⟩
      have HM' := Hid.mk' (HM.out.mark2 (o2' := mkL (kk + 1 + 1 + m1 + 1) m2) hk (by rw [mkL_len]; exact ho))
      have HE := Hid.mk' (HEND.out V4 HM'.out)
      clear ho hk KC hq2 HM HM' HEND
      go_wp2
      go_roundw
      case rel => exact ⟨j + 1, _, by omega, by go_num, rfl, HE.out⟩
      case measure => simp [intOf]; omega
    · have e : j = n := by omega
      subst e
      have HE : Hid (kk = k0 + szT xs ∧ wr.ownsRow B 54 5 (.slice a j c) j ((mkTs k0 xs).flatMap ceF) ∧ FsI wr B (Value.slice a j c).ownBlock (mkTs k0 xs) ∧ Kq (SF (.slice a j c) xs) w wr) := by
        obtain ⟨g1, g2, g3⟩ := hI
        have hN := HN.out
        rw [List.drop_of_length_le (by omega), List.take_of_length_le (by omega)] at g1 g2
        rw [List.take_of_length_le (by omega)] at hkk
        exact ⟨hkk, by simpa using g1, by simpa using g2, g3⟩
      clear hI hkk
      obtain ⟨rfl, hE2⟩ := HE.out
      have HE2 := Hid.mk' hE2
      clear HE hE2
      go_wp2
      go_ret
      exact ⟨rfl, HE2.out⟩
end Go.Proofs.Ytfaajmhmcdoibaa
