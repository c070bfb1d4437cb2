import Derived.Test.YtfaajmhmcdoibaaGs1
set_option linter.all false
set_option linter.unusedVariables false
namespace Go.Proofs.Ytfaajmhmcdoibaa
open Go.RowKit Go.Sort
set_option maxRecDepth 100000
theorem LI.stopped {l l1 : List Int} {b : Bool} {n : Int} {xs : List Int} (h : LI (fx 8) okW (fun _ => 0) 0 l b n xs l1 false) (hlt : (xs.length : Int) < n) (h8 : l1.length < 8) : LI (fx 8) okW (fun _ => 0) 0 l b n xs l1 true := by
  refine ⟨fun _ => rfl, fun ys rest ho hl hb => ?_, h.le, fun h' => (by cases h'), (by have := h.lt rfl; omega), fun hb => (by have := h.mono hb; cases this), fun hl => (by have := (h.nil hl).2.2; cases this), h.suf⟩
  exfalso
  obtain ⟨g1, g2, g3, g4⟩ := h.back ys rest ho hl hb
  have hk : xs.length < ys.length := by omega
  rw [List.drop_eq_getElem_cons hk, List.flatMap_cons] at g4
  have := congrArg List.length g4
  simp only [List.length_append, fx_len] at this
  omega
theorem unx_down (l : List Int) (i : Nat) (y u : Int) (h : y * 2 ^ (8 * (i + 1)) + unx l (i + 1) = u) : (y * 256 + l.getD i 0) * 2 ^ (8 * i) + unx l i = u := by
  rw [← h, unx]
  have e : (2 : Int) ^ (8 * (i + 1)) = 2 ^ (8 * i) * 256 := by rw [show 8 * (i + 1) = 8 * i + 8 by omega, Int.pow_add]; rfl
  rw [e, Int.add_mul, Int.mul_assoc y 256, Int.mul_comm 256]
  omega
theorem word_le (l : List Int) (hB : AllB l) (i : Nat) (y : Int) (h0 : 0 ≤ y) (h : y * 2 ^ (8 * i) + unx l i = unx l 8) : y ≤ 18446744073709551615 := by
  have hb := unx_bd l hB 8
  have hb2 := unx_bd l hB i
  have e8 : (2 : Int) ^ (8 * 8) = 18446744073709551616 := by decide
  rw [e8] at hb
  have hp : (0 : Int) < 2 ^ (8 * i) := Int.pow_pos (by decide)
  have : y * 1 ≤ y * 2 ^ (8 * i) := Int.mul_le_mul_of_nonneg_left (by omega) h0
  omega
theorem Kp.grown {P : Nat} {w W W4 w3 : World} {o : Option Nat} (h : Kp P w W) (hb : Below W.heap.size W W4) (hg : W4.grownBy w3 o) (ho : ∀ q, o = some q → w.heap.size ≤ q) : Kp P w w3 :=
  ⟨hg.os.trans (hb.os.trans h.os), hg.tape.trans (hb.tape.trans h.tape), hg.output.trans (hb.output.trans h.output), Nat.le_trans h.size (Nat.le_trans hb.size hg.size), fun k hk h1 => (hg.block k (by have := h.size; have := hb.size; omega) (fun e => by have := ho k e.symm; omega)).trans ((hb.block k (by have := h.size; omega)).trans (h.block k hk h1))⟩
theorem Sb.grown {w0 w w' : World} {P : Nat} {bs : List Int} {p : Nat} {b : Bool} {o : Option Nat} (h : Sb w0 w P bs p b) (hg : w.grownBy w' o) (ho : ∀ k, o = some k → k ≠ P ∧ w0.heap.size ≤ k) : Sb w0 w' P bs p b := by
  have hp := h.pos
  obtain ⟨ab, ao, c, h1, h2, h3, h4, h5, h6, h7, h8, h9, h10⟩ := h
  have hk : w'.heap[P]? = w.heap[P]? := hg.block P hp (fun e => (ho P e.symm).1 rfl)
  exact ⟨ab, ao, c, (World.cell?_of_block (a := ⟨P, 0, none⟩) hk).trans h1, (World.cell?_of_block (a := ⟨P, 1, none⟩) hk).trans h2, (World.cell?_of_block (a := ⟨P, 2, none⟩) hk).trans h3, fun j => (World.frozen?_of_block (a := ⟨P, j, none⟩) hk).trans (h4 j), h5, h6, h7, ⟨hg.os.trans h8.os, hg.tape.trans h8.tape, hg.output.trans h8.output, Nat.le_trans h8.size hg.size, fun k hk => (hg.block k (Nat.lt_of_lt_of_le hk h8.size) (fun e => by have := (ho k e.symm).2; omega)).trans (h8.block k hk)⟩, h9, h10⟩
theorem one_lit (w : World) (x : Value) (t : TypeId) (n : Nat) (hn : n = w.heap.size) : ∀ j u, [x][j]? = some u → (w.alloc (.cells #[x] t)).cell? ((⟨n, 0, none⟩ : Addr).add j) = some u := by
  intro j u hu
  rw [show (⟨n, 0, none⟩ : Addr).add j = ⟨n, j, none⟩ by unfold Addr.add; split <;> simp_all]
  exact cell_new hn (by simpa using hu)
/-- While words are read. -/
def SvI (w0 w : World) (P : Nat) (bs : List Int) (p : Nat) (b : Bool) (N : Int) (xs : List Int) (v : Value) (W : World) : Prop := ∃ p1 b1, Sb w0 W P bs p1 b1 ∧ Kp P w W ∧ W.ownsRow w.heap.size 85 1 v xs.length (xs.flatMap ceW) ∧ LI (fx 8) okW (fun _ => 0) 0 (bs.drop p) b N xs (bs.drop p1) b1 ∧ ∀ x ∈ xs, 0 ≤ x ∧ x ≤ 18446744073709551615
/-- What the reading of words leaves. -/
def SvP (w0 w : World) (P : Nat) (bs : List Int) (p : Nat) (b : Bool) (v : Value) (w' : World) : Prop := ∃ xs p' b', Sb w0 w' P bs p' b' ∧ Kp P w w' ∧ w'.ownsRow w.heap.size 85 1 v xs.length (xs.flatMap ceW) ∧ RP (listE (fx 8)) (listO okW) [] wSz 1 (bs.drop p) b xs (bs.drop p') b' ∧ ∀ x ∈ xs, 0 ≤ x ∧ x ≤ 18446744073709551615
set_option maxHeartbeats 8000000 in
theorem srv_c (w0 : World) (P : Nat) (bs : List Int) (p : Nat) (b : Bool) (w : World) (hS : Sb w0 w P bs p b) :
    Calls Try.prog 34 #[.pointer (some ⟨P, 0, none⟩)] w fun e w' => ∃ v, e = .returned v ∧ SvP w0 w P bs p b v w' := by
  obtain ⟨i0, hi, hz0, hz1, hz2⟩ := info_parts infoW
  have hPl := hS.pos
  have KN := Hid.mk' (fun o => srn_c w0 P bs p b (w.alloc o) (hS.below ((Below.refl _ _).alloc (Nat.le_refl _) o)))
  clear hS
  go_enter Try.func34, Try.ntmps34
  go_wp2_with fail
  refine (KN.out _).mono ?_
  rintro e w2 ⟨rfl, hw2⟩
  have HST : Hid (SvI w0 w P bs p b (snV (bs.drop p) b) [] (.slice (some ⟨w.heap.size, 0, none⟩) 0 0) w2) := by
    obtain ⟨h1, h2⟩ := hw2
    refine ⟨_, _, h1, (Kp.of_below ((Below.refl _ _).alloc (Nat.le_refl _) _)).trans h2, ?_, ?_, fun x hx => by cases hx⟩
    · exact ownS_of (World.ownsRow_lit w #[] 0 (Nat.le_refl _) (Nat.zero_le _) rfl) (fun q hq => by
        have e : w.heap.size = q := by simpa [Value.ownBlock] using hq
        subst e
        exact h2.block _ (by simp) (by omega))
    · have := LI.start (fx 8) okW (fun _ => 0) 0 (sn_rp (bs.drop p) b)
      rw [List.drop_drop] at this
      exact this
  clear hw2 KN
  generalize snV (bs.drop p) b = N at *
  go_wp2
  go_loopw [3, 5] (fun o i wr => ∃ xs : List Int, i = .int .i64 (xs.length : Int) ∧ SvI w0 w P bs p b N xs o wr) (fun _ i _ => N.toNat - (intOf i).toNat)
  case atStart => exact ⟨[], rfl, HST.out⟩
  case round =>
    obtain ⟨xs, rfl, p1, b1, hSb, hK, hown, hLI, hrg⟩ := hrel
    clear HST
    obtain ⟨va, vc, hve⟩ := ownS_slice hown
    subst hve
    by_cases hlt : (xs.length : Int) < N
    · cases b1 with
      | true =>
        have HF : Hid (SvP w0 w P bs p b (.slice va xs.length vc) wr) := ⟨xs, p1, true, hSb, hK, hown, hLI.done (.inl rfl), hrg⟩
        obtain ⟨ab, ao, c, c0, c1, c2, -⟩ := hSb
        clear hK hown hLI hrg c0 c1
        go_wp2
        go_ret
        exact ⟨_, rfl, HF.out⟩
      | false =>
        have HSB := Hid.mk' hSb
        have hPw := hSb.pos
        obtain ⟨ab, ao, c, c0, c1, c2, f0, h5, h6, h7, h8, h9, h10⟩ := hSb
        have f1 := f0 1
        have f2 := f0 2
        have hxl : xs.length ≤ 1000001 := by have := hLI.szb; simp only [List.length_drop] at this; omega
        by_cases h8l : p1 + 8 ≤ bs.length
        · have hgt : ¬ ((p1 : Int) + 8 > (bs.length : Int)) := by omega
          have HH := Hid.mk' (And.intro hK (And.intro hown (And.intro hLI hrg)))
          have H6 := Hid.mk' (fun i (hi : i < bs.length) => (h8.cell (p := ⟨ab, ao + i, none⟩) (World.block_lt_of_cell? w0 _ (h6 i hi))).trans (h6 i hi))
          have HB := Hid.mk' h7
          clear hK hown hLI hrg f0 h6 h7 h8
          go_wp2_with fail
          go_quiet (fail)
          go_wp2_with fail
          have HNX : Hid (∀ m, ∀ w3 v3, (((wr.drewN m).setCell ⟨P, 1, none⟩ (.int .i64 ((p1 : Int) + 8))).alloc (.cells #[.int .u64 (unx (bs.drop p1) 8)] 85)).grownBy w3 (Value.slice va xs.length vc).ownBlock → w3.ownsRow w.heap.size 85 1 v3 (xs.length + 1) (xs.flatMap ceW ++ [.int .u64 (unx (bs.drop p1) 8)]) → SvI w0 w P bs p b N (xs ++ [unx (bs.drop p1) 8]) v3 w3) := by
            intro m w3 v3 hg ho
            obtain ⟨hK, hown, hLI, hrg⟩ := HH.out
            have hS1 := (HSB.out.below (below_drewN' (Below.refl _ _) m)).go (p1 + 8) h8l
            rw [show (((p1 + 8 : Nat)) : Int) = (p1 : Int) + 8 by omega] at hS1
            have hS2 := hS1.below ((Below.refl _ _).alloc (Nat.le_refl _) (.cells #[.int .u64 (unx (bs.drop p1) 8)] 85))
            have hq : ∀ q, (Value.slice va xs.length vc).ownBlock = some q → w.heap.size ≤ q := fun q hq => (hown.lt q hq).1
            have hv : unx (bs.drop p1) 8 = rwV (bs.drop p1) 8 := by unfold rwV; rw [if_pos (by simp; omega)]
            have hlf : (bs.drop p1).drop 8 = bs.drop (p1 + 8) := by rw [List.drop_drop]
            have hrp := rw_rp (bs.drop p1) false
            have e1 : rwL (bs.drop p1) 8 = bs.drop (p1 + 8) := by unfold rwL; rw [if_pos (by simp; omega), hlf]
            have e2 : rwB (bs.drop p1) 8 false = false := by unfold rwB; rw [decide_eq_true (show 8 ≤ (bs.drop p1).length by simp; omega)]; rfl
            rw [e1, e2, ← hv] at hrp
            refine ⟨p1 + 8, false, hS2.grown hg (fun q hq' => by have := hq q hq'; have := HSB.out.pos; omega), ?_, ?_, hLI.next hrp hlt, ?_⟩
            · exact ((hK.trans (Kp.of_below (below_drewN' (Below.refl _ _) m))).trans (Kp.set _ _)).grown ((Below.refl _ _).alloc (Nat.le_refl _) _) hg hq
            · simpa [ceW] using ho
            · intro x hx
              rcases List.mem_append.1 hx with hx | hx
              · exact hrg x hx
              · have e : x = unx (bs.drop p1) 8 := by simpa using hx
                have := unx_bd (bs.drop p1) (allB_drop HB.out p1) 8
                have e8 : (2 : Int) ^ (8 * 8) = 18446744073709551616 := by decide
                rw [e8] at this
                omega
          have OW := Hid.mk' (fun m o => ((ownS_set (o := 1) (u := .int .i64 ((p1 : Int) + 8)) (show (wr.drewN m).ownsRow w.heap.size 85 1 (.slice va xs.length vc) xs.length (xs.flatMap ceW) from HH.out.2.1) (fun e => by have := (HH.out.2.1.lt P e).1; omega)).alloc o))
          have hsz : w.heap.size ≤ wr.heap.size := HH.out.1.size
          generalize hU : unx (bs.drop p1) 8 = u8 at *
          go_loopw [6, 7] (fun v k wr2 => ∃ (j : Nat) (y kk : Int), j ≤ 8 ∧ kk = (j : Int) - 1 ∧ k = .int .i64 kk ∧ v = .int .u64 y ∧ 0 ≤ y ∧ Hid (y * 2 ^ (8 * j) + unx (bs.drop p1) j = u8) ∧ ∃ m, wr2 = wr.drewN m) (fun _ k _ => (intOf k + 1).toNat)
          case atStart => exact ⟨8, 0, 7, by omega, by omega, rfl, rfl, by omega, (by show _ = _; rw [hU]; simp), _, rfl⟩
          case round =>
            obtain ⟨j, y, kk, hj, hkk, rfl, rfl, hy0, HY, m, hwr⟩ := hrel
            subst hwr
            cases j with
            | zero =>
              have hk1 : kk = -1 := by omega
              subst hk1
              have hyu : y = u8 := by have := HY.out; simp [unx] at this; exact this
              subst hyu
              have HN2 := Hid.mk' (HNX.out m)
              have OW2 := Hid.mk' (OW.out m)
              have c1' : (wr.drewN m).cell? ⟨P, 1, none⟩ = some (.int .i64 (p1 : Int)) := c1
              have f1' : (wr.drewN m).frozen? ⟨P, 1, none⟩ = false := f1
              clear HNX OW HY c0 c1 c2 f1 f2 HH H6 HB HSB hU hkk hj hgt
              go_wp2_with (at_builtin; refine wpList_append_own _ rfl _ _ 22 rfl w.heap.size 85 i0 (.int .u64 0) 1 8 Try.underlying22 hi hz0 hz1 hz2 rfl (by decide) _ _ _ rfl (OW2.out _) ⟨wr.heap.size, 0, none⟩ 1 1 [.int .u64 y] rfl rfl (one_lit _ _ _ _ (by simp)) (by simp [Value.oneCell']) (by unfold maxLen; omega) (by omega) (by simp; omega) ?_; intro v3 w3 hown' hgrow hnn; have HR3 := Hid.mk' (HN2.out w3 v3 hgrow hown'); obtain ⟨v3a, v3c, rfl⟩ := ownS_slice hown'; clear hown' hgrow hnn HN2 OW2)
              go_simp
              go_wp2
              go_roundw
              case rel => exact ⟨xs ++ [y], by simp, HR3.out⟩
              case measure => simp [intOf]; omega
            | succ i =>
              have hk1 : kk = (i : Int) := by omega
              subst hk1
              have hdn := unx_down (bs.drop p1) i y u8 HY.out
              have hdg : (bs.drop p1).getD i 0 = bs.getD (p1 + i) 0 := by simp [List.getD]
              rw [hdg] at hdn
              have hd := HB.out (p1 + i)
              have hle := word_le (bs.drop p1) (allB_drop HB.out p1) i (y * 256 + bs.getD (p1 + i) 0) (by omega) (by rw [hU]; exact hdn)
              have c0' : (wr.drewN m).cell? ⟨P, 0, none⟩ = some (.slice (some ⟨ab, ao, none⟩) bs.length c) := c0
              have c1' : (wr.drewN m).cell? ⟨P, 1, none⟩ = some (.int .i64 (p1 : Int)) := c1
              have hcb : (wr.drewN m).cell? ⟨ab, ao + (p1 + i), none⟩ = some (.int .u8 (bs.getD (p1 + i) 0)) := H6.out (p1 + i) (by omega)
              have hcb2 : wr.cell? ⟨ab, ao + (p1 + i), none⟩ = some (.int .u8 (bs.getD (p1 + i) 0)) := H6.out (p1 + i) (by omega)
              have hpi : ((p1 : Int) + (i : Int)) < (bs.length : Int) := by omega
              have htn : ((p1 : Int) + (i : Int)).toNat = p1 + i := by omega
              have HDN := Hid.mk' hdn
              generalize bs.getD (p1 + i) 0 = d at *
              have hw1 : IntKind.u64.wrap (y * 256) = y * 256 := by rw [IntKind.wrap_u64]; omega
              have hw2 : IntKind.u64.wrap (y * 256 + d) = y * 256 + d := by rw [IntKind.wrap_u64]; omega
              have hw3 : IntKind.u64.wrap d = d := by rw [IntKind.wrap_u64]; omega
              have HD0 := Hid.mk' hd
              clear hle hd
              have hj7 : i + 1 ≤ 8 := hj
              clear HNX OW HY c2 f1 f2 HH H6 HB HSB hdn hdg hkk hU hj
              have hpn : ¬ ((p1 : Int) + (i : Int)) < 0 := by omega
              have hp0 : (0 : Int) ≤ (p1 : Int) + (i : Int) := by omega
              go_wp2_with fail
              go_quiet (fail)
              go_wp2
              go_roundw
              case rel => exact ⟨i, y * 256 + d, (i : Int) - 1, by omega, rfl, by go_num, (by first | rfl | rw [hw3, hw2]), by have := HD0.out; omega, HDN.out, _, rfl⟩
              case measure => first | (simp [intOf]; done) | (simp [intOf]; omega)
        · have hgt : ((p1 : Int) + 8 > (bs.length : Int)) := by omega
          have HF : Hid (∀ m, SvP w0 w P bs p b (.slice va xs.length vc) ((wr.drewN m).setCell ⟨P, 2, none⟩ (.bool true))) := by
            intro m
            refine ⟨xs, p1, true, (HSB.out.below (below_drewN' (Below.refl _ _) m)).flag true, (hK.trans (Kp.of_below (below_drewN' (Below.refl _ _) m))).trans (Kp.set _ _), ?_, (hLI.stopped hlt (by simp; omega)).done (.inl rfl), hrg⟩
            exact ownS_of hown (fun q hq => Below.heap_setCell _ _ _ _ (fun e => by have e' : q = P := e; have := (hown.lt q hq).1; omega))
          clear hK hown hLI hrg f0 h6 h7 h8
          go_wp2_with fail
          go_quiet (fail)
          go_wp2
          go_ret
          exact ⟨_, rfl, HF.out _⟩
    · have HF : Hid (SvP w0 w P bs p b (.slice va xs.length vc) wr) := ⟨xs, p1, b1, hSb, hK, hown, hLI.done (.inr (by omega)), hrg⟩
      clear hK hown hLI hrg hSb
      go_wp2
      go_ret
      exact ⟨_, rfl, HF.out⟩
end Go.Proofs.Ytfaajmhmcdoibaa
