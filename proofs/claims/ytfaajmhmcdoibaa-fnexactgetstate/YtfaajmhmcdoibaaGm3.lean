import Derived.Test.YtfaajmhmcdoibaaGm2
set_option linter.all false
set_option linter.unusedVariables false
namespace Go.Proofs.Ytfaajmhmcdoibaa
open Go.RowKit Go.Sort
set_option maxRecDepth 100000
/-- The reading of n numbers. -/
def rns (l : List Int) (b : Bool) : Nat → List Int × List Int × Bool
  | 0 => ([], l, b)
  | k + 1 => ((rns l b k).1 ++ [rnV (rns l b k).2.1], rnL (rns l b k).2.1, rnB (rns l b k).2.1 (rns l b k).2.2)
theorem rns_len (l : List Int) (b : Bool) : ∀ k, (rns l b k).1.length = k := by
  intro k
  induction k with
  | zero => rfl
  | succ k ih => simp [rns, ih]
/-- What the reading of numbers leaves. -/
def NmP (w0 w : World) (R ab lo n : Nat) (l : List Int) (b : Bool) (w' : World) : Prop := Rb w0 w' R (rns l b n).2.1 (rns l b n).2.2 ∧ Ch R ab lo (lo + n) w w' ∧ ∀ i, i < n → w'.cell? ⟨ab, lo + i, none⟩ = some (.int .i64 ((rns l b n).1.getD i 0))
theorem Rb.has {w0 w : World} {l : List Int} {ab ao : Nat} (h6 : ∀ i, i < l.length → w0.cell? ⟨ab, ao + i, none⟩ = some (.int .u8 (l.getD i 0))) (h8 : Below w0.heap.size w0 w) : By.Has w (some ⟨ab, ao, none⟩) l :=
  .inr ⟨ab, ao, rfl, fun i hi => (h8.cell (p := ⟨ab, ao + i, none⟩) (World.block_lt_of_cell? w0 _ (h6 i hi))).trans (h6 i hi)⟩
def N2 (w0 wr : World) (R ab o xb xo xc G nn : Nat) (l1 : List Int) (b2 : Bool) (r1 r2 : Int) (W2 : World) : Prop := W2.cell? ⟨R, 0, none⟩ = some (.slice (some ⟨xb, xo, none⟩) l1.length xc) ∧ (W2.cell? ⟨R, 1, none⟩ = some (.bool b2) ∧ (∀ j, W2.frozen? ⟨R, j, none⟩ = false) ∧ l1.length ≤ xc ∧ xc ≤ 1099511627776 ∧ (∀ i, i < l1.length → w0.cell? ⟨xb, xo + i, none⟩ = some (.int .u8 (l1.getD i 0))) ∧ AllB l1 ∧ Below w0.heap.size w0 W2 ∧ w0.heap.size ≤ R) ∧ Bk W2 G [.int .i64 r1, .int .u64 r2, .int .i64 (nn : Int)] ∧ Ch R ab o (o + 1) wr W2
set_option maxHeartbeats 4000000 in
theorem rnum_c (w0 : World) (R : Nat) (l : List Int) (b : Bool) (ab lo n m g gc : Nat) (w : World) (hn : n ≤ 3) (hR : Rb w0 w R l b) (hr : Ro w ab m) (hm : lo + n ≤ m) (hne : R ≠ ab) (hge : w0.heap.size ≤ ab) (hg : g < w.heap.size) (hgR : g ≠ R) (hgb : g ≠ ab) (hP : ∀ i, i < n → w.cell? ⟨g, i, none⟩ = some (.pointer (some ⟨ab, lo + i, none⟩))) :
    Calls Try.prog 91 #[.pointer (some ⟨R, 0, none⟩), .slice (some ⟨g, 0, none⟩) n gc] w fun e w' => e = .returned (.tuple #[]) ∧ NmP w0 w R ab lo n l b w' := by
  have HR := Hid.mk' hR
  have HP := Hid.mk' hP
  have HRo := Hid.mk' hr
  clear hR hP hr
  go_enter Try.func91, Try.ntmps91
  go_wp2
  go_loopw [9] (fun i wr => ∃ k : Nat, k ≤ n ∧ i = .int .i64 k ∧ NmP w0 w R ab lo k l b wr) (fun i _ => n - (intOf i).toNat)
  case atStart => exact ⟨0, Nat.zero_le _, rfl, HR.out, Ch.refl _ _ _ _ _, fun i hi => by omega⟩
  case round =>
    obtain ⟨k, hk, rfl, hRk, hCk, hck⟩ := hrel
    clear HR
    by_cases hlt : k < n
    · have hki : (k : Int) < (n : Int) := by omega
      have d1 : wr.cell? ⟨g, k, none⟩ = some (.pointer (some ⟨ab, lo + k, none⟩)) := (World.cell?_of_block (a := ⟨g, k, none⟩) (hCk.block g hg hgR hgb)).trans (HP.out k hlt)
      have hrk := HRo.out.ch hCk
      obtain ⟨u, hu⟩ := hrk.cell (show lo + k < m by omega)
      have hRn := rns_len l b k
      have HNX : Hid (∀ w2, Rb w0 w2 R (rnL (rns l b k).2.1) (rnB (rns l b k).2.1 (rns l b k).2.2) → Ch R ab (lo + k) (lo + k + 1) wr w2 → w2.cell? ⟨ab, lo + k, none⟩ = some (.int .i64 (rnV (rns l b k).2.1)) → NmP w0 w R ab lo (k + 1) l b w2) := by
        intro w2 h1 h2 h3
        refine ⟨h1, (hCk.wide (Nat.le_refl _) (by omega)).trans (h2.wide (by omega) (by omega)), fun i hi => ?_⟩
        show w2.cell? ⟨ab, lo + i, none⟩ = some (.int .i64 (((rns l b k).1 ++ [rnV (rns l b k).2.1]).getD i 0))
        by_cases hik : i = k
        · subst hik
          rw [h3]
          simp [List.getD, hRn]
        · rw [h2.cell hrk (.inl (by omega)), hck i (by omega)]
          simp [List.getD, List.getElem?_append, hRn, show i < k by omega]
      generalize (rns l b k).2.1 = l1 at *
      generalize (rns l b k).2.2 = b1 at *
      have hRb := hRk
      obtain ⟨xb, xo, xc, h1, h2, h3, h4, h5, h6, h7, h8, h9⟩ := hRk
      have KG := Hid.mk' (By.implGetU_any (some ⟨xb, xo, none⟩) xc l1 0 32 wr (by omega) (Rb.has h6 h8) h7)
      obtain ⟨⟨r1, r2, r3⟩, hgn⟩ : ∃ r, r = gn l1 := ⟨_, rfl⟩
      have hnx := gn_next l1
      rw [← hgn] at hnx
      obtain ⟨nn, hnn⟩ : ∃ nn : Nat, r3 = (nn : Int) := ⟨r3.toNat, by have := hnx.1; simp only at this; omega⟩
      subst hnn
      have hnl : nn ≤ l1.length := by have := hnx.2; simp only at this; omega
      have e1 : rnV l1 = IntKind.i64.wrap r2 := by unfold rnV; rw [← hgn]
      have e2 : rnL l1 = l1.drop nn := by unfold rnL; rw [← hgn]; simp
      have e3 : rnB l1 b1 = (b1 || r1 != 0) := by unfold rnB; rw [← hgn]
      have hgn' : By.getA false l1 0 32 = (r1, r2, (nn : Int)) := hgn.symm
      rw [hgn'] at KG
      rw [e1, e2, e3] at HNX
      have HRB := Hid.mk' hRb
      have HRK := Hid.mk' hrk
      have HHH := Hid.mk' (And.intro h4 (And.intro h5 (And.intro h6 h7)))
      have hRlt : R < wr.heap.size := hRb.pos
      have hablt : ab < wr.heap.size := hrk.lt
      have f1 := h3 1
      have f0 := h3 0
      clear e1 e2 e3 hgn hgn' hnx hRb hck hCk HP HRo hrk hu u h6 h7 h8
      go_wp2_with fail
      refine KG.out.mono ?_
      rintro e W0 ⟨rfl, hb0⟩
      simp only [By.RV]
      go_upto_region 4 with fail
      refine wp_gen (fun W => Bk W W0.heap.size [.int .i64 r1, .int .u64 r2, .int .i64 (nn : Int)] ∧ Below W0.heap.size W0 W ∧ W0.heap.size < W.heap.size) ?_ ?_
      · first
          | exact ⟨Bk.new, (Below.refl _ _).alloc (Nat.le_refl _) _, by simp⟩
          | exact ⟨Bk.new.set.set.set, ((((Below.refl _ _).alloc (Nat.le_refl _) _).setCell (Nat.le_refl _) _).setCell (Nat.le_refl _) _).setCell (Nat.le_refl _) _, by simp⟩
      rintro W1 ⟨bk, hb1, hl1⟩
      have hbW : Below wr.heap.size wr W1 := hb0.trans (hb1.mono hb0.size)
      have c0 : W1.cell? ⟨R, 0, none⟩ = some (.slice (some ⟨xb, xo, none⟩) l1.length xc) := (hbW.cell (p := ⟨R, 0, none⟩) hRlt).trans h1
      have c1 : W1.cell? ⟨R, 1, none⟩ = some (.bool b1) := (hbW.cell (p := ⟨R, 1, none⟩) hRlt).trans h2
      have fr1 : W1.frozen? ⟨R, 1, none⟩ = false := (hbW.frozen (p := ⟨R, 1, none⟩) hRlt).trans f1
      have g0 : W1.cell? ⟨W0.heap.size, 0, none⟩ = some (.int .i64 r1) := bk.2.1 0 _ rfl
      have hGR : W0.heap.size ≠ R := by have := hb0.size; omega
      have hGa : W0.heap.size ≠ ab := by have := hb0.size; omega
      have HW2 : Hid (∀ b2, b2 = (b1 || r1 != 0) → N2 w0 wr R ab (lo + k) xb xo xc W0.heap.size nn l1 (b1 || r1 != 0) r1 r2 (W1.setCell ⟨R, 1, none⟩ (.bool b2))) := by
        rintro b2 rfl
        obtain ⟨q1, q2, q3, q4⟩ := HHH.out
        have hRW := HRB.out.below hbW
        have hR2 := hRW.flag (b1 || r1 != 0)
        refine ⟨set_off c0 (by omega), ⟨set_same c1, fun j => ?_, q1, q2, q3, q4, hR2.bel, h9⟩, bk.other hGR.symm, (Ch.of_below hbW hablt).trans (Ch.setR _ _ hne)⟩
        rw [World.frozen?_setCell, hbW.frozen (p := ⟨R, j, none⟩) hRlt]
        exact h3 j
      have HFIN : Hid (∀ W2, W2.cell? ⟨R, 0, none⟩ = some (.slice (some ⟨xb, xo, none⟩) l1.length xc) → (W2.cell? ⟨R, 1, none⟩ = some (.bool (b1 || r1 != 0)) ∧ (∀ j, W2.frozen? ⟨R, j, none⟩ = false) ∧ l1.length ≤ xc ∧ xc ≤ 1099511627776 ∧ (∀ i, i < l1.length → w0.cell? ⟨xb, xo + i, none⟩ = some (.int .u8 (l1.getD i 0))) ∧ AllB l1 ∧ Below w0.heap.size w0 W2 ∧ w0.heap.size ≤ R) → Ch R ab (lo + k) (lo + k + 1) wr W2 → NmP w0 w R ab lo (k + 1) l b (((W2.setCell ⟨ab, lo + k, none⟩ (.int .i64 (wrap64 r2))).setCell ⟨R, 0, none⟩ (.slice (if xc = nn then some ⟨xb, xo, none⟩ else some ⟨xb, xo + nn, none⟩) (l1.length - nn) (xc - nn))).drew)) := by
        intro W2 k0 k1 k2
        have ew : IntKind.i64.wrap r2 = wrap64 r2 := by rw [IntKind.wrap_i64]; unfold wrap64; omega
        obtain ⟨ao', ha, hif⟩ : ∃ ao', (xc = nn ∨ ao' = xo + nn) ∧ (if xc = nn then some (⟨xb, xo, none⟩ : Addr) else some ⟨xb, xo + nn, none⟩) = some ⟨xb, ao', none⟩ := by
          by_cases hx : xc = nn
          · exact ⟨xo, .inl hx, by rw [if_pos hx]⟩
          · exact ⟨xo + nn, .inr rfl, by rw [if_neg hx]⟩
        rw [hif, ← ew]
        obtain ⟨c', hc'⟩ : ∃ c', c' = xc - nn := ⟨_, rfl⟩
        rw [← hc']
        show NmP w0 w R ab lo (k + 1) l b ((W2.drew.setCell ⟨ab, lo + k, none⟩ (.int .i64 (IntKind.i64.wrap r2))).setCell ⟨R, 0, none⟩ (.slice (some ⟨xb, ao', none⟩) (l1.length - nn) c'))
        have hne2 : ∀ j, (⟨ab, lo + k, none⟩ : Addr) ≠ ⟨R, j, none⟩ := fun j e => hne (congrArg Addr.block e).symm
        obtain ⟨m1, m2, m3, m4, m5, m6, m7, m8⟩ := k1
        have hro := HRK.out.ch k2
        obtain ⟨u2, hu2⟩ := hro.cell (show lo + k < m by omega)
        have hd : Rb w0 ((W2.drew.setCell ⟨ab, lo + k, none⟩ (.int .i64 (IntKind.i64.wrap r2))).setCell ⟨R, 0, none⟩ (.slice (some ⟨xb, ao', none⟩) (l1.length - nn) c')) R (l1.drop nn) (b1 || r1 != 0) := by
          refine Rb.drop ?_ ⟨?_, fun j => ?_, m3, m4, m5, m6, ?_, m8⟩ nn hnl ao' c' ha hc'
          · rw [World.cell?_setCell_other _ _ _ _ (hne2 0)]; exact k0
          · rw [World.cell?_setCell_other _ _ _ _ (hne2 1)]; exact m1
          · rw [World.frozen?_setCell]; exact m2 j
          · exact (m7.drew).setCell hge _
        refine HNX.out _ hd ?_ ?_
        · exact ((k2.trans (Ch.of_below ((Below.refl _ _).drew) hro.lt)).trans (Ch.set _ _ (Nat.le_refl _) (by omega))).trans (Ch.setR _ _ hne)
        · rw [World.cell?_setCell_other _ _ _ _ (fun e => hne (congrArg Addr.block e))]
          exact set_same (u := u2) hu2
      have HRK2 := Hid.mk' (fun W2 (h : Ch R ab (lo + k) (lo + k + 1) wr W2) => HRK.out.ch h)
      clear HNX bk hb0 hb1 hbW h1 h2 f0 f1 h3 HHH HRB KG d1 h9
      cases b1 with
      | true =>
        go_upto_region 5 with fail
        refine wp_gen (fun W => N2 w0 wr R ab (lo + k) xb xo xc W0.heap.size nn l1 (true || r1 != 0) r1 r2 W) (HW2.out true rfl) ?_
        rintro W2 ⟨k0, k1, kb, k2⟩
        have HK := Hid.mk' (HFIN.out W2 k0 k1 k2)
        have fz0 := k1.2.1 0
        have v1 : W2.cell? ⟨W0.heap.size, 1, none⟩ = some (.int .u64 r2) := kb.2.1 1 _ rfl
        have v2 : W2.cell? ⟨W0.heap.size, 2, none⟩ = some (.int .i64 (nn : Int)) := kb.2.1 2 _ rfl
        have hro := HRK2.out W2 k2
        obtain ⟨u2, hu2⟩ := hro.cell (show lo + k < m by omega)
        have fz1 := hro.frozen (lo + k)
        clear k1 kb k2 hro HW2 HFIN HRK2 c0 c1 fr1 g0 HRK
        go_big_region
        all_goals
          go_simp
          go_wp2
          go_roundw
          case rel => exact ⟨k + 1, by omega, by go_num, HK.out⟩
          case measure => simp [intOf]; omega
      | false =>
        by_cases hr0 : r1 = 0
        · have hr0' : (r1 != 0) = false := by simp [hr0]
          go_upto_region 5 with fail
          refine wp_gen (fun W => N2 w0 wr R ab (lo + k) xb xo xc W0.heap.size nn l1 (false || r1 != 0) r1 r2 W) (HW2.out _ (by simp [hr0'])) ?_
          rintro W2 ⟨k0, k1, kb, k2⟩
          have HK := Hid.mk' (HFIN.out W2 k0 k1 k2)
          have fz0 := k1.2.1 0
          have v1 : W2.cell? ⟨W0.heap.size, 1, none⟩ = some (.int .u64 r2) := kb.2.1 1 _ rfl
          have v2 : W2.cell? ⟨W0.heap.size, 2, none⟩ = some (.int .i64 (nn : Int)) := kb.2.1 2 _ rfl
          have hro := HRK2.out W2 k2
          obtain ⟨u2, hu2⟩ := hro.cell (show lo + k < m by omega)
          have fz1 := hro.frozen (lo + k)
          clear k1 kb k2 hro HW2 HFIN HRK2 c0 c1 fr1 g0 HRK
          go_big_region
          all_goals
            go_simp
            go_wp2
            go_roundw
            case rel => exact ⟨k + 1, by omega, by go_num, HK.out⟩
            case measure => simp [intOf]; omega
        · have hr0' : (r1 != 0) = true := by simp [hr0]
          go_upto_region 5 with fail
          refine wp_gen (fun W => N2 w0 wr R ab (lo + k) xb xo xc W0.heap.size nn l1 (false || r1 != 0) r1 r2 W) (HW2.out _ (by simp [hr0'])) ?_
          rintro W2 ⟨k0, k1, kb, k2⟩
          have HK := Hid.mk' (HFIN.out W2 k0 k1 k2)
          have fz0 := k1.2.1 0
          have v1 : W2.cell? ⟨W0.heap.size, 1, none⟩ = some (.int .u64 r2) := kb.2.1 1 _ rfl
          have v2 : W2.cell? ⟨W0.heap.size, 2, none⟩ = some (.int .i64 (nn : Int)) := kb.2.1 2 _ rfl
          have hro := HRK2.out W2 k2
          obtain ⟨u2, hu2⟩ := hro.cell (show lo + k < m by omega)
          have fz1 := hro.frozen (lo + k)
          clear k1 kb k2 hro HW2 HFIN HRK2 c0 c1 fr1 g0 HRK
          go_big_region
          all_goals
            go_simp
            go_wp2
            go_roundw
            case rel => exact ⟨k + 1, by omega, by go_num, HK.out⟩
            case measure => simp [intOf]; omega
    · have e : k = n := by omega
      subst e
      have HF : Hid (NmP w0 w R ab lo k l b wr) := ⟨hRk, hCk, hck⟩
      clear hRk hCk hck HP HRo
      go_wp2
      go_end0
      exact ⟨rfl, HF.out⟩
end Go.Proofs.Ytfaajmhmcdoibaa
