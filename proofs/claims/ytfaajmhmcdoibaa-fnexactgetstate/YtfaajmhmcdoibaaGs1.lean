import Derived.Test.YtfaajmhmcdoibaaGn3
set_option linter.all false
set_option linter.unusedVariables false
namespace Go.Proofs.Ytfaajmhmcdoibaa
open Go.RowKit Go.Sort
set_option maxRecDepth 100000
/-- Only block P and new blocks have changed. -/
structure Kp (P : Nat) (w w' : World) : Prop where
  os : w'.os = w.os
  tape : w'.tape = w.tape
  output : w'.output = w.output
  size : w.heap.size ≤ w'.heap.size
  block : ∀ k, k < w.heap.size → k ≠ P → w'.heap[k]? = w.heap[k]?
theorem Kp.refl (P : Nat) (w : World) : Kp P w w := ⟨rfl, rfl, rfl, Nat.le_refl _, fun _ _ _ => rfl⟩
theorem Kp.trans {P : Nat} {a b c : World} (h : Kp P a b) (k : Kp P b c) : Kp P a c :=
  ⟨k.os.trans h.os, k.tape.trans h.tape, k.output.trans h.output, Nat.le_trans h.size k.size, fun i hi h1 => (k.block i (Nat.lt_of_lt_of_le hi h.size) h1).trans (h.block i hi h1)⟩
theorem Kp.of_below {P : Nat} {w w' : World} (h : Below w.heap.size w w') : Kp P w w' := ⟨h.os, h.tape, h.output, h.size, fun k hk _ => h.block k hk⟩
theorem Kp.set {P o : Nat} (w : World) (v : Value) : Kp P w (w.setCell ⟨P, o, none⟩ v) := ⟨rfl, rfl, rfl, by simp, fun k _ hk => Below.heap_setCell _ _ _ _ hk⟩
/-- The model's reader at block P: these bytes, at a place, and whether it is bad. -/
def Sb (w0 w : World) (P : Nat) (bs : List Int) (p : Nat) (b : Bool) : Prop := ∃ ab ao c, w.cell? ⟨P, 0, none⟩ = some (.slice (some ⟨ab, ao, none⟩) bs.length c) ∧ w.cell? ⟨P, 1, none⟩ = some (.int .i64 (p : Int)) ∧ w.cell? ⟨P, 2, none⟩ = some (.bool b) ∧ (∀ j, w.frozen? ⟨P, j, none⟩ = false) ∧ bs.length ≤ 1000000 ∧ (∀ i, i < bs.length → w0.cell? ⟨ab, ao + i, none⟩ = some (.int .u8 (bs.getD i 0))) ∧ AllB bs ∧ Below w0.heap.size w0 w ∧ w0.heap.size ≤ P ∧ p ≤ bs.length
theorem Sb.pos {w0 w : World} {P : Nat} {bs : List Int} {p : Nat} {b : Bool} (h : Sb w0 w P bs p b) : P < w.heap.size := by
  obtain ⟨ab, ao, c, h1, -⟩ := h; exact World.block_lt_of_cell? w _ h1
theorem Sb.below {w0 w w' : World} {P : Nat} {bs : List Int} {p : Nat} {b : Bool} (h : Sb w0 w P bs p b) (hb : Below w.heap.size w w') : Sb w0 w' P bs p b := by
  have hp := h.pos
  obtain ⟨ab, ao, c, h1, h2, h3, h4, h5, h6, h7, h8, h9, h10⟩ := h
  exact ⟨ab, ao, c, (hb.cell (p := ⟨P, 0, none⟩) hp).trans h1, (hb.cell (p := ⟨P, 1, none⟩) hp).trans h2, (hb.cell (p := ⟨P, 2, none⟩) hp).trans h3, fun j => (hb.frozen (p := ⟨P, j, none⟩) hp).trans (h4 j), h5, h6, h7, h8.trans (hb.mono h8.size), h9, h10⟩
theorem Sb.flag {w0 w : World} {P : Nat} {bs : List Int} {p : Nat} {b : Bool} (h : Sb w0 w P bs p b) (b' : Bool) : Sb w0 (w.setCell ⟨P, 2, none⟩ (.bool b')) P bs p b' := by
  obtain ⟨ab, ao, c, h1, h2, h3, h4, h5, h6, h7, h8, h9, h10⟩ := h
  exact ⟨ab, ao, c, set_off h1 (by omega), set_off h2 (by omega), set_same h3, fun j => by rw [World.frozen?_setCell]; exact h4 j, h5, h6, h7, h8.setCell h9 _, h9, h10⟩
theorem Sb.go {w0 w : World} {P : Nat} {bs : List Int} {p : Nat} {b : Bool} (h : Sb w0 w P bs p b) (q : Nat) (hq : q ≤ bs.length) : Sb w0 (w.setCell ⟨P, 1, none⟩ (.int .i64 (q : Int))) P bs q b := by
  obtain ⟨ab, ao, c, h1, h2, h3, h4, h5, h6, h7, h8, h9, h10⟩ := h
  exact ⟨ab, ao, c, set_off h1 (by omega), set_same h2, set_off h3 (by omega), fun j => by rw [World.frozen?_setCell]; exact h4 j, h5, h6, h7, h8.setCell h9 _, h9, hq⟩
theorem getR_unf (bs : List Int) (p f k : Nat) (acc : Int) : By.getR false bs p 32 (f + 1) k acc = (if bs.length ≤ p + k then (1, 0, (bs.length : Int)) else if (32 : Int) - 7 * (k : Int) ≤ 7 ∧ 128 ≤ bs.getD (p + k) 0 then (2, 0, (p : Int) + k + 1) else if (32 : Int) - 7 * (k : Int) ≤ 7 ∧ By.rok false (bs.getD (p + k) 0) (32 - 7 * (k : Int)) = false then (3, 0, (p : Int) + k + 1) else if bs.getD (p + k) 0 < 128 then (0, By.fin false (acc + bs.getD (p + k) 0 % 128 * By.P2 (7 * (k : Int))) (bs.getD (p + k) 0) k, (p : Int) + k + 1) else By.getR false bs p 32 f (k + 1) (acc + bs.getD (p + k) 0 % 128 * By.P2 (7 * (k : Int)))) := by
  rw [By.getR]
theorem getR_shift (bs : List Int) (p f : Nat) (hp : p ≤ bs.length) : ∀ (d k : Nat) (acc : Int), k + d = 4 → By.getR false bs p 32 (f + d + 1) k acc = ((By.getR false (bs.drop p) 0 32 (f + d + 1) k acc).1, (By.getR false (bs.drop p) 0 32 (f + d + 1) k acc).2.1, (By.getR false (bs.drop p) 0 32 (f + d + 1) k acc).2.2 + (p : Int)) := by
  have hg : ∀ k, (bs.drop p).getD (0 + k) 0 = bs.getD (p + k) 0 := fun k => by simp [List.getD]
  have hl : ∀ k, ((bs.drop p).length ≤ 0 + k) ↔ (bs.length ≤ p + k) := fun k => by simp; omega
  intro d
  induction d with
  | zero =>
    intro k acc hk
    rw [Nat.add_zero]
    rw [getR_unf bs p f k acc, getR_unf (bs.drop p) 0 f k acc]
    rw [hg k]
    by_cases h1 : bs.length ≤ p + k
    · rw [if_pos h1, if_pos ((hl k).2 h1)]; simp; omega
    · rw [if_neg h1, if_neg (fun h => h1 ((hl k).1 h))]
      by_cases h2 : (32 : Int) - 7 * (k : Int) ≤ 7 ∧ 128 ≤ bs.getD (p + k) 0
      · rw [if_pos h2, if_pos h2]; simp; omega
      · rw [if_neg h2, if_neg h2]
        by_cases h3 : (32 : Int) - 7 * (k : Int) ≤ 7 ∧ By.rok false (bs.getD (p + k) 0) (32 - 7 * (k : Int)) = false
        · rw [if_pos h3, if_pos h3]; simp; omega
        · rw [if_neg h3, if_neg h3]
          have h4 : bs.getD (p + k) 0 < 128 := by
            have ek : k = 4 := by omega
            subst ek
            rcases Int.lt_or_le (bs.getD (p + 4) 0) 128 with h | h
            · exact h
            · exact absurd ⟨by decide, h⟩ h2
          rw [if_pos h4, if_pos h4]; simp; omega
  | succ d ih =>
    intro k acc hk
    rw [show f + (d + 1) + 1 = (f + d + 1) + 1 by omega]
    rw [getR_unf bs p (f + d + 1) k acc, getR_unf (bs.drop p) 0 (f + d + 1) k acc]
    rw [hg k]
    by_cases h1 : bs.length ≤ p + k
    · rw [if_pos h1, if_pos ((hl k).2 h1)]; simp; omega
    · rw [if_neg h1, if_neg (fun h => h1 ((hl k).1 h))]
      by_cases h2 : (32 : Int) - 7 * (k : Int) ≤ 7 ∧ 128 ≤ bs.getD (p + k) 0
      · rw [if_pos h2, if_pos h2]; simp; omega
      · rw [if_neg h2, if_neg h2]
        by_cases h3 : (32 : Int) - 7 * (k : Int) ≤ 7 ∧ By.rok false (bs.getD (p + k) 0) (32 - 7 * (k : Int)) = false
        · rw [if_pos h3, if_pos h3]; simp; omega
        · rw [if_neg h3, if_neg h3]
          by_cases h4 : bs.getD (p + k) 0 < 128
          · rw [if_pos h4, if_pos h4]; simp; omega
          · rw [if_neg h4, if_neg h4]
            exact ih (k + 1) _ (by omega)
theorem gn_at (bs : List Int) (p : Nat) (hp : p ≤ bs.length) : By.getA false bs (p : Int) 32 = ((gn (bs.drop p)).1, (gn (bs.drop p)).2.1, (gn (bs.drop p)).2.2 + (p : Int)) := by
  have e : By.getA false bs (p : Int) 32 = By.getR false bs p 32 10 0 0 := by
    unfold By.getA
    rw [if_pos ⟨by omega, by omega⟩]
    rfl
  rw [e, gn_eq]
  exact getR_shift bs p 5 hp 4 0 0 rfl
theorem leb_new {w W0 : World} {t : TypeId} (hb : Below ((w.alloc (.cells #[.int .i64 0, .int .u64 0, .int .i64 0] t)).drew).heap.size ((w.alloc (.cells #[.int .i64 0, .int .u64 0, .int .i64 0] t)).drew) W0) : W0.cell? ⟨w.heap.size, 0, none⟩ = some (.int .i64 0) ∧ W0.cell? ⟨w.heap.size, 1, none⟩ = some (.int .u64 0) ∧ W0.cell? ⟨w.heap.size, 2, none⟩ = some (.int .i64 0) ∧ ∀ j, W0.frozen? ⟨w.heap.size, j, none⟩ = false := by
  have hl : w.heap.size < ((w.alloc (.cells #[.int .i64 0, .int .u64 0, .int .i64 0] t)).drew).heap.size := by simp
  exact ⟨(hb.cell (p := ⟨w.heap.size, 0, none⟩) hl).trans (cell_new rfl rfl), (hb.cell (p := ⟨w.heap.size, 1, none⟩) hl).trans (cell_new rfl rfl), (hb.cell (p := ⟨w.heap.size, 2, none⟩) hl).trans (cell_new rfl rfl), fun j => (hb.frozen (p := ⟨w.heap.size, j, none⟩) hl).trans (World.frozen?_alloc_new _ _ _ _)⟩
theorem leb_bk {w W0 : World} {t : TypeId} (hb : Below ((w.alloc (.cells #[.int .i64 0, .int .u64 0, .int .i64 0] t)).drew).heap.size ((w.alloc (.cells #[.int .i64 0, .int .u64 0, .int .i64 0] t)).drew) W0) : Bk W0 w.heap.size [.int .i64 0, .int .u64 0, .int .i64 0] := by
  have hl : w.heap.size < ((w.alloc (.cells #[.int .i64 0, .int .u64 0, .int .i64 0] t)).drew).heap.size := by simp
  have h0 : Bk ((w.alloc (.cells #[.int .i64 0, .int .u64 0, .int .i64 0] t)).drew) w.heap.size [.int .i64 0, .int .u64 0, .int .i64 0] := Bk.new
  exact h0.keep hb
/-- The model's reading of a number. -/
def snV (l : List Int) (b : Bool) : Int := if (b || (gn l).1 != 0) = true then 0 else rnV l
def snN (l : List Int) (b : Bool) : Nat := if (b || (gn l).1 != 0) = true then 0 else (gn l).2.2.toNat
theorem sn_rp (l : List Int) (b : Bool) : RP (fun n => numsE [n]) u32B 0 (fun _ => 0) 0 l b (snV l b) (l.drop (snN l b)) (rnB l b) := by
  have h := rn_rp l b
  unfold snV snN
  by_cases hb : (b || (gn l).1 != 0) = true
  · rw [if_pos hb, if_pos hb]
    have hB : rnB l b = true := hb
    refine ⟨h.mono, fun y rest h1 h2 h3 => ?_, by simp, fun h' => ?_, by simp, fun _ => rfl, fun hl => ⟨by rw [hl]; rfl, rfl, hB⟩, ⟨0, rfl⟩⟩
    · have := (h.back y rest h1 h2 h3).2.2; rw [hB] at this; cases this
    · rw [hB] at h'; cases h'
  · rw [if_neg hb, if_neg hb]
    exact h
/-- What the reading of a number leaves. -/
def SnP (w0 w : World) (P : Nat) (bs : List Int) (p : Nat) (b : Bool) (w' : World) : Prop := Sb w0 w' P bs (p + snN (bs.drop p) b) (rnB (bs.drop p) b) ∧ Kp P w w'
set_option maxHeartbeats 4000000 in
theorem srn_c (w0 : World) (P : Nat) (bs : List Int) (p : Nat) (b : Bool) (w : World) (hS : Sb w0 w P bs p b) :
    Calls Try.prog 33 #[.pointer (some ⟨P, 0, none⟩)] w fun e w' => e = .returned (.int .i64 (snV (bs.drop p) b)) ∧ SnP w0 w P bs p b w' := by
  have HS := Hid.mk' hS
  have hPl := hS.pos
  obtain ⟨ab, ao, c, h1, h2, h3, h4, h5, h6, h7, h8, h9, h10⟩ := hS
  have KG := Hid.mk' (fun (d : World) (hd : Below w.heap.size w d) => By.specGetU_any (some ⟨ab, ao, none⟩) c bs (p : Int) 32 d (by omega) (Rb.has h6 (h8.trans (hd.mono h8.size))) h7)
  have hga := gn_at bs p h10
  obtain ⟨⟨r1, r2, r3⟩, hgn⟩ : ∃ r, r = gn (bs.drop p) := ⟨_, rfl⟩
  have hnx := gn_next (bs.drop p)
  have hvd : snV (bs.drop p) b = if (b || (gn (bs.drop p)).1 != 0) = true then 0 else IntKind.i64.wrap (gn (bs.drop p)).2.1 := rfl
  have hnd : snN (bs.drop p) b = if (b || (gn (bs.drop p)).1 != 0) = true then 0 else (gn (bs.drop p)).2.2.toNat := rfl
  have hbd : rnB (bs.drop p) b = (b || (gn (bs.drop p)).1 != 0) := rfl
  rw [← hgn] at hga hnx hvd hnd hbd
  obtain ⟨nn, hnn⟩ : ∃ nn : Nat, r3 = (nn : Int) := ⟨r3.toNat, by have := hnx.1; simp only at this; omega⟩
  subst hnn
  have hnl : p + nn ≤ bs.length := by have := hnx.2; simp only [List.length_drop] at this; omega
  simp only [Int.toNat_natCast] at hnd
  simp only at hga
  rw [hga] at KG
  have HV := Hid.mk' (And.intro hvd (And.intro hnd hbd))
  have f1 := h4 1
  have f2 := h4 2
  have ew : IntKind.i64.wrap r2 = wrap64 r2 := by rw [IntKind.wrap_i64]; unfold wrap64; omega
  have HEW := Hid.mk' ew
  clear h4 h6 h7 h8 hga hnx hgn hvd hnd hbd ew
  go_enter Try.func33, Try.ntmps33
  go_wp2_with fail
  go_cut [3] from 4 to 12 (fun s V => ∃ G, s = .pointer (some ⟨G, 0, none⟩) ∧ Bk V G [.int .i64 r1, .int .u64 r2, .int .i64 ((nn : Int) + (p : Int))] ∧ Below w.heap.size w V ∧ w.heap.size ≤ G)
  case first =>
    go_region_law (go_simp; refine (KG.out _ ?hd).mono ?_; (case hd => first | exact (Below.refl _ _).drew | exact bel_lit _ _); rintro e W0 ⟨rfl, hb0⟩; simp only [By.RV]; have HB0 := Hid.mk' hb0; (first | (have z := leb_new hb0; have z0 := z.1; have z1 := z.2.1; have z2 := z.2.2.1; have zf := z.2.2.2; clear z) | skip); clear hb0)
    all_goals
      go_wp2_with fail
      go_meet
      case rel =>
        first
          | exact ⟨w.heap.size, rfl, (leb_bk HB0.out).set.set.set, ((((bel_lit w _).trans (HB0.out.mono (bel_lit w _).size)).setCell (Nat.le_refl _) _).setCell (Nat.le_refl _) _).setCell (Nat.le_refl _) _, Nat.le_refl _⟩
          | exact ⟨W0.heap.size, rfl, Bk.new, (Below.trans (Below.refl w.heap.size w).drew HB0.out).alloc HB0.out.size _, HB0.out.size⟩
  case rest =>
    obtain ⟨G, rfl, bk, hbV, hG⟩ := hcut
    have hSV := HS.out.below hbV
    have c1 : wc.cell? ⟨P, 1, none⟩ = some (.int .i64 (p : Int)) := (hbV.cell (p := ⟨P, 1, none⟩) hPl).trans h2
    have c2 : wc.cell? ⟨P, 2, none⟩ = some (.bool b) := (hbV.cell (p := ⟨P, 2, none⟩) hPl).trans h3
    have z1 : wc.frozen? ⟨P, 1, none⟩ = false := (hbV.frozen (p := ⟨P, 1, none⟩) hPl).trans f1
    have z2 : wc.frozen? ⟨P, 2, none⟩ = false := (hbV.frozen (p := ⟨P, 2, none⟩) hPl).trans f2
    have g0 : wc.cell? ⟨G, 0, none⟩ = some (.int .i64 r1) := bk.2.1 0 _ rfl
    have g1 : wc.cell? ⟨G, 1, none⟩ = some (.int .u64 r2) := bk.2.1 1 _ rfl
    have g2 : wc.cell? ⟨G, 2, none⟩ = some (.int .i64 ((nn : Int) + (p : Int))) := bk.2.1 2 _ rfl
    have hGP : G ≠ P := by omega
    have hPG : P ≠ G := by omega
    have HBV := Hid.mk' hbV
    have HSV := Hid.mk' hSV
    clear bk hbV hSV KG h1 h2 h3 f1 f2 HS
    cases b with
    | true =>
      have HF : Hid (SnP w0 w P bs p true (wc.setCell ⟨P, 2, none⟩ (.bool true))) := by
        obtain ⟨_, q2, q3⟩ := HV.out
        refine ⟨?_, (Kp.of_below HBV.out).trans (Kp.set _ _)⟩
        rw [q2, q3]
        simpa using HSV.out.flag true
      have HX : Hid (snV (bs.drop p) true = 0) := by rw [HV.out.1]; rfl
      clear HSV HV
      go_wp2
      go_ret
      exact ⟨by rw [HX.out]; rfl, HF.out⟩
    | false =>
      by_cases hr : r1 = 0
      · have hr' : (r1 != 0) = false := by simp [hr]
        have HF : Hid (SnP w0 w P bs p false (wc.setCell ⟨P, 1, none⟩ (.int .i64 ((nn : Int) + (p : Int))))) := by
          obtain ⟨_, q2, q3⟩ := HV.out
          refine ⟨?_, (Kp.of_below HBV.out).trans (Kp.set _ _)⟩
          rw [q2, q3, hr']
          have := HSV.out.go (p + nn) hnl
          rw [show (((p + nn : Nat)) : Int) = (nn : Int) + (p : Int) by omega] at this
          simpa using this
        have HX : Hid (snV (bs.drop p) false = wrap64 r2) := by
          show snV (bs.drop p) false = wrap64 r2
          rw [HV.out.1, hr', if_neg (by decide)]
          exact HEW.out
        clear HSV HV
        go_wp2
        go_ret
        exact ⟨by rw [HX.out]; rfl, HF.out⟩
      · have hr' : (r1 != 0) = true := by simp [hr]
        have HF : Hid (SnP w0 w P bs p false (wc.setCell ⟨P, 2, none⟩ (.bool true))) := by
          obtain ⟨_, q2, q3⟩ := HV.out
          refine ⟨?_, (Kp.of_below HBV.out).trans (Kp.set _ _)⟩
          rw [q2, q3, hr']
          simpa using HSV.out.flag true
        have HX : Hid (snV (bs.drop p) false = 0) := by rw [HV.out.1, hr']; rfl
        clear HSV HV
        go_wp2
        go_ret
        exact ⟨by rw [HX.out]; rfl, HF.out⟩
end Go.Proofs.Ytfaajmhmcdoibaa
