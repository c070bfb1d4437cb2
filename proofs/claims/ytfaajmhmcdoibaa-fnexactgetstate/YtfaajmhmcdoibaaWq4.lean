import Derived.Test.YtfaajmhmcdoibaaWq3
set_option linter.all false
set_option linter.unusedVariables false
namespace Go.Proofs.Ytfaajmhmcdoibaa
open Go.RowKit Go.Sort
set_option maxRecDepth 100000
/-- What a writing leaves. -/
def NP (w : World) (p : Nat) (S : Nat → Prop) (xs : List Int) (b : Bool) (ok : Bool) (ys : List Int) (c : Nat) (w' : World) : Prop := ∃ xs' b', Wb w' p S xs' b' ∧ Kept S w w' ∧ Wp xs b xs' b' ok ys c
/-- A row of pointers to these numbers, all of it in blocks that stay. -/
def Ptrs (w : World) (S : Nat → Prop) (g : Nat) (ns : List Int) : Prop := S g ∧ ∀ i, i < ns.length → ∃ ab ao, w.cell? ⟨g, i, none⟩ = some (.pointer (some ⟨ab, ao, none⟩)) ∧ S ab ∧ w.cell? ⟨ab, ao, none⟩ = some (.int .i64 (ns.getD i 0))
theorem Ptrs.kept {w w' : World} {S : Nat → Prop} {g : Nat} {ns : List Int} (h : Ptrs w S g ns) (k : Kept S w w') : Ptrs w' S g ns := by
  refine ⟨h.1, fun i hi => ?_⟩
  obtain ⟨ab, ao, h1, h2, h3⟩ := h.2 i hi
  exact ⟨ab, ao, (k.cell h.1).trans h1, h2, (k.cell h2).trans h3⟩
set_option maxHeartbeats 4000000 in
theorem wnum_c (p : Nat) (S : Nat → Prop) (xs : List Int) (b : Bool) (g gc : Nat) (ns : List Int) (w : World) (hn : ns.length ≤ 3) (hl : xs.length ≤ 549755813888) (hP : Ptrs w S g ns) (hW : Wb w p S xs b) :
    Calls Try.prog 81 #[.pointer (some ⟨p, 0, none⟩), .slice (some ⟨g, 0, none⟩) ns.length gc] w fun e w' => e = .returned (.tuple #[]) ∧ NP w p S xs b (numsO ns) (numsE ns) (10 * ns.length) w' := by
  have HP := Hid.mk' hP
  have HW := Hid.mk' hW
  clear hP hW
  go_enter Try.func81, Try.ntmps81
  go_wp2
  go_loopw [8] (fun i wr => ∃ k : Nat, k ≤ ns.length ∧ i = .int .i64 k ∧ NP w p S xs b (numsO (ns.take k)) (numsE (ns.take k)) (10 * k) wr) (fun i _ => ns.length - (intOf i).toNat)
  case atStart => exact ⟨0, Nat.zero_le _, rfl, xs, b, HW.out, Kept.refl _ _, Wp.refl _ _⟩
  case round =>
    obtain ⟨k, hk, rfl, xs1, b1, hw, hkp, hwp⟩ := hrel
    clear HW
    by_cases hlt : k < ns.length
    · have hki : (k : Int) < (ns.length : Int) := by omega
      obtain ⟨ab, ao, d1, hSa, d2⟩ := (HP.out.kept hkp).2 k hlt
      have hle := hwp.le
      have hu64 := u64_id (x := ns.getD k 0)
      have hts := take_snoc 0 ns k hlt
      generalize hx : ns.getD k 0 = x at *
      have HF := Hid.mk' (hw.flag (b1 || !u32B x))
      have HT : Hid (∀ w2, Wb w2 p S (xs1 ++ lebU 9 (u64 x)) (b1 || !u32B x) → Kept S wr w2 → NP w p S xs b (numsO (ns.take (k + 1))) (numsE (ns.take (k + 1))) (10 * (k + 1)) w2) := by
        intro w2 h1 h2
        refine ⟨_, _, h1, hkp.trans h2, ?_⟩
        rw [hts, numsE_snoc, numsO_snoc]
        exact hwp.trans (Wp.num xs1 (lebU 9 (u64 x)) b1 x (lebU_len 9 _).2 (fun h => by rw [hu64 h]))
      have KU := Hid.mk' (fun W (h : Wb W p S xs1 (b1 || !u32B x)) => wu32_c p S xs1 (b1 || !u32B x) x W (by omega) h)
      have HD2 := Hid.mk' d2
      have HSa := Hid.mk' hSa
      obtain ⟨v, c0, cb, f0, -, -, -, -⟩ := hw
      have f1 := f0 1
      clear hkp hwp hle hu64 hts hx HP c0 f0 hSa
      cases b1 with
      | true =>
        go_upto_region 4 with fail
        refine wp_gen (fun W => Wb W p S xs1 (true || !u32B x) ∧ Kept S wr W) HF.out ?_
        rintro W ⟨hW1, hK1⟩
        have d3 : W.cell? ⟨ab, ao, none⟩ = some (.int .i64 x) := (hK1.cell HSa.out).trans HD2.out
        have HU := Hid.mk' (KU.out W.drew (hW1.keep (Below.refl _ _).drew))
        have HKK := Hid.mk' (hK1.trans (Kept.of_below (Below.refl _ _).drew hW1.lt))
        clear hW1 hK1 KU HF cb f1 d1 d2 HD2
        go_region_law (go_simp; refine HU.out.mono ?_; rintro e w2 ⟨rfl, hw2, hk2⟩; have HR := Hid.mk' (HT.out w2 hw2 (HKK.out.trans hk2)); clear hw2 hk2)
        all_goals
          go_simp
          go_wp2
          go_roundw
          case rel => exact ⟨k + 1, by omega, by go_num, HR.out⟩
          case measure => simp [intOf]; omega
      | false =>
        have KI := Hid.mk' (isu_c x)
        go_wp2_with fail
        refine (KI.out _).mono ?_
        rintro e W0 ⟨rfl, rfl⟩
        go_upto_region 4 with fail
        refine wp_gen (fun W => Wb W p S xs1 (false || !u32B x) ∧ Kept S wr W) HF.out ?_
        rintro W ⟨hW1, hK1⟩
        have d3 : W.cell? ⟨ab, ao, none⟩ = some (.int .i64 x) := (hK1.cell HSa.out).trans HD2.out
        have HU := Hid.mk' (KU.out W.drew (hW1.keep (Below.refl _ _).drew))
        have HKK := Hid.mk' (hK1.trans (Kept.of_below (Below.refl _ _).drew hW1.lt))
        clear hW1 hK1 KU HF cb f1 d1 d2 HD2 KI
        go_region_law (go_simp; refine HU.out.mono ?_; rintro e w2 ⟨rfl, hw2, hk2⟩; have HR := Hid.mk' (HT.out w2 hw2 (HKK.out.trans hk2)); clear hw2 hk2)
        all_goals
          go_simp
          go_wp2
          go_roundw
          case rel => exact ⟨k + 1, by omega, by go_num, HR.out⟩
          case measure => simp [intOf]; omega
    · have e : k = ns.length := by omega
      subst e
      have HR : Hid (NP w p S xs b (numsO ns) (numsE ns) (10 * ns.length) wr) := by rw [List.take_length] at hwp; exact ⟨xs1, b1, hw, hkp, hwp⟩
      clear hw hkp hwp HP
      go_wp2
      go_end0
      exact ⟨rfl, HR.out⟩
set_option maxHeartbeats 4000000 in
theorem wval_c (p : Nat) (S : Nat → Prop) (xs : List Int) (b : Bool) (ab ao : Nat) (v : Int) (w : World) (h0 : 0 ≤ v) (h1 : v ≤ 18446744073709551615) (hl : xs.length ≤ 549755813888) (hc : w.cell? ⟨ab, ao, none⟩ = some (.int .u64 v)) (hW : Wb w p S xs b) :
    Calls Try.prog 82 #[.pointer (some ⟨p, 0, none⟩), .pointer (some ⟨ab, ao, none⟩)] w fun e w' => e = .returned (.tuple #[]) ∧ NP w p S xs b true (fx 8 v) 8 w' := by
  have KU := Hid.mk' (fun W (h : Wb W p S xs b) => wflt_c p S xs b v 8 W rfl h0 h1 hl h)
  have HW := Hid.mk' hW
  have HC := Hid.mk' hc
  obtain ⟨u, c0, cb, f0, -, -, -, -⟩ := hW
  clear cb f0 h0 h1
  go_enter Try.func82, Try.ntmps82
  go_region_law (go_simp; refine (KU.out _ (HW.out.keep (Below.refl _ _).drew)).mono ?_; rintro e w2 ⟨rfl, hw2, hk2⟩; have HR : Hid (NP w p S xs b true (fx 8 v) 8 w2) := ⟨_, _, hw2, (Kept.of_below (Below.refl _ _).drew HW.out.lt).trans hk2, Wp.bytes _ _ _ _ (by rw [fx_len]; exact Nat.le_refl _)⟩; clear hw2 hk2)
  all_goals
    go_simp
    go_wp2
    go_end0
    exact ⟨rfl, HR.out⟩
set_option maxHeartbeats 4000000 in
theorem wmark_c (p : Nat) (S : Nat → Prop) (xs : List Int) (b : Bool) (ab ao : Nat) (f : Bool) (w : World) (hl : xs.length ≤ 549755813888) (hc : w.cell? ⟨ab, ao, none⟩ = some (.bool f)) (hW : Wb w p S xs b) :
    Calls Try.prog 80 #[.pointer (some ⟨p, 0, none⟩), .pointer (some ⟨ab, ao, none⟩)] w fun e w' => e = .returned (.tuple #[]) ∧ NP w p S xs b true (flB f) 1 w' := by
  have KU := Hid.mk' (fun W (h : Wb W p S xs b) => wflag_c p S xs b f W (by omega) h)
  have HW := Hid.mk' hW
  have HC := Hid.mk' hc
  obtain ⟨u, c0, cb, f0, -, -, -, -⟩ := hW
  clear cb f0
  go_enter Try.func80, Try.ntmps80
  go_region_law (go_simp; refine (KU.out _ (HW.out.keep (Below.refl _ _).drew)).mono ?_; rintro e w2 ⟨rfl, hw2, hk2⟩; have HR : Hid (NP w p S xs b true (flB f) 1 w2) := ⟨_, _, hw2, (Kept.of_below (Below.refl _ _).drew HW.out.lt).trans hk2, Wp.bytes _ _ _ _ (by simp [flB])⟩; clear hw2 hk2)
  all_goals
    go_simp
    go_wp2
    go_end0
    exact ⟨rfl, HR.out⟩
end Go.Proofs.Ytfaajmhmcdoibaa
