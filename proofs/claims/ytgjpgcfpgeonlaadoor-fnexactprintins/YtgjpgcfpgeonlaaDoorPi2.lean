import Derived.Test.YtgjpgcfpgeonlaaDoorPi1
set_option linter.all false
set_option linter.unusedVariables false
namespace Go.Proofs.YtgjpgcfpgeonlaaDoor
open Go.RowKit Go.Sort
set_option maxRecDepth 100000
set_option maxHeartbeats 400000 in
theorem bits_c (u n : Nat) (w : World) (hn1 : 1 ≤ n) (hn : n ≤ 16) (hu : u < 16 ^ n) (hV : Vs w) :
    Calls Tryd.prog 54 #[.int .u64 (u : Int), .int .i64 (n : Int)] w fun e w' => e = .returned (.string (S (bitsT n u))) ∧ Below w.heap.size w w' := by
  have h64 : u < 18446744073709551616 := by
    have h1 : 16 ^ n ≤ 16 ^ 16 := Nat.pow_le_pow_right (by omega) hn
    have h2 : (16 : Nat) ^ 16 = 18446744073709551616 := by decide
    rw [h2] at h1
    omega
  have K := Hid.mk' (fu_c u w h64 hV.1)
  have hl : (hexD u).length ≤ n := by
    obtain ⟨m, rfl⟩ : ∃ m, n = m + 1 := ⟨n - 1, by omega⟩
    exact (hexD_spec m u hu).1
  have HE : Hid ([48, 120] ++ Lib.repeatL [48] (n - (hexD u).length) ++ hexD u = bitsT n u) := by
    show _ = _
    obtain ⟨m, rfl⟩ : ∃ m, n = m + 1 := ⟨n - 1, by omega⟩
    exact bits_eq m u hu
  generalize bitsT n u = M at *
  generalize hexD u = L at *
  obtain ⟨c, hc⟩ : ∃ c, c = n - L.length := ⟨_, rfl⟩
  rw [← hc] at HE
  have KR := Hid.mk' (fun w => Tryd.strings_Repeat ⟨#[48]⟩ c w (by omega) (by show 1 * c ≤ _; omega))
  rw [show (⟨#[48]⟩ : ByteArray).data.toList = [48] from rfl] at KR
  have hrl : (Lib.repeatL [48] c).length = c := by rw [repeat_eq]; simp
  generalize Lib.repeatL [48] c = R at *
  rw [show (⟨R.toArray⟩ : ByteArray) = S R from rfl] at KR
  have hw : IntKind.i64.wrap ((n : Int) - ((S L).size : Int)) = (c : Int) := by rw [IntKind.wrap_i64, S_size]; omega
  have q1 : ¬ 9223372036854775807 < 2 + (S R).size := by rw [S_size]; omega
  have q2 : ¬ 9223372036854775807 < 2 + (S R).size + (S L).size := by rw [S_size, S_size]; omega
  have HC := Hid.mk' hc
  clear hV hu hc
  go_enter Tryd.func54, Tryd.ntmps54
  go_wp2_with fail
  refine K.out.mono ?_
  rintro e w1 ⟨rfl, hb⟩
  have HB := Hid.mk' hb
  clear K hb
  go_wp2_with fail
  refine (KR.out _).mono ?_
  rintro e w2 ⟨rfl, hb⟩
  have HB2 := Hid.mk' (HB.out.trans (hb.mono HB.out.size))
  clear hb
  go_wp2
  go_ret
  exact ⟨by rw [← HE.out, ← S_app, ← S_app]; rfl, HB2.out⟩
/-- Words as cells. -/
def Sv (r : List (List UInt8)) : List Value := r.map (fun x => .string (S x))
theorem Tryd.info9 : (Tryd.prog.info? 9).map (fun i => (i.zero, i.size, i.bytes)) = some (some (.string ⟨#[]⟩), 1, 16) := by kernel_rfl
theorem oneS (s : ByteArray) : ∀ u ∈ [Value.string s], u.oneCell' = true := by
  intro u hu; simp at hu; subst hu; rfl
set_option maxHeartbeats 2000000 in
theorem each_c (l : List Int) (la : Option Addr) (lc : Nat) (w : World) (hn : l.length ≤ 1048576) (hu : ∀ i, i < l.length → -9223372036854775808 ≤ l.getD i 0 ∧ l.getD i 0 ≤ 9223372036854775807) (hH : Has w la l) (hV : Vs w) :
    Calls Tryd.prog 53 #[.slice la l.length lc, .func (.func 52) #[] #[]] w fun e w' => ∃ v, e = .returned v ∧ w'.ownsRow w.heap.size 9 1 v l.length (Sv (l.map Lib.itoa)) ∧ Below w.heap.size w w' := by
  obtain ⟨i0, hi, hz0, hz1, hz2⟩ := info_parts Tryd.info9
  have HU := Hid.mk' hu
  have HH := Hid.mk' hH
  have HV := Hid.mk' hV
  clear hu hH hV
  go_enter Tryd.func53, Tryd.ntmps53
  go_wp2_with fail
  go_loopw [5, 10] (fun v i wr => ∃ k : Nat, k ≤ l.length ∧ i = .int .i64 k ∧ wr.ownsRow w.heap.size 9 1 v k (Sv ((l.take k).map Lib.itoa)) ∧ Below w.heap.size w wr) (fun _ i _ => l.length - (intOf i).toNat)
  case atStart => exact ⟨0, Nat.zero_le _, rfl, by simpa [Sv] using World.ownsRow_nil _ _ _ _, Below.refl _ _⟩
  case round =>
    obtain ⟨k, hk, rfl, ho, hb⟩ := hrel
    by_cases hlt : k < l.length
    · have hki : (k : Int) < (l.length : Int) := by omega
      rcases HH.out.keep hb with hx | ⟨b1, o1, ea, hc⟩
      · subst hx; simp at hlt
      have d := hc k hlt
      subst ea
      obtain ⟨u0, u1⟩ := HU.out k hlt
      have HS : Hid (Sv ((l.take (k + 1)).map Lib.itoa) = Sv ((l.take k).map Lib.itoa) ++ [.string (S (Lib.itoa (l.getD k 0)))]) := by
        show _ = _
        rw [List.take_add_one, List.getElem?_eq_getElem hlt]
        rw [show l.getD k 0 = l[k] by simp [List.getD, hlt]]
        simp only [Sv, Option.toList, List.map_append, List.map_cons, List.map_nil]
      generalize hy : l.getD k 0 = y at *
      have KO := Hid.mk' (num_c y wr u0 u1 (HV.out.keep hb))
      generalize Lib.itoa y = L at *
      generalize Sv ((l.take k).map Lib.itoa) = pre at *
      have HB := Hid.mk' hb
      have HO := Hid.mk' ho
      clear hb hc hy HH HU ho HV
      go_wp2_with (first
        | (go_at_call 52
           refine (KO.out).mono ?_
           rintro e w2 ⟨rfl, hb2⟩
           have O2 := Hid.mk' (ownE_keep HO.out hb2 (Nat.le_refl _))
           have B2 := Hid.mk' (HB.out.trans (hb2.mono HB.out.size))
           clear hb2 KO)
        | (at_builtin
           refine wpList_append_own _ rfl _ _ 53 rfl w.heap.size 9 i0 (.string ⟨#[]⟩) 1 16 Tryd.underlying53 hi hz0 hz1 hz2 rfl (by decide) _ _ _ rfl (O2.out.alloc _) ⟨w2.heap.size, 0, none⟩ 1 1 [.string (S L)] rfl rfl (cell_one_new _ _ _) (oneS _) (by unfold maxLen; omega) (by omega) (by have := B2.out.size; simp; omega) ?_
           intro v3 w3 own3 gr3 hnn
           have HO3 := Hid.mk' own3
           have HB3 := Hid.mk' ((B2.out.alloc B2.out.size _).grown gr3 (by have := B2.out.size; simp; omega) (fun t ht => (O2.out.lt t ht).1))
           clear own3 gr3 hnn))
      go_roundw
      case rel => exact ⟨k + 1, by omega, by go_num, by rw [HS.out]; exact HO3.out, HB3.out⟩
      case measure => simp [intOf]; omega
    · have e : k = l.length := by omega
      subst e
      have HB := Hid.mk' hb
      have HO := Hid.mk' ho
      clear hb HH HU ho
      go_wp2
      go_ret
      refine ⟨_, rfl, ?_, HB.out⟩
      have h := HO.out
      rw [List.take_length] at h
      exact h
end Go.Proofs.YtgjpgcfpgeonlaaDoor
