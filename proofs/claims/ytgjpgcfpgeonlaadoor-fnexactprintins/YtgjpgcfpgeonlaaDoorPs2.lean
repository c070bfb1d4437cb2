import Derived.Test.YtgjpgcfpgeonlaaDoorPs1
import Derived.Test.YtgjpgcfpgeonlaaDoorPx
set_option linter.all false
set_option linter.unusedVariables false
namespace Go.Proofs.YtgjpgcfpgeonlaaDoor
open Go.RowKit Go.Sort
set_option maxRecDepth 100000
theorem sDec_c (x : Int) (w : World) (h0 : -9223372036854775808 ≤ x) (h1 : x ≤ 9223372036854775807) :
    Calls Tryd.prog 26 #[.int .i64 x] w fun e w' => e = .returned (.string (S (Lib.itoa x))) ∧ Below w.heap.size w w' := by
  by_cases h : x < 0
  · obtain ⟨n, rfl⟩ : ∃ n : Nat, x = -(n : Int) := ⟨x.natAbs, by omega⟩
    have hw1 : IntKind.u64.wrap (-(n : Int)) = 18446744073709551616 - (n : Int) := by rw [IntKind.wrap_u64]; omega
    have hw2 : IntKind.u64.wrap (-(18446744073709551616 - (n : Int))) = (n : Int) := by rw [IntKind.wrap_u64]; omega
    have K := Hid.mk' (sUDec_c n n (Nat.le_refl _) (by omega) w)
    have HI : Hid (Lib.itoa (-(n : Int)) = 45 :: Lib.decDigits n) := by
      show _ = _
      unfold Lib.itoa
      rw [if_pos h]
      simp
    have hl : (Lib.decDigits n).length ≤ 20 := dec_len n (by omega)
    have hz : ¬ 9223372036854775807 < 1 + (S (Lib.decDigits n)).size := by rw [S_size]; omega
    clear hl
    go_enter Tryd.func26, Tryd.ntmps26
    go_wp2_with fail
    refine K.out.mono ?_
    rintro e w1 ⟨rfl, hb⟩
    have HB := Hid.mk' hb
    clear hb K
    go_wp2
    go_ret
    refine ⟨?_, HB.out⟩
    rw [HI.out, show (45 :: Lib.decDigits n) = [45] ++ Lib.decDigits n from rfl, ← S_app]
    rfl
  · obtain ⟨n, rfl⟩ : ∃ n : Nat, x = (n : Int) := ⟨x.toNat, by omega⟩
    have hw1 : IntKind.u64.wrap (n : Int) = (n : Int) := by rw [IntKind.wrap_u64]; omega
    have K := Hid.mk' (sUDec_c n n (Nat.le_refl _) (by omega) w)
    have HI : Hid (Lib.itoa (n : Int) = Lib.decDigits n) := by
      show _ = _
      unfold Lib.itoa
      rw [if_neg h]
      simp
    go_enter Tryd.func26, Tryd.ntmps26
    go_wp2_with fail
    refine K.out.mono ?_
    rintro e w1 ⟨rfl, hb⟩
    have HB := Hid.mk' hb
    clear hb K
    go_wp2
    go_ret
    exact ⟨by rw [HI.out]; rfl, HB.out⟩
/-- The numbers of a list, each with a space ahead. -/
def nmT (l : List Int) : List UInt8 := tl (l.map Lib.itoa)
theorem nmT_step (l : List Int) (k : Nat) (h : k < l.length) : nmT (l.take (k + 1)) = nmT (l.take k) ++ 32 :: Lib.itoa (l.getD k 0) := by
  rw [List.take_add_one, List.getElem?_eq_getElem h]
  simp only [nmT, Option.toList, List.map_append, tl_app, List.map_cons, List.map_nil, tl_cons, tl_nil, List.append_nil]
  simp [List.getD, List.getElem?_eq_getElem h]
theorem nmT_len (l : List Int) (h : ∀ i, i < l.length → -9223372036854775808 ≤ l.getD i 0 ∧ l.getD i 0 ≤ 9223372036854775807) (k : Nat) : (nmT (l.take k)).length ≤ l.length * 22 := by
  have := tl_len 21 ((l.take k).map Lib.itoa) (fun x hx => by
    simp only [List.mem_map] at hx
    obtain ⟨y, hy, rfl⟩ := hx
    obtain ⟨i, hi, e⟩ := List.getElem_of_mem (List.mem_of_mem_take hy)
    have := h i hi
    rw [show l.getD i 0 = y by simp [List.getD, List.getElem?_eq_getElem hi, e]] at this
    exact itoa_len y this.1 this.2)
  refine Nat.le_trans this ?_
  simp only [List.length_map, List.length_take]
  exact Nat.mul_le_mul_right _ (Nat.min_le_right _ _)
set_option maxHeartbeats 2000000 in
theorem sNums_c (l : List Int) (la : Option Addr) (lc : Nat) (w : World) (hn : l.length ≤ 1048576) (hu : ∀ i, i < l.length → -9223372036854775808 ≤ l.getD i 0 ∧ l.getD i 0 ≤ 9223372036854775807) (hH : Has w la l) :
    Calls Tryd.prog 27 #[.slice la l.length lc] w fun e w' => e = .returned (.string (S (nmT l))) ∧ Below w.heap.size w w' := by
  have HU := Hid.mk' hu
  have HH := Hid.mk' hH
  clear hu hH
  go_enter Tryd.func27, Tryd.ntmps27
  go_wp2_with fail
  go_loopw [3, 4] (fun v i wr => ∃ k : Nat, k ≤ l.length ∧ i = .int .i64 k ∧ v = .string (S (nmT (l.take k))) ∧ Below w.heap.size w wr) (fun _ i _ => l.length - (intOf i).toNat)
  case atStart => exact ⟨0, Nat.zero_le _, rfl, rfl, Below.refl _ _⟩
  case round =>
    obtain ⟨k, hk, rfl, rfl, hb⟩ := hrel
    by_cases hlt : k < l.length
    · have hki : (k : Int) < (l.length : Int) := by omega
      rcases HH.out.keep hb with hx | ⟨b1, o1, ea, hc⟩
      · subst hx; simp at hlt
      have d := hc k hlt
      subst ea
      obtain ⟨u0, u1⟩ := HU.out k hlt
      have HS := Hid.mk' (nmT_step l k hlt)
      have hlk := nmT_len l HU.out k
      generalize hy : l.getD k 0 = y at *
      have KO := Hid.mk' (sDec_c y wr u0 u1)
      have hyl := itoa_len y u0 u1
      generalize Lib.itoa y = L at *
      generalize hpre : nmT (l.take k) = pre at *
      have q1 : ¬ 9223372036854775807 < (S pre).size + 1 := by rw [S_size]; omega
      have q2 : ¬ 9223372036854775807 < (S pre).size + 1 + (S L).size := by rw [S_size, S_size]; omega
      have HB := Hid.mk' hb
      clear hb hc hy hpre HH HU hlk hyl
      go_wp2_with fail
      refine (KO.out).mono ?_
      rintro e w2 ⟨rfl, hb2⟩
      have B2 := Hid.mk' (HB.out.trans (hb2.mono HB.out.size))
      clear hb2 KO
      go_wp2_with fail
      go_roundw
      case rel => exact ⟨k + 1, by omega, by go_num, by rw [HS.out, show (pre ++ 32 :: L) = (pre ++ [32]) ++ L by simp, ← S_app, ← S_app]; rfl, B2.out⟩
      case measure => simp [intOf]; omega
    · have e : k = l.length := by omega
      subst e
      have HB := Hid.mk' hb
      clear hb HH HU
      go_wp2
      go_ret
      exact ⟨by rw [List.take_length]; rfl, HB.out⟩
end Go.Proofs.YtgjpgcfpgeonlaaDoor
