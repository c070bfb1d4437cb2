import Derived.Test.YtgjpgcfpgeonlaaDoorPs2
set_option linter.all false
set_option linter.unusedVariables false
namespace Go.Proofs.YtgjpgcfpgeonlaaDoor
open Go.RowKit Go.Sort
set_option maxRecDepth 100000
/-- The bytes as numbers. -/
def bI (l : List UInt8) : List Int := l.map (fun b => (b.toNat : Int))
theorem bI_len (l : List UInt8) : (bI l).length = l.length := by simp [bI]
theorem bI_app (l m : List UInt8) : bI (l ++ m) = bI l ++ bI m := by simp [bI]
theorem hexN_get : ∀ (n u k : Nat), k < n → (hexN n u)[k]? = some (hx (u / 16 ^ (n - 1 - k) % 16))
  | 0, _, _, h => by omega
  | n + 1, u, 0, _ => by rw [hexN_cons]; simp
  | n + 1, u, k + 1, h => by
    rw [hexN_cons, List.getElem?_cons_succ, hexN_get n u k (by omega)]
    rw [show n + 1 - 1 - (k + 1) = n - 1 - k by omega]
theorem hexN_take (n u k : Nat) (h : k < n) : (hexN n u).take (k + 1) = (hexN n u).take k ++ [hx (u / 16 ^ (n - 1 - k) % 16)] := by
  rw [List.take_add_one, hexN_get n u k h]
  rfl
theorem P2_16 (i : Nat) : P2 (4 * (i : Int)) = ((16 ^ i : Nat) : Int) := by
  unfold P2
  rw [show (4 * (i : Int)).toNat = 4 * i by omega, Int.pow_mul]
  simp
theorem own_conv {w : World} {B : Nat} {v : Value} {l : List UInt8} (h : w.ownsRow B 5 1 v l.length (U (bI l))) (hl : 1 ≤ l.length) : (convert 27 9 v).run Tryd.prog w = .ok (.string (S l)) w := by
  obtain ⟨g, cap, rfl, _, _⟩ := By.own_split h hl
  refine conv_c l g 0 cap w (fun j hj => ?_)
  rw [Nat.zero_add, h.cellAt j (by omega)]
  simp [U, bI, hj]
set_option maxHeartbeats 800000 in
theorem sHex_c (u n : Nat) (w : World) (hn1 : 1 ≤ n) (hn : n ≤ 16) (hu : u < 18446744073709551616) :
    Calls Tryd.prog 29 #[.int .u64 (u : Int), .int .i64 (n : Int)] w fun e w' => e = .returned (.string (S (bitsT n u))) ∧ Below w.heap.size w w' := by
  obtain ⟨i0, hi, hz0, hz1, hz2⟩ := info_parts Tryd.info5
  have hw0 : IntKind.i64.wrap ((n : Int) - 1) = (n : Int) - 1 := by rw [IntKind.wrap_i64]; omega
  go_enter Tryd.func29, Tryd.ntmps29
  go_wp2
  go_loopw [5, 6] (fun v i wr => ∃ k : Nat, k ≤ n ∧ i = .int .i64 ((n : Int) - 1 - k) ∧ wr.ownsRow w.heap.size 5 1 v ((hexN n u).take k).length (U (bI ((hexN n u).take k))) ∧ Below w.heap.size w wr) (fun _ i _ => (intOf i + 1).toNat)
  case atStart => exact ⟨0, Nat.zero_le _, by simp, World.ownsRow_lit w #[] 0 (Nat.le_refl _) (Nat.zero_le _) rfl, (Below.refl _ _).alloc (Nat.le_refl _) _⟩
  case round =>
    obtain ⟨k, hk, rfl, hown, hbel⟩ := hrel
    have hsz := hbel.size
    by_cases hlt : k < n
    · have HF := Hid.mk' (hexN_take n u k hlt)
      obtain ⟨j, hj⟩ : ∃ j, j = n - 1 - k := ⟨_, rfl⟩
      rw [← hj] at HF
      have hji : (n : Int) - 1 - k = (j : Int) := by omega
      rw [hji]
      have hge : (0 : Int) ≤ (j : Int) := by omega
      have hwm : IntKind.i64.wrap (4 * (j : Int)) = 4 * (j : Int) := by rw [IntKind.wrap_i64]; omega
      have KP := Hid.mk' (fun w => pow_any (4 * (j : Int)) w (by omega) (by omega))
      rw [P2_16] at KP
      have hp : 0 < 16 ^ j := Nat.pow_pos (by omega)
      have hpl : (16 ^ j : Nat) ≤ 16 ^ 15 := Nat.pow_le_pow_right (by omega) (by omega)
      rw [show (16 : Nat) ^ 15 = 1152921504606846976 by decide] at hpl
      obtain ⟨p, hpe⟩ : ∃ p, p = 16 ^ j := ⟨_, rfl⟩
      rw [← hpe] at HF KP hp hpl
      have hd0 : u / p ≤ u := Nat.div_le_self _ _
      obtain ⟨q, hq⟩ : ∃ q, q = u / p := ⟨_, rfl⟩
      rw [← hq] at HF hd0
      have hquo : IntKind.u64.wrap ((u : Int) / (p : Int)) = (q : Int) := by rw [IntKind.wrap_u64, hq, ← Int.natCast_ediv]; omega
      have hquo' : (u : Int) / (p : Int) = (q : Int) := by rw [hq, ← Int.natCast_ediv]
      have hne : ((p : Int) == 0) = false := by simp; omega
      have hne' : ¬ (p : Int) = 0 := by omega
      have hq8 : IntKind.u8.wrap (q : Int) = (q : Int) % 256 := by rw [IntKind.wrap_u8]
      have KD := Hid.mk' (fun w => sDigit_c (q % 256) w (by omega))
      rw [show q % 256 % 16 = q % 16 by omega, show ((q % 256 : Nat) : Int) = (q : Int) % 256 by omega] at KD
      have hlf : ((hexN n u).take k).length ≤ 16 := by simp; omega
      generalize (hexN n u).take k = pre at *
      have hbl := bI_len pre
      have HJ := Hid.mk' hji
      have hjl : j ≤ 15 := by omega
      clear hq hpe hj hji
      go_wp2_with (first
        | (go_at_call 46; refine (KP.out _).mono ?_; rintro e w' ⟨rfl, rfl⟩)
        | (go_at_call 47; refine (KD.out _).mono ?_; rintro e w' ⟨rfl, rfl⟩)
        | (at_builtin; refine wpList_append_own _ rfl _ _ 27 rfl w.heap.size 5 i0 (.int .u8 0) 1 1 Tryd.underlying27 hi hz0 hz1 hz2 rfl (by decide) _ _ _ rfl (hown.alloc _) ⟨wr.heap.size, 0, none⟩ 1 1 [.int .u8 ((hx (q % 16)).toNat : Int)] rfl rfl (cell_one_new _ _ _) (oneB _) (by unfold maxLen; omega) (by omega) (by simp; omega) ?_; intro v' w1 hown' hgrow hnn; have HG := Hid.mk' ((hbel.alloc hsz _).grown hgrow (by simp; omega) (fun t ht => (hown.lt t ht).1)); have HO := Hid.mk' hown'; clear hown' hgrow hown hbel hsz hnn))
      have HW : Hid (w1.ownsRow w.heap.size 5 1 v' (pre ++ [hx (q % 16)]).length (U (bI (pre ++ [hx (q % 16)])))) := by
        show World.ownsRow _ _ _ _ _ _ _
        have h := HO.out
        rw [show (pre ++ [hx (q % 16)]).length = pre.length + 1 by simp]
        rw [bI_app]
        simpa [U, bI] using h
      have hwj : IntKind.i64.wrap ((j : Int) - 1) = (j : Int) - 1 := by rw [IntKind.wrap_i64]; omega
      go_wp2
      go_roundw
      case rel => exact ⟨k + 1, by omega, by have := HJ.out; congr 1; push_cast; omega, by rw [HF.out]; exact HW.out, HG.out⟩
      case measure => have := HJ.out; simp only [intOf]; omega
    · have e : k = n := by omega
      subst e
      rw [List.take_of_length_le (by rw [hexN_length]; exact Nat.le_refl _)] at hown
      have hcv := own_conv hown (by rw [hexN_length]; exact hn1)
      have HB := Hid.mk' hbel
      have hz : ¬ 9223372036854775807 < 2 + (S (hexN k u)).size := by rw [S_size, hexN_length]; omega
      have hlt' : ¬ (0 : Int) ≤ (k : Int) - 1 - k := by omega
      clear hown hbel
      go_wp2
      go_ret
      refine ⟨?_, HB.out⟩
      rw [bitsT, ← S_app]
      rfl
end Go.Proofs.YtgjpgcfpgeonlaaDoor
