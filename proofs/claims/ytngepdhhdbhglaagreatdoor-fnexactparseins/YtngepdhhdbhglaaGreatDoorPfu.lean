import Derived.Test.YtngepdhhdbhglaaGreatDoorPs1
import Derived.Test.YtngepdhhdbhglaaGreatDoorMath
set_option linter.all false
set_option linter.unusedVariables false
namespace Go.Proofs.YtngepdhhdbhglaaGreatDoor
open Go.RowKit
set_option maxRecDepth 100000
theorem tz16_c (w : World) (hT : w.cell? ⟨5, 15, none⟩ = some (.int .u8 4)) : Calls Tryz.prog 113 #[.int .u64 16] w fun e w' => e = .returned (.int .i64 4) ∧ w = w' := by
  have hk : IntKind.u64.wrap (bits .and .u64 16 (IntKind.u64.wrap (-16)) * 285870213051353865) / 288230376151711744 = 15 := by decide
  go_enter Tryz.func113, Tryz.ntmps113
  go_wp2
  go_ret
  exact ⟨rfl, rfl⟩
theorem pow2_c (w : World) : Calls Tryz.prog 112 #[.int .i64 16] w fun e w' => e = .returned (.bool true) ∧ w = w' := by
  have hk : bits .and .i64 16 15 = 0 := by decide
  go_enter Tryz.func112, Tryz.ntmps112
  go_wp2
  go_ret
  exact ⟨rfl, rfl⟩
/-- The array of digits behind k of them. -/
def hxA (u k : Nat) : Array Value := (List.replicate (65 - k) (Value.int .u8 0) ++ (hexN k u).map (fun b => Value.int .u8 (b.toNat : Int))).toArray
theorem hxA_at (u k : Nat) (hk : k < 65) : (hxA u k)[64 - k]? = some (Value.int .u8 0) := by
  simp only [hxA, List.getElem?_toArray]
  rw [List.getElem?_append_left (by simp; omega), List.getElem?_replicate, if_pos (by omega)]
theorem hxA_set (u k : Nat) (hk : k < 65) : (hxA u k).setIfInBounds (64 - k) (Value.int .u8 ((hx (u / 16 ^ k % 16)).toNat : Int)) = hxA u (k + 1) := by
  simp only [hxA, List.setIfInBounds_toArray]
  congr 1
  rw [hexN_cons, show 65 - k = (64 - k) + 1 by omega, List.replicate_succ', List.append_assoc, List.set_append_right _ _ (by simp)]
  simp [show 65 - (k + 1) = 64 - k by omega]
theorem hx36_at : ∀ k (h : k < 16), ((⟨#[48, 49, 50, 51, 52, 53, 54, 55, 56, 57, 97, 98, 99, 100, 101, 102, 103, 104, 105, 106, 107, 108, 109, 110, 111, 112, 113, 114, 115, 116, 117, 118, 119, 120, 121, 122]⟩ : ByteArray)[k]'(by show k < 36; omega)) = hx k := by decide
theorem k14 (u k : Nat) (hu : u < 18446744073709551616) (h : 16 ≤ u / 16 ^ k) : k ≤ 14 := by
  rcases Nat.lt_or_ge k 15 with h1 | h1
  · omega
  · have h2 : 16 ^ 15 ≤ 16 ^ k := Nat.pow_le_pow_right (by omega) h1
    have h3 : u / 16 ^ k ≤ u / 16 ^ 15 := Nat.div_le_div_left h2 (by decide)
    have h4 : u / 16 ^ 15 < 16 := by
      rw [show (16 : Nat) ^ 15 = 1152921504606846976 by decide]; omega
    omega
theorem hxA_cell (u k m j : Nat) (hkm : k + m = 64) (hj : j < (hexN (k + 1) u).length) (w : World) : (w.alloc (.cells (hxA u (k + 1)) 158)).cell? ⟨w.heap.size, m + j, none⟩ = some (.int .u8 ((hexN (k + 1) u)[j].toNat : Int)) := by
  have : (hxA u (k + 1))[m + j]? = some (.int .u8 ((hexN (k + 1) u)[j].toNat : Int)) := by
    simp only [hxA, List.getElem?_toArray]
    rw [List.getElem?_append_right (by simp; omega)]
    simp only [List.length_replicate, show m + j - (65 - (k + 1)) = j by omega, List.getElem?_map, List.getElem?_eq_getElem hj, Option.map_some]
  simp [this]
theorem sl_c (b m k : Nat) (hkm : k + m = 64) (W : World) : (Instr.sliceAt 158 (.pointer (some ⟨b, 0, none⟩)) (some (.int .i64 (m : Int))) none none).run Tryz.prog W = .ok (.slice (some ⟨b, m, none⟩) (k + 1) (k + 1)) W := by
  have hal : Tryz.prog.arrayLen 158 = 65 := by kernel_rfl
  rw [run_sliceAt_array_l W 158 ⟨b, 0, none⟩ (by simp [Program.arrayLen, Program.elem, Tryz.underlying158]) .i64 (m : Int) (by omega) (by rw [hal]; omega)]
  have hz : ¬ 65 = m := by omega
  have h1 : 65 - m = k + 1 := by omega
  have he : Tryz.prog.elem 158 = 5 := by kernel_rfl
  rw [hal, he]
  go_simp
theorem fmt16_c (u : Nat) (w : World) (hu : u < 18446744073709551616) (hT : w.cell? ⟨5, 15, none⟩ = some (.int .u8 4)) :
    Calls Tryz.prog 103 #[.slice none 0 0, .int .u64 (u : Int), .int .i64 16, .bool false, .bool false] w fun e w' => e = .returned (.tuple #[.slice none 0 0, .string (S (hexD u))]) ∧ Below w.heap.size w w' := by
  have hT1 : ∀ o, (w.alloc o).cell? ⟨5, 15, none⟩ = some (.int .u8 4) := fun o => (((Below.refl _ _).alloc (Nat.le_refl _) o).cell (p := ⟨5, 15, none⟩) (World.block_lt_of_cell? w _ hT)).trans hT
  go_enter Tryz.func103, Tryz.ntmps103
  go_wp2_with (first | (go_at_call 112; refine (pow2_c _).mono ?_; rintro e w' ⟨rfl, rfl⟩) | (go_at_call 113; refine (tz16_c _ (hT1 _)).mono ?_; rintro e w' ⟨rfl, rfl⟩))
  clear hT hT1
  have h0 : Tryz.zeroCells158 = hxA u 0 := by rfl
  rw [h0]
  go_loopw [1, 13] (fun q i wr => ∃ k m : Nat, k + m = 64 ∧ k ≤ 15 ∧ q = .int .u64 ((u / 16 ^ k : Nat) : Int) ∧ i = .int .i64 ((m + 1 : Nat) : Int) ∧ hexD u = hexD (u / 16 ^ k) ++ hexN k u ∧ wr = w.alloc (.cells (hxA u k) 158)) (fun q _ _ => (intOf q).toNat)
  case atStart => exact ⟨0, 64, rfl, by omega, by simp, rfl, by simp [hexN], rfl⟩
  case round =>
    obtain ⟨k, m, hkm, hk, rfl, rfl, hD, rfl⟩ := hrel
    obtain ⟨v, hv⟩ : ∃ v, v = u / 16 ^ k := ⟨_, rfl⟩
    have hvl : v < 18446744073709551616 := by rw [hv]; exact Nat.lt_of_le_of_lt (Nat.div_le_self _ _) hu
    have hm : 64 - k = m := by omega
    have hset := hxA_set u k (by omega)
    have hat := hxA_at u k (by omega)
    rw [hm] at hset hat
    have HD := Hid.mk' hD
    have HV := Hid.mk' hv
    have HS := Hid.mk' hset
    rw [← hv]
    have hc0 : (w.alloc (.cells (hxA u k) 158)).cell? ⟨w.heap.size, m, none⟩ = some (.int .u8 0) := by simp [hat]
    have hw1 : IntKind.i64.wrap (((m + 1 : Nat) : Int) - 1) = (m : Int) := by rw [IntKind.wrap_i64]; omega
    have hand : bits .and .u64 (v : Int) 15 = ((v % 16 : Nat) : Int) := by
      have := u64_and_nat v 15 hvl (by omega)
      rw [show ((15 : Nat) : Int) = 15 from rfl] at this
      rw [this]
      have h15 : v &&& 15 = v % 16 := Nat.and_two_pow_sub_one_eq_mod v 4
      rw [h15]
    clear hD hv hset hat
    by_cases hlt : 16 ≤ v
    · have hlt' : (16 : Int) ≤ (v : Int) := by omega
      have hb : v % 16 < 16 := by omega
      have hb2 : ((v % 16 : Nat) : Int) < 36 := by omega
      have hx := hx36_at (v % 16) hb
      have HX := Hid.mk' hx
      clear hx
      go_wp2
      go_roundw
      case rel =>
        refine ⟨k + 1, m - 1, by have := k14 u k hu (by rw [← HV.out]; exact hlt); omega, by have := k14 u k hu (by rw [← HV.out]; exact hlt); omega, ?_, ?_, ?_, ?_⟩
        · rw [Nat.pow_succ, ← Nat.div_div_eq_div_mul, ← HV.out]; simp
        · rw [show m - 1 + 1 = m by have := k14 u k hu (by rw [← HV.out]; exact hlt); omega]
        · rw [HD.out, ← HV.out, Nat.pow_succ, ← Nat.div_div_eq_div_mul, ← HV.out, hexN_cons, ← HV.out]
          conv => lhs; rw [hexD, dif_neg (by omega)]
          simp
        · rw [HX.out, HV.out, HS.out]
      case measure => simp [intOf]; omega
    · have hlt' : ¬ (16 : Int) ≤ (v : Int) := by omega
      have hb : v < 16 := by omega
      have hb2 : (v : Int) < 36 := by omega
      have HX := Hid.mk' (hx36_at v hb)
      have hse : (hxA u k).setIfInBounds m (Value.int .u8 ((hx v).toNat : Int)) = hxA u (k + 1) := by
        rw [← HS.out, ← HV.out, Nat.mod_eq_of_lt hb]
      have HSE := Hid.mk' hse
      have hsl := fun W => sl_c w.heap.size m k hkm W
      have hcv := conv_c (hexN (k + 1) u) w.heap.size m (k + 1) (w.alloc (.cells (hxA u (k + 1)) 158)) (fun j hj => hxA_cell u k m j hkm hj w)
      rw [hexN_length] at hcv
      have HCV := Hid.mk' hcv
      have hfin : hexD u = hexN (k + 1) u := by
        rw [HD.out, hexN_cons, ← HV.out, Nat.mod_eq_of_lt hb, hexD, dif_pos hb]; rfl
      have HF := Hid.mk' hfin
      clear hse hcv hfin hand
      go_wp2
      rw [HX.out, HSE.out, HCV.out]
      go_wp2
      go_ret2
      exact ⟨by rw [HF.out]; rfl, (Below.refl _ _).alloc (Nat.le_refl _) _⟩
theorem ifu_c (u : Nat) (w : World) (hu : u < 18446744073709551616) (hT : w.cell? ⟨5, 15, none⟩ = some (.int .u8 4)) :
    Calls Tryz.prog 91 #[.int .u64 (u : Int), .int .i64 16] w fun e w' => e = .returned (.string (S (hexD u))) ∧ Below w.heap.size w w' := by
  have H := Hid.mk' (fmt16_c u w hu hT)
  clear hT
  go_enter Tryz.func91, Tryz.ntmps91
  go_wp2_with fail
  refine H.out.mono ?_
  rintro e w1 ⟨rfl, hb⟩
  go_wp2
  go_ret
  exact ⟨rfl, hb⟩
theorem fu_c (u : Nat) (w : World) (hu : u < 18446744073709551616) (hT : w.cell? ⟨5, 15, none⟩ = some (.int .u8 4)) :
    Calls Tryz.prog 81 #[.int .u64 (u : Int), .int .i64 16] w fun e w' => e = .returned (.string (S (hexD u))) ∧ Below w.heap.size w w' := by
  have H := Hid.mk' (ifu_c u w hu hT)
  clear hT
  go_enter Tryz.func81, Tryz.ntmps81
  go_wp2_with fail
  refine H.out.mono ?_
  rintro e w1 ⟨rfl, hb⟩
  go_wp2
  go_ret
  exact ⟨rfl, hb⟩
end Go.Proofs.YtngepdhhdbhglaaGreatDoor
