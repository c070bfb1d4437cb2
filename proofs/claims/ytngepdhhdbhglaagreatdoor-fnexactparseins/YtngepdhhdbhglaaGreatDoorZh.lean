import Derived.Test.YtngepdhhdbhglaaGreatDoorZu
import Derived.Test.YtngepdhhdbhglaaGreatDoorYg
import Derived.Test.YtngepdhhdbhglaaGreatDoorPs1
set_option linter.all false
set_option linter.unusedVariables false
namespace Go.Proofs.YtngepdhhdbhglaaGreatDoor
open Go.RowKit Go.Sort
set_option maxRecDepth 100000
attribute [-go_sem] run_index_string
/-! Hexadecimal digits. -/
def nib (c : UInt8) : Option Nat := (List.range 16).find? fun i => hx i == c
theorem nib_hx (d : Nat) (h : d < 16) : nib (hx d) = some d := by
  have : ∀ i : Fin 16, nib (hx i.val) = some i.val := by decide
  exact this ⟨d, h⟩
theorem nib_some {c : UInt8} {d : Nat} (h : nib c = some d) : d < 16 ∧ hx d = c := by
  have h1 := List.find?_some h
  have h2 := List.mem_of_find?_eq_some h
  exact ⟨by simpa using h2, by simpa using h1⟩
theorem nib_none {c : UInt8} (h : ∀ i, i < 16 → hx i ≠ c) : nib c = none := by
  unfold nib
  rw [List.find?_eq_none]
  intro i hi
  simp at hi ⊢
  exact h i hi
def hexV : Nat → Wd → Option Nat
  | n, [] => some n
  | n, c :: r => match nib c with
    | none => none
    | some d => hexV (n * 16 + d) r
theorem hexV_snoc : ∀ (l : Wd) (n : Nat) (c : UInt8), hexV n (l ++ [c]) = (hexV n l).bind fun m => (nib c).map fun d => m * 16 + d
  | [], n, c => by simp only [List.nil_append, hexV]; cases nib c <;> rfl
  | a :: l, n, c => by
    simp only [List.cons_append, hexV]
    cases nib a with
    | none => rfl
    | some d => exact hexV_snoc l (n * 16 + d) c
theorem hexV_N : ∀ (n u : Nat), u < 16 ^ n → hexV 0 (hexN n u) = some u
  | 0, u, h => by simp at h; subst h; rfl
  | n + 1, u, h => by
    rw [hexN, hexV_snoc, hexV_N n (u / 16) (by rw [Nat.pow_succ] at h; omega), nib_hx _ (by omega)]
    simp; omega
theorem hexV_back (l : Wd) : ∀ u, hexV 0 l = some u → u < 16 ^ l.length ∧ hexN l.length u = l := by
  induction h : l.length generalizing l with
  | zero =>
    intro u hu
    have : l = [] := List.eq_nil_of_length_eq_zero h
    subst this
    simp [hexV] at hu
    subst hu
    exact ⟨by simp, rfl⟩
  | succ n ih =>
    intro u hu
    have hne : l ≠ [] := by rintro rfl; simp at h
    obtain ⟨l', b, rfl⟩ : ∃ l' b, l = l' ++ [b] := ⟨l.dropLast, l.getLast hne, (List.dropLast_concat_getLast hne).symm⟩
    have hl' : l'.length = n := by simpa using h
    rw [hexV_snoc] at hu
    cases hm : hexV 0 l' with
    | none => rw [hm] at hu; cases hu
    | some m =>
      cases hd : nib b with
      | none => rw [hm, hd] at hu; cases hu
      | some d =>
        rw [hm, hd] at hu
        simp at hu
        obtain ⟨k1, k2⟩ := nib_some hd
        obtain ⟨j1, j2⟩ := ih l' hl' m hm
        refine ⟨by rw [Nat.pow_succ]; omega, ?_⟩
        rw [hexN, ← hu, show (m * 16 + d) / 16 = m by omega, show (m * 16 + d) % 16 = d by omega, j2, k2]
theorem dgI_hx (d : Nat) (h : d < 16) : dgI (hx d) = some d := by
  have : ∀ i : Fin 16, dgI (hx i.val) = some i.val := by decide +kernel
  exact this ⟨d, h⟩
theorem hexV_ge : ∀ (l : Wd) (n m : Nat), hexV n l = some m → n ≤ m
  | [], n, m, h => by simp [hexV] at h; omega
  | c :: l, n, m, h => by
    simp only [hexV] at h
    cases hd : nib c with
    | none => rw [hd] at h; cases h
    | some d =>
      rw [hd] at h
      have := hexV_ge l _ m h
      omega
theorem pu_hexV (mx : Nat) (hx' : mx ≤ 18446744073709551615) : ∀ (l : Wd) (n m : Nat), hexV n l = some m → m ≤ mx → pu mx n l = some m
  | [], n, m, h, _ => by simpa [hexV, pu] using h
  | c :: l, n, m, h, hm => by
    simp only [hexV] at h
    cases hd : nib c with
    | none => rw [hd] at h; cases h
    | some d =>
      rw [hd] at h
      have h1 := hexV_ge l _ m h
      obtain ⟨k1, k2⟩ := nib_some hd
      have h2 := pu_hexV mx hx' l _ m h hm
      simp only [pu]
      rw [← k2, dgI_hx d k1]
      simp only
      rw [if_neg (by omega), if_neg (by omega)]
      exact h2
/-- What the specification reads of the bits of a float. -/
def bitM (n : Nat) (s : Wd) : Option Nat := if s.length = n + 2 ∧ s.take 2 = [48, 120] then hexV 0 (s.drop 2) else none
theorem bitM_iff (n : Nat) (s : Wd) (u : Nat) : bitM n s = some u ↔ (u < 16 ^ n ∧ bitsT n u = s) := by
  constructor
  · intro h
    unfold bitM at h
    split at h
    · rename_i hc
      obtain ⟨h1, h2⟩ := hexV_back _ u h
      have hl : (s.drop 2).length = n := by simp; omega
      rw [hl] at h1 h2
      refine ⟨h1, ?_⟩
      rw [bitsT, h2, ← hc.2, List.take_append_drop]
    · cases h
  · rintro ⟨h1, rfl⟩
    unfold bitM bitsT
    rw [if_pos ⟨by simp [hexN_length], rfl⟩]
    exact hexV_N n u h1
theorem okB_iff (n mx : Nat) (s : Wd) (hmx : mx + 1 = 16 ^ n) (hn : 1 ≤ n) (h64 : mx ≤ 18446744073709551615) : okB n mx s = (bitM n s).isSome := by
  cases hb : bitM n s with
  | some u =>
    obtain ⟨h1, h2⟩ := (bitM_iff n s u).1 hb
    have ht : Lib.trimPrefix s [48, 120] = hexN n u := by
      rw [← h2]
      simp [bitsT, Lib.trimPrefix, Lib.hasPrefix]
    have hne : hexN n u ≠ [] := by intro e; have := hexN_length n u; rw [e] at this; simp at this; omega
    have hp : puW mx (hexN n u) = some u := by
      unfold puW
      rw [if_neg hne]
      exact pu_hexV mx h64 _ 0 u (hexV_N n u h1) (by omega)
    unfold okB
    rw [ht, hp]
    simp [h2]
  | none =>
    cases ho : okB n mx s with
    | false => rfl
    | true =>
      exfalso
      unfold okB at ho
      cases hp : puW mx (Lib.trimPrefix s [48, 120]) with
      | none => rw [hp] at ho; cases ho
      | some u =>
        rw [hp] at ho
        simp at ho
        have := (bitM_iff n s u).2 ⟨by have := puW_le hp; omega, ho⟩
        rw [hb] at this; cases this
def nibI (c : UInt8) : Int := match nib c with | some d => (d : Int) | none => -1
theorem nibI_some {c : UInt8} {d : Nat} (h : nib c = some d) : nibI c = d := by unfold nibI; rw [h]
theorem nibI_none {c : UInt8} (h : nib c = none) : nibI c = -1 := by unfold nibI; rw [h]
set_option maxHeartbeats 1000000 in
theorem snib_c (c : UInt8) (w : World) : Calls Tryz.prog 47 #[.int .u8 (c.toNat : Int)] w fun e w' => e = .returned (.int .i64 (nibI c)) ∧ w = w' := by
  go_enter Tryz.func47, Tryz.ntmps47
  go_wp2
  go_loop [3] (fun vi => ∃ k : Nat, k ≤ 16 ∧ vi = .int .i64 (k : Int) ∧ Hid (∀ j, j < k → hx j ≠ c)) (fun vi => 16 - (intOf vi).toNat)
  case atStart => exact ⟨0, by omega, rfl, fun j h => by omega⟩
  case round =>
    obtain ⟨k, hk, rfl, hh⟩ := hrel
    by_cases hlt : k < 16
    · have hki : (k : Int) < 16 := by omega
      have w1 : IntKind.u8.wrap (k : Int) = (k : Int) := by rw [IntKind.wrap_u8]; omega
      have w2 : IntKind.i64.wrap ((k : Int) + 1) = (k : Int) + 1 := by rw [IntKind.wrap_i64]; omega
      have K := Hid.mk' (sDigit_c k w (by omega))
      rw [Nat.mod_eq_of_lt hlt] at K
      by_cases he : hx k = c
      · have HR := Hid.mk' (nibI_some (show nib c = some k by rw [← he]; exact nib_hx k hlt))
        have h1 : (((hx k).toNat : Int) == (c.toNat : Int)) = true := by rw [he]; simp
        go_wp2_with fail
        refine K.out.mono ?_
        rintro e w1 ⟨rfl, rfl⟩
        go_wp2
        go_ret
        exact ⟨by rw [HR.out]; rfl, rfl⟩
      · have h1 : (((hx k).toNat : Int) == (c.toNat : Int)) = false := u8_ne he
        have HH : Hid (∀ j, j < k + 1 → hx j ≠ c) := fun j hj => by
          by_cases e : j = k
          · subst e; exact he
          · exact hh.out j (by omega)
        go_wp2_with fail
        refine K.out.mono ?_
        rintro e w1 ⟨rfl, rfl⟩
        go_wp2
        exact ⟨⟨k + 1, by omega, (by first | rfl | (congr 1; omega)), HH⟩, by simp [intOf]; omega⟩
    · have ek : k = 16 := by omega
      subst ek
      have HR := Hid.mk' (nibI_none (nib_none (fun i hi => hh.out i hi)))
      go_wp2
      go_ret
      exact ⟨by rw [HR.out]; rfl, rfl⟩
end Go.Proofs.YtngepdhhdbhglaaGreatDoor
