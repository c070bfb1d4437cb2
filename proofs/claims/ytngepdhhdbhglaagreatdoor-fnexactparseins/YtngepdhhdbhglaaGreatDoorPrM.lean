import Derived.Lib.ItoaNum
import Derived.Lib.ItoaLen
import Derived.Lib.Join
import Derived.Lib.Repeat
set_option linter.all false
set_option linter.unusedVariables false
namespace Go.Proofs.YtngepdhhdbhglaaGreatDoor
/-- A text of these bytes. -/
def S (l : List UInt8) : ByteArray := ⟨l.toArray⟩
theorem S_size (l : List UInt8) : (S l).size = l.length := by simp [S, ByteArray.size]
theorem S_app (l m : List UInt8) : S l ++ S m = S (l ++ m) := by
  apply ByteArray.ext
  simp [S, ByteArray.data_append]
theorem S_data (b : ByteArray) : S b.data.toList = b := by apply ByteArray.ext; simp [S]
theorem S_toList (l : List UInt8) : (S l).data.toList = l := by simp [S]
/-- The sign of a number below 16. -/
def hx (k : Nat) : UInt8 := if k < 10 then UInt8.ofNat (48 + k) else UInt8.ofNat (87 + k)
/-- A number by as few digits of four bits as there must be. -/
def hexD (u : Nat) : List UInt8 := if h : u < 16 then [hx u] else hexD (u / 16) ++ [hx (u % 16)]
termination_by u
decreasing_by omega
/-- Its last n digits. -/
def hexN : Nat → Nat → List UInt8
  | 0, _ => []
  | n + 1, u => hexN n (u / 16) ++ [hx (u % 16)]
theorem hexN_length : ∀ n u, (hexN n u).length = n
  | 0, _ => rfl
  | n + 1, u => by simp [hexN, hexN_length n]
theorem hexN_zero : ∀ n, hexN n 0 = List.replicate n 48
  | 0 => rfl
  | n + 1 => by
    rw [hexN, Nat.zero_div, hexN_zero n, List.replicate_succ']
    rfl
theorem hexD_spec : ∀ (n u : Nat), u < 16 ^ (n + 1) → (hexD u).length ≤ n + 1 ∧ List.replicate (n + 1 - (hexD u).length) 48 ++ hexD u = hexN (n + 1) u
  | 0, u, h => by
    have h : u < 16 := by simpa using h
    rw [hexD, dif_pos h]
    simp [hexN, Nat.mod_eq_of_lt h]
  | n + 1, u, h => by
    by_cases hu : u < 16
    · rw [hexD, dif_pos hu]
      refine ⟨by simp, ?_⟩
      rw [hexN, Nat.div_eq_of_lt hu, hexN_zero, Nat.mod_eq_of_lt hu]
      simp
    · obtain ⟨h1, h2⟩ := hexD_spec n (u / 16) (by rw [Nat.pow_succ] at h; omega)
      rw [hexD, dif_neg hu]
      refine ⟨by simp; omega, ?_⟩
      rw [hexN, ← h2]
      simp
theorem hexN_cons : ∀ (n u : Nat), hexN (n + 1) u = hx (u / 16 ^ n % 16) :: hexN n u
  | 0, u => by simp [hexN]
  | n + 1, u => by
    rw [hexN, hexN_cons n (u / 16), hexN, Nat.div_div_eq_div_mul, Nat.pow_succ, Nat.mul_comm 16]
    rfl
theorem repeat_eq (n : Nat) : Lib.repeatL [48] n = List.replicate n 48 := by
  induction n with
  | zero => rfl
  | succ n ih => rw [Lib.repeatL, ih, List.replicate_succ]; rfl
/-- The bits of a float as they are written. -/
def bitsT (n u : Nat) : List UInt8 := [48, 120] ++ hexN n u
theorem bits_eq (n u : Nat) (h : u < 16 ^ (n + 1)) : [48, 120] ++ Lib.repeatL [48] (n + 1 - (hexD u).length) ++ hexD u = bitsT (n + 1) u := by
  rw [repeat_eq, List.append_assoc, (hexD_spec n u h).2, bitsT]
def typT (t : Int) : List UInt8 := if t = 127 then [105, 51, 50] else if t = 126 then [105, 54, 52] else if t = 125 then [102, 51, 50] else [102, 54, 52]
theorem typT_len (t : Int) : (typT t).length = 3 := by unfold typT; repeat' split
                                                       all_goals rfl
/-- Words, each with a space ahead of it. -/
def tl (r : List (List UInt8)) : List UInt8 := Lib.joinTail [32] r
theorem tl_nil : tl [] = [] := rfl
theorem tl_cons (x : List UInt8) (r : List (List UInt8)) : tl (x :: r) = 32 :: x ++ tl r := by simp [tl, Lib.joinTail]
theorem tl_app (r s : List (List UInt8)) : tl (r ++ s) = tl r ++ tl s := by simp [tl, Lib.joinTail]
theorem tl_len (k : Nat) : ∀ (r : List (List UInt8)), (∀ x ∈ r, x.length ≤ k) → (tl r).length ≤ r.length * (k + 1)
  | [], _ => by simp [tl_nil]
  | x :: r, h => by
    have h1 := h x (by simp)
    have h2 := tl_len k r (fun y hy => h y (by simp [hy]))
    rw [tl_cons]
    simp only [List.length_append, List.length_cons, Nat.succ_mul]
    omega
theorem dec_len (u : Nat) (h : u ≤ 18446744073709551615) : (Lib.decDigits u).length ≤ 20 := by
  rw [Lib.decDigits_length]
  have hd : ∀ k u, u < 10 ^ k → 1 ≤ k → Lib.nDigits u ≤ k := by
    intro k
    induction k with
    | zero => intro u _ h; omega
    | succ k ih =>
      intro u h1 _
      rw [Lib.nDigits]
      split
      · omega
      · rename_i hu
        have hk : 1 ≤ k := by
          rcases Nat.eq_zero_or_pos k with e | e
          · subst e; simp at h1; omega
          · exact e
        have := ih (u / 10) (by rw [Nat.pow_succ] at h1; omega) hk
        omega
  exact hd 20 u (by omega) (by omega)
theorem itoa_len (n : Int) (h0 : -9223372036854775808 ≤ n) (h1 : n ≤ 9223372036854775807) : (Lib.itoa n).length ≤ 21 := Lib.itoa_length_le n h0 h1
end Go.Proofs.YtngepdhhdbhglaaGreatDoor
