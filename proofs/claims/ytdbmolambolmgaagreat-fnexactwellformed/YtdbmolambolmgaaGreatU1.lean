import Derived.Test.YtdbmolambolmgaaGreatR1
set_option linter.all false
namespace Go.Proofs.YtdbmolambolmgaaGreat
open Go.RowKit

/-- How many bytes follow a first byte, and between what the next one must lie. -/
def HasB (w : World) (a : Option Addr) (xs : List Int) : Prop :=
  xs = [] ∨ ∃ b off, a = some ⟨b, off, none⟩ ∧ ∀ i, i < xs.length → w.cell? ⟨b, off + i, none⟩ = some (.int .u8 (xs.getD i 0))
def ldN (c : Int) : Int := if c < 128 then 0 else if c < 194 then -1 else if c < 224 then 1 else if c < 240 then 2 else if c < 245 then 3 else -1
def ldLo (c : Int) : Int := if c < 194 then 0 else if c < 224 then 128 else if c < 225 then 160 else if c < 240 then 128 else if c < 241 then 144 else if c < 245 then 128 else 0
def ldHi (c : Int) : Int := if c < 194 then 0 else if c < 237 then 191 else if c < 238 then 159 else if c < 244 then 191 else if c < 245 then 143 else 0

theorem ldN_bd (c : Int) : -1 ≤ ldN c ∧ ldN c ≤ 3 := by unfold ldN; omega

/-- The place of the fault, from a state on: so many bytes are still to follow, the next between lo and hi; the place; the bytes that are left. -/
def uf : Nat → Int → Int → Nat → List Int → Int
  | 0, _, _, _, [] => -1
  | 0, _, _, p, c :: cs => if ldN c < 0 then p else uf (ldN c).toNat (ldLo c) (ldHi c) (p + 1) cs
  | _ + 1, _, _, p, [] => p
  | l + 1, lo, hi, p, c :: cs => if c < lo ∨ hi < c then p else uf l 128 191 (p + 1) cs

section
variable {bs : List Int} {p : Nat} {lo hi : Int}
theorem uf_any0 (lo' hi' : Int) (cs : List Int) : uf 0 lo hi p cs = uf 0 lo' hi' p cs := by cases cs <;> simp [uf]
theorem uf_end0 (h : p = bs.length) : uf 0 lo hi p (bs.drop p) = -1 := by subst h; simp [uf]
theorem uf_endl {l : Nat} (h : p = bs.length) : uf (l + 1) lo hi p (bs.drop p) = p := by subst h; simp [uf]
theorem uf_bad (h : p < bs.length) (hn : ldN (bs.getD p 0) < 0) : uf 0 lo hi p (bs.drop p) = p := by
  rw [List.drop_eq_getElem_cons h]
  simp only [List.getD, List.getElem?_eq_getElem h, Option.getD_some] at hn
  simp [uf, hn]
theorem uf_lead (h : p < bs.length) (hn : ¬ ldN (bs.getD p 0) < 0) : uf 0 lo hi p (bs.drop p) = uf (ldN (bs.getD p 0)).toNat (ldLo (bs.getD p 0)) (ldHi (bs.getD p 0)) (p + 1) (bs.drop (p + 1)) := by
  rw [List.drop_eq_getElem_cons h]
  simp only [List.getD, List.getElem?_eq_getElem h, Option.getD_some] at hn ⊢
  simp [uf, hn]
theorem uf_out {l : Nat} (h : p < bs.length) (hn : bs.getD p 0 < lo ∨ hi < bs.getD p 0) : uf (l + 1) lo hi p (bs.drop p) = p := by
  rw [List.drop_eq_getElem_cons h]
  simp only [List.getD, List.getElem?_eq_getElem h, Option.getD_some] at hn
  simp [uf, hn]
theorem uf_next {l : Nat} (h : p < bs.length) (hn : ¬ (bs.getD p 0 < lo ∨ hi < bs.getD p 0)) : uf (l + 1) lo hi p (bs.drop p) = uf l 128 191 (p + 1) (bs.drop (p + 1)) := by
  rw [List.drop_eq_getElem_cons h]
  simp only [List.getD, List.getElem?_eq_getElem h, Option.getD_some] at hn
  simp only [uf]
  rw [if_neg hn]
end

set_option maxHeartbeats 1000000 in
theorem follow_any (c : Int) (w : World) (h0 : 0 ≤ c) (h1 : c ≤ 255) :
    Calls Tryz.prog 170 #[.int .u8 c] w fun e w' => e = .returned (.tuple #[.int .i64 (ldN c), .int .u8 (ldLo c), .int .u8 (ldHi c)]) ∧ w = w' := by
  rcases (show c < 128 ∨ (128 ≤ c ∧ c < 194) ∨ (194 ≤ c ∧ c < 224) ∨ c = 224 ∨ (225 ≤ c ∧ c < 237) ∨ c = 237 ∨ (238 ≤ c ∧ c < 240) ∨ c = 240 ∨ (241 ≤ c ∧ c < 244) ∨ c = 244 ∨ 244 < c by omega) with h | ⟨h, h'⟩ | ⟨h, h'⟩ | rfl | ⟨h, h'⟩ | rfl | ⟨h, h'⟩ | rfl | ⟨h, h'⟩ | rfl | h
  · rw [show ldN c = 0 by unfold ldN; omega, show ldLo c = 0 by unfold ldLo; omega, show ldHi c = 0 by unfold ldHi; omega]
    go_enter Tryz.func170, Tryz.ntmps170
    go_wp2
    go_ret3
    exact ⟨rfl, rfl⟩
  · rw [show ldN c = -1 by unfold ldN; omega, show ldLo c = 0 by unfold ldLo; omega, show ldHi c = 0 by unfold ldHi; omega]
    go_enter Tryz.func170, Tryz.ntmps170
    go_wp2
    go_ret3
    exact ⟨rfl, rfl⟩
  · rw [show ldN c = 1 by unfold ldN; omega, show ldLo c = 128 by unfold ldLo; omega, show ldHi c = 191 by unfold ldHi; omega]
    go_enter Tryz.func170, Tryz.ntmps170
    go_wp2
    go_ret3
    exact ⟨rfl, rfl⟩
  · rw [show ldN 224 = 2 by decide, show ldLo 224 = 160 by decide, show ldHi 224 = 191 by decide]
    go_enter Tryz.func170, Tryz.ntmps170
    go_wp2
    go_ret3
    exact ⟨rfl, rfl⟩
  · rw [show ldN c = 2 by unfold ldN; omega, show ldLo c = 128 by unfold ldLo; omega, show ldHi c = 191 by unfold ldHi; omega]
    go_enter Tryz.func170, Tryz.ntmps170
    go_wp2
    go_ret3
    exact ⟨rfl, rfl⟩
  · rw [show ldN 237 = 2 by decide, show ldLo 237 = 128 by decide, show ldHi 237 = 159 by decide]
    go_enter Tryz.func170, Tryz.ntmps170
    go_wp2
    go_ret3
    exact ⟨rfl, rfl⟩
  · rw [show ldN c = 2 by unfold ldN; omega, show ldLo c = 128 by unfold ldLo; omega, show ldHi c = 191 by unfold ldHi; omega]
    go_enter Tryz.func170, Tryz.ntmps170
    go_wp2
    go_ret3
    exact ⟨rfl, rfl⟩
  · rw [show ldN 240 = 3 by decide, show ldLo 240 = 144 by decide, show ldHi 240 = 191 by decide]
    go_enter Tryz.func170, Tryz.ntmps170
    go_wp2
    go_ret3
    exact ⟨rfl, rfl⟩
  · rw [show ldN c = 3 by unfold ldN; omega, show ldLo c = 128 by unfold ldLo; omega, show ldHi c = 191 by unfold ldHi; omega]
    go_enter Tryz.func170, Tryz.ntmps170
    go_wp2
    go_ret3
    exact ⟨rfl, rfl⟩
  · rw [show ldN 244 = 3 by decide, show ldLo 244 = 128 by decide, show ldHi 244 = 143 by decide]
    go_enter Tryz.func170, Tryz.ntmps170
    go_wp2
    go_ret3
    exact ⟨rfl, rfl⟩
  · rw [show ldN c = -1 by unfold ldN; omega, show ldLo c = 0 by unfold ldLo; omega, show ldHi c = 0 by unfold ldHi; omega]
    go_enter Tryz.func170, Tryz.ntmps170
    go_wp2
    go_ret3
    exact ⟨rfl, rfl⟩
end Go.Proofs.YtdbmolambolmgaaGreat
