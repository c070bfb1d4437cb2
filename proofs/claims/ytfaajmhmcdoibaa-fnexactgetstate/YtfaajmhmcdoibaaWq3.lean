import Derived.Test.YtfaajmhmcdoibaaWq2
set_option linter.all false
set_option linter.unusedVariables false
namespace Go.Proofs.Ytfaajmhmcdoibaa
open Go.RowKit Go.Sort
set_option maxRecDepth 100000
def u64 (x : Int) : Int := IntKind.u64.wrap x
theorem u64_id {x : Int} (h : u32B x = true) : u64 x = x := by
  simp only [u32B, Bool.and_eq_true, decide_eq_true_eq] at h
  unfold u64
  rw [IntKind.wrap_u64]; omega
theorem u64_bd (x : Int) : 0 ≤ u64 x ∧ u64 x ≤ 18446744073709551615 := by
  unfold u64
  rw [IntKind.wrap_u64]; omega
set_option maxHeartbeats 4000000 in
theorem wu32_c (p : Nat) (S : Nat → Prop) (xs : List Int) (b : Bool) (x : Int) (w : World) (hl : xs.length ≤ 1099511627776) (hW : Wb w p S xs b) :
    Calls Try.prog 85 #[.pointer (some ⟨p, 0, none⟩), .int .i64 x] w fun e w' => e = .returned (.tuple #[]) ∧ Wb w' p S (xs ++ lebU 9 (u64 x)) b ∧ Kept S w w' := by
  obtain ⟨v, c0, cb, f0, own, hp, hr, hS⟩ := hW
  have lt : p < w.heap.size := World.block_lt_of_cell? w _ c0
  obtain ⟨a, c, rfl⟩ := own.slice
  obtain ⟨y, hy⟩ : ∃ y, y = u64 x := ⟨_, rfl⟩
  obtain ⟨L, hL⟩ : ∃ L, L = lebU 9 y := ⟨_, rfl⟩
  have hlen := lebU_len 9 y
  have KP := Hid.mk' (fun w => implPutU_any y w (by rw [hy]; exact (u64_bd x).1) (by rw [hy]; exact (u64_bd x).2))
  rw [← hy, ← hL]
  rw [← hL] at hlen KP
  have HP := Hid.mk' (fun (W w1 : World) (v' : Value) (h1 : Below w.heap.size w W) (h2 : w1.ownsRow (p - 1) 5 1 v' (xs.length + L.length) (U xs ++ U L)) (h3 : W.grownBy w1 (Value.slice a xs.length c).ownBlock) (h4 : v'.ownBlock = (Value.slice a xs.length c).ownBlock ∨ ∀ k, v'.ownBlock = some k → W.heap.size ≤ k) => wb_pushed (ys := L) c0 cb f0 own hp hr hS h1 h2 h3 h4)
  have OW := Hid.mk' own
  obtain ⟨hl0, hl1⟩ := hlen
  have HC := Hid.mk' c0
  have hwx : IntKind.u64.wrap x = y := hy.symm
  clear hL own hp hr hS cb f0 hy
  go_enter Try.func85, Try.ntmps85
  go_region_law (first
    | (refine step_buf rfl (.tmp 8) (.tmp 11) rfl p (.slice a xs.length c) xs (by simp [Act.eval, Act.put]) O1.out ⟨g, 0, none⟩ gc L (by simp [Act.eval, Act.put]) S1.out hl0 (by omega) Z1.out ?_
       intro v2 w2 own2 gr2 hloc
       have HQ := Hid.mk' (HP.out _ _ _ B1.out own2 gr2 hloc)
       have d0 := HQ.out.2.2.1
       have df := HQ.out.2.2.2
       obtain ⟨va, vc, rfl⟩ := ownE_slice own2
       clear own2 gr2 hloc)
    | (go_simp
       refine (KP.out _).mono ?_
       rintro e w1 ⟨v1, rfl, ho1, hb1⟩
       obtain ⟨g, gc, rfl, hg, hg'⟩ := By.own_split ho1 hl0
       have hb2 : Below w.heap.size w w1 := (Below.refl _ _).drew.trans hb1
       have c1 : w1.cell? ⟨p, 0, none⟩ = some (.slice a xs.length c) := (hb2.cell (p := ⟨p, 0, none⟩) lt).trans HC.out
       have O1 := Hid.mk' (OW.out.of_block (w1 := w1) (fun k hk => hb2.block k (OW.out.lt k hk)))
       have S1 := Hid.mk' (own_src ho1)
       have B1 := Hid.mk' hb2
       have Z1 : Hid (p - 1 ≤ w1.heap.size) := by have := hb2.size; show _ ≤ _; omega
       clear ho1 hb1 hb2 hg hg'))
  all_goals
    go_wp2_with fail
    go_end0
    exact ⟨rfl, HQ.out.1, HQ.out.2.1⟩
set_option maxHeartbeats 4000000 in
theorem wflt_c (p : Nat) (S : Nat → Prop) (xs : List Int) (b : Bool) (v : Int) (n : Nat) (w : World) (hn : n = 8) (h0 : 0 ≤ v) (h1 : v ≤ 18446744073709551615) (hl : xs.length ≤ 549755813888) (hW : Wb w p S xs b) :
    Calls Try.prog 86 #[.pointer (some ⟨p, 0, none⟩), .int .u64 v, .int .i64 (8 * (n : Int))] w fun e w' => e = .returned (.tuple #[]) ∧ Wb w' p S (xs ++ fx n v) b ∧ Kept S w w' := by
  have hn8 : n ≤ 8 := by omega
  have HN := Hid.mk' hn
  have HW := Hid.mk' hW
  clear hW hn
  go_enter Try.func86, Try.ntmps86
  go_wp2
  go_loopw [6] (fun at_ wr => ∃ k : Nat, k ≤ n ∧ at_ = .int .i64 (8 * (k : Int)) ∧ Wb wr p S (xs ++ fx k v) b ∧ Kept S w wr) (fun at_ _ => 8 * n - (intOf at_).toNat)
  case atStart => exact ⟨0, Nat.zero_le _, rfl, by simpa [fx] using HW.out, Kept.refl _ _⟩
  case round =>
    obtain ⟨k, hk, rfl, hw, hkp⟩ := hrel
    by_cases hlt : k < n
    · have hki : 8 * (k : Int) < 8 * (n : Int) := by omega
      have hk8 : (k : Int) ≤ 7 := by omega
      have hlk : (xs ++ fx k v).length ≤ 1099511627776 := by simp [fx_len]; omega
      have KO := Hid.mk' (wone_c p S (xs ++ fx k v) b (wrap64 (v / 2 ^ (8 * k))) wr hlk hw)
      have HKP := Hid.mk' hkp
      clear hw hkp HW
      go_wp2_with fail
      refine (KO.out).mono ?_
      rintro e w1 ⟨rfl, hw1, hk1⟩
      have HW1 : Hid (Wb w1 p S (xs ++ fx (k + 1) v) b) := by
        rw [wrap_byte] at hw1
        show Wb _ _ _ _ _
        rw [fx_succ, ← List.append_assoc]; exact hw1
      have HK1 := Hid.mk' (HKP.out.trans hk1)
      clear hw1 hk1 KO HKP
      go_wp2
      go_roundw
      case rel => exact ⟨k + 1, by omega, by go_num, HW1.out, HK1.out⟩
      case measure => simp [intOf]; omega
    · have e : k = n := by omega
      subst e
      have HQ := Hid.mk' hw
      have HK1 := Hid.mk' hkp
      clear hw hkp HW
      go_wp2
      go_end0
      exact ⟨rfl, HQ.out, HK1.out⟩
theorem wflag_c (p : Nat) (S : Nat → Prop) (xs : List Int) (b f : Bool) (w : World) (hl : xs.length ≤ 1099511627776) (hW : Wb w p S xs b) :
    Calls Try.prog 79 #[.pointer (some ⟨p, 0, none⟩), .bool f] w fun e w' => e = .returned (.tuple #[]) ∧ Wb w' p S (xs ++ flB f) b ∧ Kept S w w' := by
  cases f with
  | true =>
    have KO := Hid.mk' (wone_c p S xs b 1 w hl hW)
    clear hW
    go_enter Try.func79, Try.ntmps79
    go_wp2_with fail
    refine KO.out.mono ?_
    rintro e w1 ⟨rfl, hw1, hk1⟩
    go_wp2
    go_end0
    exact ⟨rfl, hw1, hk1⟩
  | false =>
    have KO := Hid.mk' (wone_c p S xs b 0 w hl hW)
    clear hW
    go_enter Try.func79, Try.ntmps79
    go_wp2_with fail
    refine KO.out.mono ?_
    rintro e w1 ⟨rfl, hw1, hk1⟩
    go_wp2
    go_end0
    exact ⟨rfl, hw1, hk1⟩
theorem isu_c (n : Int) (w : World) : Calls Try.prog 84 #[.int .i64 n] w fun e w' => e = .returned (.bool (u32B n)) ∧ w = w' := by
  by_cases h0 : 0 ≤ n
  · by_cases h1 : n ≤ 4294967295
    · have e : u32B n = true := by simp [u32B, h0, h1]
      rw [e]
      go_enter Try.func84, Try.ntmps84
      go_wp2
      go_ret
      exact ⟨rfl, rfl⟩
    · have e : u32B n = false := by simp [u32B, h0, h1]
      rw [e]
      go_enter Try.func84, Try.ntmps84
      go_wp2
      go_ret
      exact ⟨rfl, rfl⟩
  · have e : u32B n = false := by simp [u32B, h0]
    rw [e]
    go_enter Try.func84, Try.ntmps84
    go_wp2
    go_ret
    exact ⟨rfl, rfl⟩
theorem suc_c (n : Int) (w : World) : Calls Try.prog 38 #[.int .i64 n] w fun e w' => e = .returned (.bool (u32B n)) ∧ w = w' := by
  by_cases h0 : 0 ≤ n
  · by_cases h1 : n ≤ 4294967295
    · have e : u32B n = true := by simp [u32B, h0, h1]
      rw [e]
      go_enter Try.func38, Try.ntmps38
      go_wp2
      go_ret
      exact ⟨rfl, rfl⟩
    · have e : u32B n = false := by simp [u32B, h0, h1]
      rw [e]
      go_enter Try.func38, Try.ntmps38
      go_wp2
      go_ret
      exact ⟨rfl, rfl⟩
  · have e : u32B n = false := by simp [u32B, h0]
    rw [e]
    go_enter Try.func38, Try.ntmps38
    go_wp2
    go_ret
    exact ⟨rfl, rfl⟩
set_option maxHeartbeats 1000000 in
theorem wstk_c (p : Nat) (S : Nat → Prop) (xs : List Int) (b : Bool) (w : World) (hl : xs.length ≤ 1099511627776) (hW : Wb w p S xs b) :
    Calls Try.prog 28 #[.pointer (some ⟨p, 0, none⟩)] w fun e w' => e = .returned (.bool (stk xs b)) ∧ w = w' := by
  obtain ⟨v, c0, cb, f0, own, hp, hr, hS⟩ := hW
  obtain ⟨a, c, rfl⟩ := own.slice
  clear own hp hr hS f0
  cases b with
  | true =>
    have e : stk xs true = true := rfl
    rw [e]
    clear e
    go_enter Try.func28, Try.ntmps28
    go_wp2
    go_ret
    exact ⟨rfl, rfl⟩
  | false =>
    by_cases h : 1000000 < xs.length
    · have e : stk xs false = true := by simp only [stk, Bool.false_or]; exact decide_eq_true h
      have hh : ((xs.length : Nat) : Int) > 1000000 := by omega
      rw [e]
      clear e h
      go_enter Try.func28, Try.ntmps28
      go_wp2
      go_ret
      exact ⟨rfl, rfl⟩
    · have e : stk xs false = false := by simp only [stk, Bool.false_or]; exact decide_eq_false h
      have hh : ¬ ((xs.length : Nat) : Int) > 1000000 := by omega
      rw [e]
      clear e h
      go_enter Try.func28, Try.ntmps28
      go_wp2
      go_ret
      exact ⟨rfl, rfl⟩
end Go.Proofs.Ytfaajmhmcdoibaa
