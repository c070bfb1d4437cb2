import Derived.Test.YtfaajmhmcdoibaaWq11
set_option linter.all false
set_option linter.unusedVariables false
namespace Go.Proofs.Ytfaajmhmcdoibaa
open Go.RowKit Go.Sort
set_option maxRecDepth 100000
theorem div_step (v : Int) (k : Nat) : v / 2 ^ (8 * k) / 256 = v / 2 ^ (8 * (k + 1)) := by
  rw [Int.ediv_ediv_of_nonneg (by have := Int.pow_pos (n := (2 : Int)) (m := 8 * k) (by omega); omega)]
  rw [show 8 * (k + 1) = 8 * k + 8 by omega, Int.pow_add]
  rfl
set_option maxHeartbeats 2000000 in
theorem sfix_c (v : Int) (n : Nat) (w : World) (hn : n ≤ 8) (h0 : 0 ≤ v) (h1 : v ≤ 18446744073709551615) :
    Calls Try.prog 40 #[.int .u64 v, .int .i64 n] w fun e w' => ∃ u, e = .returned u ∧ w'.ownsRow w.heap.size 5 1 u (fx n v).length (U (fx n v)) ∧ Below w.heap.size w w' := by
  obtain ⟨i0, hi, hz0, hz1, hz2⟩ := info_parts Try.info5
  go_enter Try.func40, Try.ntmps40
  go_wp2
  go_loopw [0, 5, 6] (fun x u i wr => ∃ (k : Nat) (y : Int), k ≤ n ∧ i = .int .i64 k ∧ x = .int .u64 y ∧ 0 ≤ y ∧ y ≤ 18446744073709551615 ∧ Hid (y = v / 2 ^ (8 * k)) ∧ wr.ownsRow w.heap.size 5 1 u (fx k v).length (U (fx k v)) ∧ Below w.heap.size w wr) (fun _ _ i _ => n - (intOf i).toNat)
  case atStart => exact ⟨0, v, Nat.zero_le _, rfl, rfl, h0, h1, by show _ = _; simp, World.ownsRow_lit w #[] 0 (Nat.le_refl _) (Nat.zero_le _) rfl, (Below.refl _ _).alloc (Nat.le_refl _) _⟩
  case round =>
    obtain ⟨k, y, hk, rfl, rfl, hy0, hy1, HY, hown, hbel⟩ := hrel
    have hsz := hbel.size
    by_cases hlt : k < n
    · have hki : (k : Int) < (n : Int) := by omega
      have hlf : (fx k v).length ≤ 8 := by rw [fx_len]; omega
      have HF : Hid (fx (k + 1) v = fx k v ++ [y % 256]) := by show _ = _; rw [fx_succ, HY.out]
      have HD : Hid (y / 256 = v / 2 ^ (8 * (k + 1))) := by show _ = _; rw [HY.out, div_step]
      generalize fx k v = pre at *
      go_wp2_with (at_builtin; refine wpList_append_own _ rfl _ _ 27 rfl w.heap.size 5 i0 (.int .u8 0) 1 1 Try.underlying27 hi hz0 hz1 hz2 rfl (by decide) _ _ _ rfl (hown.alloc _) ⟨wr.heap.size, 0, none⟩ 1 1 [.int .u8 (y % 256)] rfl rfl (cell_one_new _ _ _) (oneB _) (by unfold maxLen; omega) (by omega) (by simp; omega) ?_; intro v' w1 hown' hgrow hnn; have hbel' := below_push hown hbel hsz hgrow; have hown2 := owns_push hown'; clear hown' hgrow hown hbel hsz hnn)
      go_roundw
      case rel => exact ⟨k + 1, y / 256, by omega, by go_num, rfl, by omega, by omega, HD.out, by rw [HF.out]; exact hown2, hbel'⟩
      case measure => simp [intOf]; omega
    · have e : k = n := by omega
      subst e
      go_wp2
      go_ret
      exact ⟨_, rfl, hown, hbel⟩
theorem sflag_c (b : Bool) (w : World) : Calls Try.prog 24 #[.bool b] w fun e w' => e = .returned (.int .u8 (if b then 1 else 0)) ∧ w = w' := by
  cases b
  all_goals
    go_enter Try.func24, Try.ntmps24
    go_wp2
    go_ret
    exact ⟨rfl, rfl⟩
set_option maxHeartbeats 4000000 in
theorem snum_c (p : Nat) (S : Nat → Prop) (xs : List Int) (b : Bool) (n : Int) (w : World) (hl : xs.length ≤ 549755813888) (hW : Wb w p S xs b) :
    Calls Try.prog 22 #[.pointer (some ⟨p, 0, none⟩), .int .i64 n] w fun e w' => e = .returned (.tuple #[]) ∧ NP w p S xs b (numsO [n]) (numsE [n]) 10 w' := by
  have KU := Hid.mk' (suc_c n)
  have HW := Hid.mk' hW
  obtain ⟨v, c0, cb, f0, own, hp, hr, hS⟩ := hW
  have f1 := f0 1
  have lt : p < w.heap.size := World.block_lt_of_cell? w _ c0
  obtain ⟨a, c, rfl⟩ := own.slice
  cases hu : u32B n with
  | false =>
    have HF := Hid.mk' (HW.out.flag true)
    have HP := Hid.mk' (Wp.none xs (numsO [n]) (numsE [n]) b (.inr (by simp [numsO, hu])))
    rw [hu] at KU
    clear hu own hp hr hS f0 HW
    go_enter Try.func22, Try.ntmps22
    go_wp2_with fail
    refine (KU.out _).mono ?_
    rintro e w1 ⟨rfl, rfl⟩
    go_wp2
    first | go_ret | go_returns
    exact ⟨rfl, xs, true, HF.out.1, HF.out.2, HP.out⟩
  | true =>
    rw [hu] at KU
    by_cases hlen : 1000000 < xs.length
    · have HF := Hid.mk' (HW.out.flag true)
      have HP := Hid.mk' (Wp.none xs (numsO [n]) (numsE [n]) b (.inl (by unfold stk; rw [show decide (IM < xs.length) = true from decide_eq_true hlen]; cases b <;> rfl)))
      have hh : ((xs.length : Nat) : Int) > 1000000 := by omega
      clear hu own hp hr hS f0 HW hlen
      go_enter Try.func22, Try.ntmps22
      go_wp2_with fail
      refine (KU.out _).mono ?_
      rintro e w1 ⟨rfl, rfl⟩
      go_wp2
      first | go_ret | go_returns
      exact ⟨rfl, xs, true, HF.out.1, HF.out.2, HP.out⟩
    · have hh : ¬ ((xs.length : Nat) : Int) > 1000000 := by omega
      have hn := hu
      simp only [u32B, Bool.and_eq_true, decide_eq_true_eq] at hn
      obtain ⟨hn0, hn1⟩ := hn
      obtain ⟨L, hL⟩ : ∃ L, L = lebU 9 n := ⟨_, rfl⟩
      have hlen := lebU_len 9 n
      have KP := Hid.mk' (fun w => specPutU_any n w hn0 (by omega))
      have HPP : Hid (Wp xs b (xs ++ L) b (numsO [n]) (numsE [n]) 10) := by
        have := Wp.num xs (lebU 9 n) b n hlen.2 (fun _ => rfl)
        rw [hu, ← hL] at this
        show Wp _ _ _ _ _ _ _
        simpa using this
      rw [← hL] at hlen KP
      have HP := Hid.mk' (fun (W w1 : World) (v' : Value) (h1 : Below w.heap.size w W) (h2 : w1.ownsRow (p - 1) 5 1 v' (xs.length + L.length) (U xs ++ U L)) (h3 : W.grownBy w1 (Value.slice a xs.length c).ownBlock) (h4 : v'.ownBlock = (Value.slice a xs.length c).ownBlock ∨ ∀ k, v'.ownBlock = some k → W.heap.size ≤ k) => wb_pushed (ys := L) c0 cb f0 own hp hr hS h1 h2 h3 h4)
      have OW := Hid.mk' own
      obtain ⟨hl0, hl1⟩ := hlen
      have HC := Hid.mk' c0
      have hwx : IntKind.u64.wrap n = n := by rw [IntKind.wrap_u64]; omega
      clear hL own hp hr hS cb f0 hu HW f1
      go_enter Try.func22, Try.ntmps22
      go_wp2_with fail
      refine (KU.out _).mono ?_
      rintro e w1 ⟨rfl, rfl⟩
      go_wp2_with fail
      go_region_law (first
        | (refine step_buf rfl (.tmp 22) (.tmp 25) rfl p (.slice a xs.length c) xs (by simp [Act.eval, Act.put]) O1.out ⟨g, 0, none⟩ gc L (by simp [Act.eval, Act.put]) S1.out hl0 (by omega) Z1.out ?_
           intro v2 w2 own2 gr2 hloc
           have HQ := Hid.mk' (HP.out _ _ _ B1.out own2 gr2 hloc)
           have d0 := HQ.out.2.2.1
           have df := HQ.out.2.2.2
           obtain ⟨va, vc, rfl⟩ := ownE_slice own2
           clear own2 gr2 hloc)
        | (go_simp
           refine (KP.out _).mono ?_
           rintro e w1 ⟨v1, rfl, ho1, hb1⟩
           obtain ⟨g, gc, rfl, hg, hg'⟩ := By.own_split ho1 hl0
           have hb2 : Below w.heap.size w w1 := (Below.refl _ _).drew.trans hb1
           have c1 : w1.cell? ⟨p, 0, none⟩ = some (.slice a xs.length c) := (hb2.cell (p := ⟨p, 0, none⟩) lt).trans HC.out
           have O1 := Hid.mk' (OW.out.of_block (w1 := w1) (fun k hk => hb2.block k (OW.out.lt k hk)))
           have S1 := Hid.mk' (own_src ho1)
           have B1 := Hid.mk' hb2
           have Z1 : Hid (p - 1 ≤ w1.heap.size) := by have := hb2.size; show _ ≤ _; omega
           clear ho1 hb1 hb2 hg hg'))
      all_goals
        go_simp
        go_wp2
        go_end0
        exact ⟨rfl, _, _, HQ.out.1, HQ.out.2.1, HPP.out⟩
set_option maxHeartbeats 4000000 in
theorem svals_c (p : Nat) (S : Nat → Prop) (xs : List Int) (b : Bool) (w0 w : World) (a : Option Addr) (c : Nat) (l : List Int) (hb0 : Below w0.heap.size w0 w) (hS : ∀ k, k < w0.heap.size → S k) (hn : l.length ≤ 1048576) (hl : xs.length + listC (fun _ => 8) l ≤ 549755812000) (hL : HI .u64 0 w0 a l) (hv : ∀ i, i < l.length → 0 ≤ l.getD i 0 ∧ l.getD i 0 ≤ 18446744073709551615) (hW : Wb w p S xs b) :
    Calls Try.prog 23 #[.pointer (some ⟨p, 0, none⟩), .slice a l.length c] w fun e w' => e = .returned (.tuple #[]) ∧ NP w p S xs b (listO (fun _ => true) l) (listE (fx 8) l) (listC (fun _ => 8) l) w' := by
  have KN := Hid.mk' (snum_c p S xs b (l.length : Int) w (by omega) hW)
  have HL := Hid.mk' hL
  have HS := Hid.mk' hS
  have HB0 := Hid.mk' hb0
  have HLE := Hid.mk' hl
  have HV := Hid.mk' hv
  clear hW hL hS hb0 hl hv
  go_enter Try.func23, Try.ntmps23
  go_wp2_with fail
  refine KN.out.mono ?_
  rintro e w2 ⟨rfl, hw2⟩
  have HR := Hid.mk' hw2
  clear hw2 KN
  go_wp2
  go_loopw [4] (fun i wr => ∃ k : Nat, k ≤ l.length ∧ i = .int .i64 k ∧ NP w p S xs b (numsO [(l.length : Int)] && (l.take k).all (fun _ => true)) (numsE [(l.length : Int)] ++ (l.take k).flatMap (fx 8)) (10 + ((l.take k).map (fun _ => 8)).sum) wr) (fun i _ => l.length - (intOf i).toNat)
  case atStart => exact ⟨0, Nat.zero_le _, rfl, by simpa using HR.out⟩
  case round =>
    obtain ⟨k, hk, rfl, xs1, b1, hw, hkp, hwp⟩ := hrel
    clear HR
    have hB : Below w0.heap.size w0 wr := HB0.out.trans (Kept.below (hkp.weak HS.out))
    have hle := hwp.le
    have hle2 : ((l.take k).map (fun _ => 8)).sum ≤ (l.map (fun _ => 8)).sum := by rw [sum_split (fun _ => 8) l k]; omega
    have hLL := HLE.out
    simp only [listC] at hLL
    have hx1 : xs1.length ≤ 549755812000 := by omega
    clear hle hle2 hLL
    by_cases hlt : k < l.length
    · have hki : (k : Int) < (l.length : Int) := by omega
      cases b1 with
      | true =>
        have HF : Hid (NP w p S xs b (listO (fun _ => true) l) (listE (fx 8) l) (listC (fun _ => 8) l) wr) := ⟨xs1, true, hw, hkp, Wp.left hwp rfl⟩
        obtain ⟨v, c0, cb, -, -, -, -, -⟩ := hw
        clear hkp hwp hB HL HS HB0 HLE
        go_wp2
        go_end0
        exact ⟨rfl, HF.out⟩
      | false =>
        rcases HL.out with hx | ⟨eb, eo, ea, _, hce⟩
        · subst hx; simp at hlt
        obtain ⟨hv0, hv1⟩ := HV.out k hlt
        have hq := hce k hlt
        have leb : eb < w0.heap.size := World.block_lt_of_cell? w0 _ hq
        have hq2 : wr.cell? ⟨eb, eo + k, none⟩ = some (.int .u64 (l.getD k 0)) := (hB.cell (p := ⟨eb, eo + k, none⟩) leb).trans hq
        have HN := Hid.mk' (fun w3 (h : NP wr p S xs1 false true (fx 8 (l.getD k 0)) 8 w3) => NP.next (e := fx 8) (o := fun _ => true) (c := fun _ => 8) 0 hlt hkp hwp h)
        obtain ⟨x, hx⟩ : ∃ x, x = l.getD k 0 := ⟨_, rfl⟩
        rw [← hx] at hq2 HN hv0 hv1
        subst ea
        have KP := Hid.mk' (fun w => sfix_c x 8 w (by omega) hv0 hv1)
        obtain ⟨L, hLL⟩ : ∃ L, L = fx 8 x := ⟨_, rfl⟩
        have hl8 : L.length = 8 := by rw [hLL, fx_len]
        rw [← hLL] at KP HN
        obtain ⟨v, c0, cb, f0, own, hp, hr, hSS⟩ := hw
        have lt : p < wr.heap.size := World.block_lt_of_cell? wr _ c0
        obtain ⟨va, vc, rfl⟩ := own.slice
        have hne : eb ≠ p := fun e => hp (e ▸ HS.out eb leb)
        have HP := Hid.mk' (fun (W w1 : World) (v' : Value) (h1 : Below wr.heap.size wr W) (h2 : w1.ownsRow (p - 1) 5 1 v' (xs1.length + L.length) (U xs1 ++ U L)) (h3 : W.grownBy w1 (Value.slice va xs1.length vc).ownBlock) (h4 : v'.ownBlock = (Value.slice va xs1.length vc).ownBlock ∨ ∀ k, v'.ownBlock = some k → W.heap.size ≤ k) => wb_pushed (ys := L) c0 cb f0 own hp hr hSS h1 h2 h3 h4)
        have OW := Hid.mk' own
        have HC := Hid.mk' c0
        have HL8 := Hid.mk' hl8
        have hl0 : 1 ≤ L.length := by omega
        have hx2 : xs1.length + L.length ≤ 4398046511104 := by omega
        clear own hp hr hSS f0 hkp hwp hB HL HS HB0 HLE hq hx HV hce hLL hl8 hv0 hv1
        go_wp2_with fail
        go_region_law (first
          | (refine step_buf rfl (.tmp 26) (.tmp 31) rfl p (.slice va xs1.length vc) xs1 (by simp [Act.eval, Act.put]) O1.out ⟨g, 0, none⟩ gc L (by simp [Act.eval, Act.put]) S1.out hl0 hx2 Z1.out ?_
             intro v2 w2 own2 gr2 hloc
             have HQ := Hid.mk' (HP.out _ _ _ B1.out own2 gr2 hloc)
             have d0 := HQ.out.2.2.1
             have df := HQ.out.2.2.2
             obtain ⟨v2a, v2c, rfl⟩ := ownE_slice own2
             clear own2 gr2 hloc)
          | (go_simp
             refine (KP.out _).mono ?_
             rintro e w1 ⟨v1, rfl, ho1, hb1⟩
             obtain ⟨g, gc, rfl, hg, hg'⟩ := By.own_split ho1 hl0
             have hb2 : Below wr.heap.size wr w1 := (Below.refl _ _).drew.trans hb1
             have c1 : w1.cell? ⟨p, 0, none⟩ = some (.slice va xs1.length vc) := (hb2.cell (p := ⟨p, 0, none⟩) lt).trans HC.out
             have O1 := Hid.mk' (OW.out.of_block (w1 := w1) (fun k hk => hb2.block k (OW.out.lt k hk)))
             have S1 := Hid.mk' (own_src ho1)
             have B1 := Hid.mk' hb2
             have Z1 : Hid (p - 1 ≤ w1.heap.size) := by have := hb2.size; show _ ≤ _; omega
             clear ho1 hb1 hb2 hg hg'))
        all_goals
          have HR3 := Hid.mk' (HN.out _ ⟨_, _, HQ.out.1, HQ.out.2.1, Wp.bytes _ _ _ _ (by rw [HL8.out]; exact Nat.le_refl _)⟩)
          clear HN HP OW HC KP hq2 c0 cb
          go_simp
          go_wp2
          go_roundw
          case rel => exact ⟨k + 1, by omega, by go_num, HR3.out⟩
          case measure => simp [intOf]; omega
    · have e : k = l.length := by omega
      subst e
      have HF : Hid (NP w p S xs b (listO (fun _ => true) l) (listE (fx 8) l) (listC (fun _ => 8) l) wr) := ⟨xs1, b1, hw, hkp, Wp.full hwp⟩
      clear hw hkp hwp hB HL HS HB0 HLE
      go_wp2
      go_end0
      exact ⟨rfl, HF.out⟩
end Go.Proofs.Ytfaajmhmcdoibaa
