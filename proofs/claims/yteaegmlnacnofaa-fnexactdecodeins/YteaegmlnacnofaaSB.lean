import Derived.Test.YteaegmlnacnofaaSX
import Derived.Test.YteaegmlnacnofaaS4c
import Derived.Deep.RegionHeld3
import Derived.Maps.AppendAt
set_option linter.all false
set_option linter.unusedVariables false
namespace Go.Proofs.Yteaegmlnacnofaa
open Go.RowKit Go.Sort
set_option maxRecDepth 100000
theorem leb_se (s : Nat) (ba : Option Addr) (bc : BC) (bs : List Int) (p : Nat) (er at_ : Int) (w : World) (h : Sr w s ba bc bs p er at_) (hn : er ≠ 0) :
    Calls Try.prog 49 #[.pointer (some ⟨s, 0, none⟩), .int .i64 32, .bool false] w fun e w' => e = .returned (.int .u64 0) ∧ w = w' := by
  have c3 := h.c3
  have hne : (er == 0) = false := by simpa using hn
  clear h hn
  go_enter Try.func49, Try.ntmps49
  go_wp2
  refine wp_loop_rounds 1 ?_
  rw [rounds_succ]
  go_wp2
  go_ret
  exact ⟨rfl, rfl⟩
theorem u32_se (s : Nat) (ba : Option Addr) (bc : BC) (bs : List Int) (p : Nat) (er at_ : Int) (w : World) (h : Sr w s ba bc bs p er at_) (hn : er ≠ 0) :
    Calls Try.prog 46 #[.pointer (some ⟨s, 0, none⟩)] w fun e w' => e = .returned (.int .i64 0) ∧ w = w' := by
  have K := Hid.mk' (leb_se s ba bc bs p er at_ w h hn)
  clear h hn
  go_enter Try.func46, Try.ntmps46
  go_wp2_with fail
  refine (K.out).mono ?_
  rintro e w1 ⟨rfl, rfl⟩
  go_wp2_with fail
  go_ret
  exact ⟨rfl, rfl⟩
theorem u32_sc (s : Nat) (ba : Option Addr) (bc : BC) (bs : List Int) (p : Nat) (w : World) (h : Sr w s ba bc bs p 0 0) (hA : AllB bs) (hl : bs.length ≤ 1099511627776) :
    Calls Try.prog 46 #[.pointer (some ⟨s, 0, none⟩)] w (SpP (numM false 32 bs p) (fun v => .int .i64 v) isI w s ba bc bs) := by
  have K := Hid.mk' (lebU_sc s ba bc bs p w h hA hl)
  have hbd := fun v p1 => numU_bd (p := p) (p1 := p1) (v := v) hA
  generalize numM false 32 bs p = M at *
  cases M with
  | bad er a =>
    clear hbd h
    go_enter Try.func46, Try.ntmps46
    go_wp2_with fail
    refine (K.out).mono ?_
    rintro e w1 ⟨hg, u, p', rfl, ⟨v, rfl, v0, v1⟩, hs⟩
    have HG := Hid.mk' hg
    have HS := Hid.mk' hs
    clear hg hs K
    go_wp2_with fail
    go_ret
    exact ⟨HG.out, _, _, rfl, ⟨_, rfl⟩, HS.out⟩
  | ok v p1 =>
    obtain ⟨v0, v1⟩ := hbd v p1 rfl
    have hw : wrap64 v = v := by unfold wrap64; omega
    clear hbd h
    go_enter Try.func46, Try.ntmps46
    go_wp2_with fail
    refine (K.out).mono ?_
    rintro e w1 ⟨hg, rfl, hs⟩
    have HG := Hid.mk' hg
    have HS := Hid.mk' hs
    clear hg hs K
    go_wp2_with fail
    go_ret
    exact ⟨HG.out, rfl, HS.out⟩
set_option maxHeartbeats 1000000 in
theorem one_se (s : Nat) (ba : Option Addr) (bc : BC) (bs : List Int) (p : Nat) (er at_ : Int) (w : World) (h : Sr w s ba bc bs p er at_) (hn : er ≠ 0) :
    Calls Try.prog 47 #[.pointer (some ⟨s, 0, none⟩), .int .u8 0, .int .u8 0] w fun e w' => e = .returned (.int .i64 0) ∧ w = w' := by
  have K := Hid.mk' (byte_se s ba bc bs p er at_ w h hn)
  have c3 := h.c3
  have hne : (er == 0) = false := by simpa using hn
  clear h hn
  go_enter Try.func47, Try.ntmps47
  go_wp2_with fail
  refine (K.out).mono ?_
  rintro e w1 ⟨rfl, rfl⟩
  go_wp2_with fail
  go_ret
  exact ⟨rfl, rfl⟩
theorem nz_take0 (bs : List Int) (p : Nat) : ∀ er a, takeM bs p = .bad er a → er ≠ 0 := by
  intro er a e
  unfold takeM at e
  split at e
  · cases e; decide
  · cases e
set_option maxHeartbeats 2000000 in
theorem one_sc (s : Nat) (ba : Option Addr) (bc : BC) (bs : List Int) (p : Nat) (w : World) (h : Sr w s ba bc bs p 0 0) (hA : AllB bs) (hl : bs.length ≤ 1099511627776) :
    Calls Try.prog 47 #[.pointer (some ⟨s, 0, none⟩), .int .u8 0, .int .u8 0] w (SpP (markM bs p) (fun _ => .int .i64 0) isI w s ba bc bs) := by
  have K := Hid.mk' (byte_sc s ba bc bs p w h hl)
  have hbd := fun v p1 => takeM_bd (p := p) (p1 := p1) (v := v) hA
  have hnz := nz_take0 bs p
  unfold markM
  generalize takeM bs p = M at *
  cases M with
  | bad er a =>
    have hne : (er == 0) = false := by simpa using hnz er a rfl
    clear hbd h hnz
    go_enter Try.func47, Try.ntmps47
    go_wp2_with fail
    refine (K.out).mono ?_
    rintro e w1 ⟨hg, u, p', rfl, rfl, hs⟩
    have HG := Hid.mk' hg
    have HS := Hid.mk' hs
    have e3 := hs.c3
    clear hg hs K
    go_wp2_with fail
    go_ret
    exact ⟨HG.out, _, _, rfl, ⟨_, rfl⟩, HS.out⟩
  | ok v p1 =>
    obtain ⟨v0, v1⟩ := hbd v p1 rfl
    show Calls _ _ _ _ (SpP (if v = 0 then .ok () p1 else .bad 8 p1) _ _ _ _ _ _ _)
    clear hbd h hnz
    by_cases hv : v = 0
    · subst hv
      rw [if_pos rfl]
      go_enter Try.func47, Try.ntmps47
      go_wp2_with fail
      refine (K.out).mono ?_
      rintro e w1 ⟨hg, rfl, hs⟩
      have HG := Hid.mk' hg
      have HS := Hid.mk' hs
      have e3 := hs.c3
      clear hg hs K
      go_wp2_with fail
      go_ret
      exact ⟨HG.out, rfl, HS.out⟩
    · rw [if_neg hv]
      have hv2 : 0 < v := by omega
      clear hv
      go_enter Try.func47, Try.ntmps47
      go_wp2_with fail
      refine (K.out).mono ?_
      rintro e w1 ⟨hg, rfl, hs⟩
      have HG := Hid.mk' hg
      have e3 := hs.c3
      have e1 := hs.c1
      have KF := Hid.mk' (fail_sc s ba bc bs p1 8 p1 w1 hs)
      clear hg hs K
      go_wp2_with fail
      refine (KF.out).mono ?_
      rintro e w2 ⟨rfl, hs2, hg2⟩
      have HG2 := Hid.mk' (grown_trans HG.out hg2)
      have HS2 := Hid.mk' hs2
      clear hs2 hg2 KF
      go_wp2_with fail
      go_ret
      exact ⟨HG2.out, _, _, rfl, ⟨_, rfl⟩, HS2.out⟩
theorem tell_se (s : Nat) (ba : Option Addr) (bc : BC) (bs : List Int) (p : Nat) (er at_ : Int) (w1 w2 w3 w4 : Int) (w : World) (h : Sr w s ba bc bs p er at_) (hn : er ≠ 0) :
    Calls Try.prog 44 #[.pointer (some ⟨s, 0, none⟩), .int .i64 w1, .int .i64 w2, .int .i64 w3, .int .i64 w4] w fun e w' => e = .returned (.tuple #[]) ∧ w = w' := by
  have c3 := h.c3
  have hne : (er == 0) = false := by simpa using hn
  clear h hn
  go_enter Try.func44, Try.ntmps44
  go_wp2
  go_end0
  exact ⟨rfl, rfl⟩
end Go.Proofs.Yteaegmlnacnofaa

set_option linter.unusedVariables false
namespace Go.Proofs.Yteaegmlnacnofaa
open Go.RowKit Go.Sort
set_option maxRecDepth 100000
theorem Try.info122 : (Try.prog.info? 122).map (fun i => (i.zero, i.size, i.bytes)) = some (some (.agg #[.int .i64 0, .int .i64 0, .int .i64 0, .int .i64 0, .int .i64 0, .int .i64 0]), 6, 48) := by kernel_rfl
theorem six_new (w : World) (a b c d e f : Value) (t : TypeId) : ∀ j u, [a, b, c, d, e, f][j]? = some u → (w.alloc (.cells #[a, b, c, d, e, f] t)).cell? ((⟨w.heap.size, 0, none⟩ : Addr).add j) = some u := by
  intro j u hu
  have hadd : (⟨w.heap.size, 0, none⟩ : Addr).add j = ⟨w.heap.size, j, none⟩ := by unfold Addr.add; split <;> simp_all
  rw [hadd]
  exact cell_new rfl (by simpa using hu)
theorem six_one (a b c d e f : Int) : ∀ u ∈ [Value.int .i64 a, .int .i64 b, .int .i64 c, .int .i64 d, .int .i64 e, .int .i64 f], u.oneCell' = true := by
  intro u hu
  simp at hu
  rcases hu with rfl | rfl | rfl | rfl | rfl | rfl <;> rfl
theorem ownN_slice {w : World} {B e sz : Nat} {v : Value} {n : Nat} {zs : List Value} (h : w.ownsRow B e sz v n zs) : ∃ a c, v = .slice a n c := by
  rcases h.2 with ⟨e, h0⟩ | ⟨g, cap, cur, hv, _⟩
  · rw [h0]; exact ⟨_, _, e⟩
  · exact ⟨_, _, hv⟩
theorem told_all {w w5 : World} {s : Nat} {ba : Option Addr} {bc : BC} {bs : List Int} {p : Nat} {v : Value} {o : Obj} (h : Sr w s ba bc bs p 0 0) (hg : ((w.alloc o).drew).grownBy w5 (Value.slice none 0 0).ownBlock) : Sr (w5.setCell ⟨s, 18, none⟩ v) s ba ⟨bc.n, v⟩ bs p 0 0 ∧ w.grownBy (w5.setCell ⟨s, 18, none⟩ v) (some s) ∧ (∃ u, w5.cell? ⟨s, 18, none⟩ = some u) ∧ w5.frozen? ⟨s, 18, none⟩ = false := by
  have hg' : w.grownBy w5 none := ⟨hg.os, hg.tape, hg.output, Nat.le_trans (by show w.heap.size ≤ (w.alloc o).heap.size; simp) hg.size, fun k hk _ => (hg.block k (by show k < (w.alloc o).heap.size; simp; omega) (by simp [Value.ownBlock])).trans (heap_old w o k hk)⟩
  have h1 := h.grown hg' (by simp) (by simp)
  refine ⟨⟨set_off h1.c0 (by decide), set_off h1.c1 (by decide), set_off h1.c2 (by decide), set_off h1.c3 (by decide), set_off h1.c4 (by decide), set_same h1.ev, set_off h1.c19 (by decide), fun i => by rw [World.frozen?_setCell]; exact h1.fz i, Sr.has_set h1.has h1.ne _ _, h1.ne, h1.le⟩, ?_, ⟨_, h1.ev⟩, h1.fz 18⟩
  exact grown_trans (show w.grownBy w5 (some s) from ⟨hg'.os, hg'.tape, hg'.output, hg'.size, fun k hk _ => hg'.block k hk (by simp)⟩) (grown_set w5 s 18 v)
set_option maxHeartbeats 8000000 in
theorem tell_sc (s : Nat) (ba : Option Addr) (bc : BC) (bs : List Int) (p : Nat) (w1 w2 w3 w4 : Int) (w : World) (h : Sr w s ba bc bs p 0 0) (hev0 : bc.ev = .slice none 0 0) :
    Calls Try.prog 44 #[.pointer (some ⟨s, 0, none⟩), .int .i64 w1, .int .i64 w2, .int .i64 w3, .int .i64 w4] w fun e w' => ∃ v, e = .returned (.tuple #[]) ∧ Sr w' s ba ⟨bc.n, v⟩ bs p 0 0 ∧ w.grownBy w' (some s) := by
  have hev : w.cell? ⟨s, 18, none⟩ = some (.slice none 0 0) := by rw [← hev0]; exact h.ev
  obtain ⟨i0, hi, hz0, hz1, hz2⟩ := info_parts Try.info122
  have c1 := h.c1
  have c3 := h.c3
  have c19 := h.c19
  have f18 := h.fz 18
  have hlt := h.lt
  have H := Hid.mk' h
  have HE := Hid.mk' hev
  have kd : ∀ o, (w.alloc o).cell? ⟨s, 18, none⟩ = some (.slice none 0 0) := fun o => cell_past hev
  clear h hev0
  go_enter Try.func44, Try.ntmps44
  go_wp2_with fail
  go_region_law (first
      | (refine step_append_src rfl (.tmp 19) (.tmp 33) 60 rfl (s + 1) 122 i0 (.agg #[.int .i64 0, .int .i64 0, .int .i64 0, .int .i64 0, .int .i64 0, .int .i64 0]) 6 48 Try.underlying60 hi hz0 hz1 hz2 rfl (by decide) (.slice none 0 0) 0 [] (by simp [Act.eval, Act.put]) (World.ownsRow_nil _ _ _ _) ⟨w.heap.size, 0, none⟩ 1 1 [.int .i64 w1, .int .i64 0, .int .i64 w2, .int .i64 w3, .int .i64 w4, .int .i64 p] (by simp [Act.eval, Act.put]) (by simp) (six_new w _ _ _ _ _ _ _) (six_one _ _ _ _ _ _) (by simp only [maxLen]; omega) (by omega) (by show s + 1 ≤ (w.alloc _).heap.size; simp; omega) ?_
         intro v2 w5 own2 gr2 hloc
         have HQ := Hid.mk' (told_all (v := v2) H.out gr2)
         obtain ⟨u18, d18⟩ := HQ.out.2.2.1
         have e18 := HQ.out.2.2.2
         obtain ⟨va, vc, rfl⟩ := ownN_slice own2
         clear own2 gr2 hloc))
  all_goals
    go_wp2_with fail
    go_end0
    exact ⟨_, rfl, HQ.out.1, HQ.out.2.1⟩
end Go.Proofs.Yteaegmlnacnofaa

set_option linter.unusedVariables false
namespace Go.Proofs.Yteaegmlnacnofaa
open Go.RowKit Go.Sort
set_option maxRecDepth 100000
theorem P2_8 (k : Nat) : By.P2 (8 * (k : Int)) = 2 ^ (8 * k) := by unfold By.P2; rw [show (8 * (k : Int)).toNat = 8 * k by omega]
set_option maxHeartbeats 4000000 in
theorem fix_sc (s : Nat) (ba : Option Addr) (bc : BC) (bs : List Int) (p n : Nat) (w : World) (h : Sr w s ba bc bs p 0 0) (hA : AllB bs) (hl : bs.length ≤ 1099511627776) (hn : n ≤ 8) :
    Calls Try.prog 50 #[.pointer (some ⟨s, 0, none⟩), .int .i64 (n : Int)] w (SpP (fixM bs p n) (fun v => .int .u64 v) (fun u => ∃ v : Int, u = .int .u64 v) w s ba bc bs) := by
  have HS := Hid.mk' h
  have HA := Hid.mk' hA
  clear h hA
  go_enter Try.func50, Try.ntmps50
  go_wp2_with fail
  go_loopw [5, 6] (fun x i wr => ∃ (k : Nat) (v : Int), k ≤ n ∧ i = .int .i64 (k : Int) ∧ x = .int .u64 v ∧ w.grownBy wr (some s) ∧ ((v = sumB bs p k ∧ Sr wr s ba bc bs (p + k) 0 0) ∨ (∃ er a p', er ≠ 0 ∧ fixM bs p n = .bad er a ∧ Sr wr s ba bc bs p' er a))) (fun _ i _ => n - (intOf i).toNat)
  case atStart => exact ⟨0, 0, Nat.zero_le _, rfl, rfl, World.grownBy.refl _ _, .inl ⟨rfl, HS.out⟩⟩
  case round =>
    obtain ⟨k, v, hk, rfl, rfl, hg, hst⟩ := hrel
    have HG := Hid.mk' hg
    clear hg HS
    by_cases hlt : k < n
    · have hki : (k : Int) < (n : Int) := by omega
      have hk7 : (k : Int) ≤ 7 := by omega
      rcases hst with ⟨hv, hs⟩ | ⟨er, a, p', hne, hM, hs⟩
      · have KT := Hid.mk' (byte_sc s ba bc bs (p + k) wr hs hl)
        clear hs
        by_cases hpk : bs.length ≤ p + k
        · have htm : takeM bs (p + k) = .bad 2 bs.length := by unfold takeM; rw [if_pos hpk]
          rw [htm] at KT
          have HM : Hid (fixM bs p n = .bad 2 bs.length) := by show _ = _; unfold fixM; rw [if_neg (by omega)]
          clear htm hv
          go_wp2_with (first
            | (go_at_call 23; refine (KT.out).mono ?_; rintro e w1 ⟨hg1, u, p', rfl, rfl, hs1⟩; have HS1 := Hid.mk' hs1; have HG1 := Hid.mk' (grown_trans HG.out hg1); clear hg1 hs1)
            | (go_at_call 75; refine (By.pow_any _ _ (by omega) (by omega)).mono ?_; rintro e w3 ⟨rfl, rfl⟩))
          go_roundw
          case rel => exact ⟨k + 1, _, by omega, by go_num, rfl, HG1.out, .inr ⟨2, _, _, by decide, HM.out, HS1.out⟩⟩
          case measure => simp [intOf]; omega
        · have htm : takeM bs (p + k) = .ok (bs.getD (p + k) 0) (p + k + 1) := by unfold takeM; rw [if_neg hpk]
          rw [htm] at KT
          obtain ⟨hb0, hb1⟩ := HA.out (p + k)
          obtain ⟨s0, s1⟩ := sumB_bd bs HA.out p k
          have hs2 := sumB_bd bs HA.out p (k + 1)
          have HV : Hid (IntKind.u64.wrap (v + IntKind.u64.wrap (bs.getD (p + k) 0 * By.P2 (8 * (k : Int)))) = sumB bs p (k + 1)) := by
            have h3 : (2 : Int) ^ (8 * (k + 1)) ≤ 18446744073709551616 := by
              have h2 : k = 0 ∨ k = 1 ∨ k = 2 ∨ k = 3 ∨ k = 4 ∨ k = 5 ∨ k = 6 ∨ k = 7 := by omega
              rcases h2 with rfl | rfl | rfl | rfl | rfl | rfl | rfl | rfl <;> decide
            have h4 : 0 ≤ bs.getD (p + k) 0 * 2 ^ (8 * k) := Int.mul_nonneg hb0 (by have := pow_pos' (8 * k); omega)
            show _ = _
            simp only [sumB] at hs2 ⊢
            rw [P2_8, hv, IntKind.wrap_u64, IntKind.wrap_u64]
            generalize bs.getD (p + k) 0 * 2 ^ (8 * k) = t at *
            omega
          generalize bs.getD (p + k) 0 = y at *
          clear htm hv s0 s1 hs2
          go_wp2_with (first
            | (go_at_call 23; refine (KT.out).mono ?_; rintro e w1 ⟨hg1, rfl, hs1⟩; have HS1 := Hid.mk' hs1; have HG1 := Hid.mk' (grown_trans HG.out hg1); clear hg1 hs1)
            | (go_at_call 75; refine (By.pow_any _ _ (by omega) (by omega)).mono ?_; rintro e w3 ⟨rfl, rfl⟩))
          go_roundw
          case rel => exact ⟨k + 1, _, by omega, by go_num, rfl, HG1.out, .inl ⟨HV.out, HS1.out⟩⟩
          case measure => simp [intOf]; omega
      · have KT := Hid.mk' (byte_se s ba bc bs p' er a wr hs hne)
        have HM := Hid.mk' hM
        have HS1 := Hid.mk' hs
        clear hs hM
        go_wp2_with (first
          | (go_at_call 23; refine (KT.out).mono ?_; rintro e w1 ⟨rfl, rfl⟩)
          | (go_at_call 75; refine (By.pow_any _ _ (by omega) (by omega)).mono ?_; rintro e w3 ⟨rfl, rfl⟩))
        go_roundw
        case rel => exact ⟨k + 1, _, by omega, by go_num, rfl, HG.out, .inr ⟨er, a, p', hne, HM.out, HS1.out⟩⟩
        case measure => simp [intOf]; omega
    · have e : k = n := by omega
      subst e
      have HST := Hid.mk' hst
      clear hst
      go_wp2_with fail
      go_ret
      refine ⟨HG.out, ?_⟩
      rcases HST.out with ⟨hv, hs⟩ | ⟨er, a, p', hne, hM, hs⟩
      · have : fixM bs p k = .ok (sumB bs p k) (p + k) := by unfold fixM; rw [if_pos hs.le]
        rw [this]
        exact ⟨by rw [← hv]; rfl, hs⟩
      · rw [hM]
        exact ⟨_, _, rfl, ⟨_, rfl⟩, hs⟩
end Go.Proofs.Yteaegmlnacnofaa
