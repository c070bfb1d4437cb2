import Derived.Test.YteaegmlnacnofaaPr6
set_option linter.all false
set_option linter.unusedVariables false
namespace Go.Proofs.Yteaegmlnacnofaa
open Go.RowKit Go.Sort
set_option maxRecDepth 100000
theorem lst_ls {w : World} {a : Option Addr} {xs : List In} (h : Lst w a xs) : In.Ls 0 w a xs := by
  rcases h with h | ⟨b, o, e, hc⟩
  · exact .inl h
  · refine .inr ⟨b, o, e, Nat.zero_le _, fun i hi => ?_⟩
    obtain ⟨la, lc, h0, h1, h2, h3, h4, h5⟩ := hc i hi
    refine ⟨la, lc, ⟨h0, h1, h2, h3, h4⟩, ?_⟩
    rcases h5 with h5 | ⟨b', o', e', hc'⟩
    · exact .inl h5
    · exact .inr ⟨b', o', e', Nat.zero_le _, hc'⟩
theorem pairsM_len {xs : List In} : (pairsM xs).length ≤ xs.length := by
  unfold pairsM
  split
  · rename_i h; rw [(pi_all h xs.length (Nat.le_refl _)).sz]; exact Nat.le_refl _
  · simp
set_option maxHeartbeats 16000000 in
theorem lawPairs (a : Option Addr) (c : Nat) (xs : List In) (w : World) (hn : xs.length ≤ 9223372036854775807) (hl : ∀ i, (xs.getD i I0).l.length ≤ 9223372036854775807) (hv : ∀ i, 0 ≤ (xs.getD i I0).v) (hL : Lst w a xs) :
    Calls Try.prog 4 #[.slice a xs.length c] w fun e w' => e = .returned (.bool true) ∧ Below w.heap.size w w' := by
  have HZ := Hid.mk' (qzIns_c a c xs 1048576 w (by omega) (by omega) (lst_ls hL) ⟨hn, fun i _ => hl i⟩)
  have HV := Hid.mk' hv
  have HL := Hid.mk' hL
  clear hv hL hl
  go_enter Try.func4, Try.ntmps4
  go_wp2_with fail
  refine HZ.out.mono ?_
  rintro e w1 ⟨r, rfl, b1, hr⟩
  rcases hr with rfl | ⟨hr0, hr1, hr2, hr3⟩
  · go_wp2
    go_ret
    exact ⟨rfl, b1⟩
  · have f : ¬ r < 0 := by omega
    have KT := Hid.mk' (fun (W : World) (h : Below w.heap.size w W) => NF.rtIns_c a c xs W ⟨hr2, hr3⟩ (lst_ls (HL.out.keep h)))
    have KS := Hid.mk' (fun (a : Option Addr) (c : Nat) (W : World) (h : Lst W a xs) => spairs_c a c xs W hr2 hr3 HV.out h)
    have KI := Hid.mk' (fun (a : Option Addr) (c : Nat) (W : World) (hc : xs.length ≤ c) (h : Lst W a xs) => ipairs_c a c xs W hr2 hc hr3 HV.out h)
    have KE := Hid.mk' (fun (a a' : Option Addr) (c c' : Nat) (W : World) (h : Lst W a xs) (h' : Lst W a' xs) => eqIs_c a a' c c' xs W (by omega) (fun i hi => by have := hr3 i hi; unfold In.LB at this; omega) h h')
    have hPl : (pairsM xs).length ≤ 1048576 := Nat.le_trans pairsM_len hr2
    have KQ := Hid.mk' (fun (B B' : Nat) (v v' : Value) (W : World) (h : PR W B v (pairsM xs)) (h' : PR W B' v' (pairsM xs)) => eqPairs_c B B' v v' (pairsM xs) W hPl h h')
    have KM := Hid.mk' (fun (B : Nat) (v : Value) (W : World) (h : PR W B v (pairsM xs)) => marks_c B v (pairsM xs) W hPl h)
    have KH := Hid.mk' (fun (B : Nat) (v : Value) (W : World) (h : PR W B v (mkP 1 (pairsM xs).length)) => held_c B v (pairsM xs).length W hPl h)
    have KX := Hid.mk' (fun (a : Option Addr) (c : Nat) (B : Nat) (W0 V : World) (h : In.Ls B W0 a xs) (hm : Mk B W0 V) => mkIns_c a c xs 1 B W0 V h hm (by decide) (by omega))
    generalize pairsM xs = M at *
    clear hr1 hr2 hr3 HZ HL HV hn
    go_wp2_with fail
    refine (KT.out _ b1).mono ?_
    rintro e w2 ⟨rfl, ls2, nb2⟩
    have b2 := b1.trans (nb2.to.mono b1.size)
    go_wp2_with fail
    refine (KS.out _ _ _ ls2.lst).mono ?_
    rintro e w3 ⟨v4, rfl, p4, b3'⟩
    have b3 := b2.trans (b3'.mono b2.size)
    clear ls2 nb2 b2 b1 b3'
    go_wp2_with fail
    refine (KT.out _ b3).mono ?_
    rintro e w4 ⟨rfl, ls4, nb4⟩
    have h4 : ∀ k, v4.ownBlock = some k → k < w3.heap.size := fun k hk => (p4.lt k hk).2
    have p4 := p4.keep nb4.to
    have b4 := b3.trans (nb4.to.mono b3.size)
    have MK := Hid.mk' (fun (V : World) (hb : Below w4.heap.size w4 V) => mk_of nb4 hb)
    have L4 := Hid.mk' ls4
    have H4 := Hid.mk' h4
    have hs4 := nb4.size
    have hs3 := b3.size
    clear nb4 b3 h4
    go_wp2_with fail
    refine (KI.out _ _ _ (Nat.le_refl _) ls4.lst).mono ?_
    rintro e w5 ⟨v6, rfl, p6, b5'⟩
    have p4 := p4.keep b5'
    have l5 := ls4.lst.keep b5'
    have b5 := b4.trans (b5'.mono b4.size)
    have s5 : Below w4.heap.size w4 w5 := b5'
    have hs5 := b5'.size
    have h6 := Hid.mk' (fun k hk => (p6.lt k hk).1)
    clear ls4 b4 b5'
    go_wp2_with fail
    refine (KQ.out _ _ _ _ _ p6 p4).mono ?_
    rintro e w6 ⟨rfl, b6'⟩
    have p4 := p4.keep b6'
    have p6 := p6.keep b6'
    have l6 := l5.keep b6'
    have b6 := b5.trans (b6'.mono b5.size)
    have s6 := s5.trans (b6'.mono hs5)
    clear b5 s5 l5 hs5 b6'
    go_wp2_with fail
    refine (KT.out _ b6).mono ?_
    rintro e w7 ⟨rfl, ls7, nb7⟩
    have p4 := p4.keep nb7.to
    have p6 := p6.keep nb7.to
    have l7 := l6.keep nb7.to
    have b7 := b6.trans (nb7.to.mono b6.size)
    have s7 := s6.trans (nb7.to.mono s6.size)
    clear b6 s6 l6 nb7
    go_wp2_with fail
    refine (KE.out _ _ _ _ _ l7 ls7.lst).mono ?_
    rintro e w8 ⟨rfl, b8'⟩
    have p4 := p4.keep b8'
    have p6 := p6.keep b8'
    have b8 := b7.trans (b8'.mono b7.size)
    have s8 := s7.trans (b8'.mono s7.size)
    clear b7 s7 l7 ls7 b8' KE
    go_wp2_with fail
    refine (KX.out _ _ _ _ _ L4.out (MK.out _ s8)).mono ?_
    rintro e w9 ⟨k1, rfl, hk1, -, mb⟩
    have hs8 := s8.size
    have p4 := p4.blk (fun k hk => mb.bt.block k (.inl (H4.out k hk)))
    have p6 := p6.blk (fun k hk => mb.bt.block k (.inr ⟨h6.out k hk, (p6.lt k hk).2⟩))
    have b9 : Below w.heap.size w w9 := b8.trans (mb.bt.below.mono hs3)
    have fk : decide (k1 < 0) = false := by rw [decide_eq_false_iff_not]; omega
    clear b8 mb s8 KX MK L4 hk1
    go_wp2_with fail
    refine (KQ.out _ _ _ _ _ p6 p4).mono ?_
    rintro e w10 ⟨rfl, b10'⟩
    have p4 := p4.keep b10'
    have p6 := p6.keep b10'
    have b10 := b9.trans (b10'.mono b9.size)
    clear b9 b10' fk
    go_wp2_with fail
    refine (KM.out _ _ _ p6).mono ?_
    rintro e w11 ⟨rfl, p6', g11⟩
    have p4 := p4.blk (fun k hk => g11.block k (p4.lt k hk).2 (fun e => by have h1 := H4.out k hk; have h2 := h6.out k e.symm; omega))
    have b11 : Below w.heap.size w w11 := b10.grown g11 b10.size (fun j hj => by have := h6.out j hj; omega)
    have fM : ¬ (1 + 2 * (M.length : Int) < 0) := by omega
    clear p6 b10 g11 KM
    go_wp2_with fail
    refine (KH.out _ _ _ p6').mono ?_
    rintro e w12 ⟨rfl, rfl⟩
    go_wp2_with fail
    refine (KT.out _ b11).mono ?_
    rintro e w13 ⟨rfl, ls13, nb13⟩
    have p4 := p4.keep nb13.to
    have p6 := p6'.keep nb13.to
    have b13 := b11.trans (nb13.to.mono b11.size)
    clear b11 nb13 p6'
    go_wp2_with fail
    refine (KI.out _ _ _ (Nat.le_refl _) ls13.lst).mono ?_
    rintro e w14 ⟨v10, rfl, p10, b14'⟩
    have p4 := p4.keep b14'
    have p6 := p6.keep b14'
    have b14 := b13.trans (b14'.mono b13.size)
    clear b13 b14' ls13
    go_wp2_with fail
    refine (KQ.out _ _ _ _ _ p10 p4).mono ?_
    rintro e w15 ⟨rfl, b15'⟩
    have p6 := p6.keep b15'
    have b15 := b14.trans (b15'.mono b14.size)
    clear b14 b15' p4 p10
    go_wp2_with fail
    refine (KH.out _ _ _ p6).mono ?_
    rintro e w16 ⟨rfl, rfl⟩
    clear p6 KH KT KI KS KQ
    go_wp2
    go_ret
    exact ⟨rfl, b15⟩
end Go.Proofs.Yteaegmlnacnofaa
