import Derived.Test.YtbdcgifdggpnlaaTE3
import Derived.Deep.RegionWith
import Derived.Deep.CutRange
set_option linter.all false
set_option linter.unusedVariables false
namespace Go.Proofs.Ytbdcgifdggpnlaa
open Go.RowKit Go.Sort
set_option maxRecDepth 100000
set_option maxHeartbeats 4000000 in
theorem lawTE (pa ra pa' ra' : Option Addr) (pc rc pc' rc' : Nat) (xs ys xs' ys' : List Int) (w : World) (m1 : xs.length ≤ 9223372036854775807) (m2 : ys.length ≤ 9223372036854775807) (m3 : xs'.length ≤ 9223372036854775807) (m4 : ys'.length ≤ 9223372036854775807)
    (h1 : Has w pa xs) (h2 : Has w ra ys) (h3 : Has w pa' xs') (h4 : Has w ra' ys') :
    Calls Try.prog 4 #[.agg #[.slice pa xs.length pc, .slice ra ys.length rc], .agg #[.slice pa' xs'.length pc', .slice ra' ys'.length rc']] w fun e w' => e = .returned (.bool true) ∧ Below w.heap.size w w' := by
  obtain ⟨W, hW⟩ : ∃ W, W = (w.alloc (.cells #[.slice pa xs.length pc, .slice ra ys.length rc] 30)).alloc (.cells #[.slice pa' xs'.length pc', .slice ra' ys'.length rc'] 30) := ⟨_, rfl⟩
  have bW : Below w.heap.size w W := by rw [hW]; exact ((Below.refl _ _).alloc (Nat.le_refl _) _).alloc (by simp) _
  have q0 : B2 W w.heap.size (.slice pa xs.length pc) (.slice ra ys.length rc) := by rw [hW]; exact (B2.new rfl).past
  have q1 : B2 W (w.heap.size + 1) (.slice pa' xs'.length pc') (.slice ra' ys'.length rc') := by rw [hW]; exact B2.new (by simp)
  have F0 : FV W (.agg #[.slice pa xs.length pc, .slice ra ys.length rc]) xs ys := ⟨_, _, _, _, rfl, h1.keep bW, h2.keep bW⟩
  have F1 : FV W (.agg #[.slice pa' xs'.length pc', .slice ra' ys'.length rc']) xs' ys' := ⟨_, _, _, _, rfl, h3.keep bW, h4.keep bW⟩
  have Z0 := Hid.mk' (zFT_c _ xs ys 1048576 W (by omega) (by omega) m1 m2 F0)
  have Z1 := Hid.mk' (fun (l : Int) (V : World) (h0 : 0 ≤ l) (h1 : l ≤ 1048576) (hb : Below W.heap.size W V) => zFT_c _ xs' ys' l V h0 h1 m3 m4 (F1.keep hb))
  have HW := Hid.mk' hW
  have Q0 := Hid.mk' q0
  have Q1 := Hid.mk' q1
  have HF0 := Hid.mk' F0
  have HF1 := Hid.mk' F1
  clear h1 h2 h3 h4 hW F0 F1 m1 m2 m3 m4 q0 q1
  go_enter Try.func4, Try.ntmps4
  go_wp2_with fail
  rw [← HW.out]
  refine Z0.out.mono ?_
  rintro e w1 ⟨r, rfl, b1, hr⟩
  rcases hr with rfl | ⟨r0, r1, n1, n2⟩
  · go_wp2
    go_ret
    exact ⟨rfl, bW.trans (b1.mono bW.size)⟩
  obtain ⟨c0, c1, _⟩ := Q0.out.keep b1
  obtain ⟨d0, d1, _⟩ := Q1.out.keep b1
  have f : ¬ r < 0 := by omega
  go_wp2_with fail
  refine (Z1.out r w1 r0 (by omega) b1).mono ?_
  rintro e w2 ⟨r', rfl, b2, hr⟩
  have b2 : Below W.heap.size W w2 := b1.trans (b2.mono b1.size)
  rcases hr with rfl | ⟨r0', r1', n3, n4⟩
  · go_wp2
    go_ret
    exact ⟨rfl, bW.trans (b2.mono bW.size)⟩
  have f' : ¬ r' < 0 := by omega
  have s1 : xs.length ≤ 1048576 := by omega
  have s2 : ys.length ≤ 1048576 := by omega
  have s3 : xs'.length ≤ 1048576 := by omega
  have s4 : ys'.length ≤ 1048576 := by omega
  have KT := Hid.mk' (fun (V : World) (hb : Below W.heap.size W V) => toFV_c _ xs ys V s1 s2 (HF0.out.keep hb))
  have KT' := Hid.mk' (fun (V : World) (hb : Below W.heap.size W V) => toFV_c _ xs' ys' V s3 s4 (HF1.out.keep hb))
  have KS := Hid.mk' (fun (v v' : Value) (V : World) (h : FV V v xs ys) (h' : FV V v' xs' ys') => sTE_c v v' xs ys xs' ys' V (by omega) (by omega) h h')
  have KI := Hid.mk' (fun (v v' : Value) (V : World) (h : FV V v xs ys) (h' : FV V v' xs' ys') => iTE_c v v' xs ys xs' ys' V (by omega) (by omega) (by omega) (by omega) h h')
  have KE := Hid.mk' (fun (v v' : Value) (V : World) (h : FV V v xs ys) (h' : FV V v' xs ys) => eqFV_c v v' xs ys V (by omega) (by omega) h h')
  have KE' := Hid.mk' (fun (v v' : Value) (V : World) (h : FV V v xs' ys') (h' : FV V v' xs' ys') => eqFV_c v v' xs' ys' V (by omega) (by omega) h h')
  generalize hq : (decide (xs = xs') && decide (ys = ys')) = q at *
  clear hq Z0 Z1 HW HF0 HF1 c0 c1 d0 d1 n1 n2 n3 n4 r0 r1 r0' r1' b1 f s1 s2 s3 s4
  go_upto_region 8 with fail
  have bD : Below W.heap.size W w2.drew := ⟨b2.os, b2.tape, b2.output, b2.size, b2.block⟩
  go_cut [6] from 20 to 24 (fun s V => s = .bool q ∧ Below W.heap.size W V)
  case first =>
    obtain ⟨c0, c1, _⟩ := Q0.out.keep b2
    obtain ⟨d0, d1, _⟩ := Q1.out.keep b2
    have QQ0 := Hid.mk' (fun V (h : Below W.heap.size W V) => Q0.out.keep h)
    have QQ1 := Hid.mk' (fun V (h : Below W.heap.size W V) => Q1.out.keep h)
    clear KI KE KE' Q0 Q1
    go_region_with (first
      | (go_at_call 11; with_reducible refine (KT.out _ ?b).mono ?_; (case b => first | exact cb | exact bD | exact b2); rintro e w3 ⟨va, rfl, fa, ba⟩; have ca : Below W.heap.size W w3 := (by first | exact cb.trans (ba.mono cb.size) | exact bD.trans (ba.mono bD.size) | exact b2.trans (ba.mono b2.size)); obtain ⟨g0, g1, _⟩ := QQ0.out _ ca; obtain ⟨g2, g3, _⟩ := QQ1.out _ ca)
      | (go_at_call 11; with_reducible refine (KT'.out _ ?b).mono ?_; (case b => first | exact ca | exact bD | exact b2); rintro e w4 ⟨vb, rfl, fb, bb⟩; have cb : Below W.heap.size W w4 := (by first | exact ca.trans (bb.mono ca.size) | exact bD.trans (bb.mono bD.size) | exact b2.trans (bb.mono b2.size)); obtain ⟨g4, g5, _⟩ := QQ0.out _ cb; obtain ⟨g6, g7, _⟩ := QQ1.out _ cb)
      | (go_at_call 10; with_reducible refine (KS.out va vb _ ?b ?c).mono ?_; (case b => first | exact fa | exact fa.keep bb); (case c => first | exact fb | exact fb.keep ba); rintro e w5 ⟨rfl, bc⟩; have cc : Below W.heap.size W w5 := (by first | exact ca.trans (bc.mono ca.size) | exact cb.trans (bc.mono cb.size))))
    all_goals
      go_wp2_with fail
      go_meet
      case rel => exact ⟨rfl, cc⟩
  case rest =>
    obtain ⟨rfl, b3⟩ := hcut
    obtain ⟨c0, c1, _⟩ := Q0.out.keep b3
    obtain ⟨d0, d1, _⟩ := Q1.out.keep b3
    clear bD b2 KS
    go_wp2_with fail
    refine (KT.out _ b3).mono ?_
    rintro e w4 ⟨va, rfl, fa, ba⟩
    obtain ⟨a1, a2, a3, a4, rfl, e1, e2⟩ := fa
    have b4 : Below W.heap.size W (w4.alloc (.cells #[.slice a1 xs.length a2, .slice a3 ys.length a4] 33)) := (b3.trans (ba.mono b3.size)).alloc (Nat.le_trans b3.size ba.size) _
    have p4 : B2 (w4.alloc (.cells #[.slice a1 xs.length a2, .slice a3 ys.length a4] 33)) w4.heap.size (.slice a1 xs.length a2) (.slice a3 ys.length a4) := B2.new rfl
    have fa : FV (w4.alloc (.cells #[.slice a1 xs.length a2, .slice a3 ys.length a4] 33)) (.agg #[.slice a1 xs.length a2, .slice a3 ys.length a4]) xs ys := ⟨_, _, _, _, rfl, e1.alloc _, e2.alloc _⟩
    obtain ⟨w5, hw5⟩ : ∃ w5, w5 = w4.alloc (.cells #[.slice a1 xs.length a2, .slice a3 ys.length a4] 33) := ⟨_, rfl⟩
    rw [← hw5] at b4 p4 fa
    obtain ⟨g4, hg4⟩ : ∃ g4, g4 = w4.heap.size := ⟨_, rfl⟩
    rw [← hg4] at p4
    have HW5 := Hid.mk' hw5
    have HG4 := Hid.mk' hg4
    have HP4 := Hid.mk' p4
    have HFA := Hid.mk' fa
    clear e1 e2 ba c0 c1 d0 d1 b3 hw5 hg4 p4 fa
    obtain ⟨c0, c1, _⟩ := Q0.out.keep b4
    obtain ⟨d0, d1, _⟩ := Q1.out.keep b4
    go_upto_region 10 with fail
    rw [← HW5.out, ← HG4.out]
    clear HW5 HG4
    go_wp2_with fail
    refine (KT'.out _ b4).mono ?_
    rintro e w6 ⟨vb, rfl, fb, bb⟩
    obtain ⟨a5, a6, a7, a8, rfl, e1, e2⟩ := fb
    have b6 : Below W.heap.size W (w6.alloc (.cells #[.slice a5 xs'.length a6, .slice a7 ys'.length a8] 33)) := (b4.trans (bb.mono b4.size)).alloc (Nat.le_trans b4.size bb.size) _
    have p6 : B2 (w6.alloc (.cells #[.slice a5 xs'.length a6, .slice a7 ys'.length a8] 33)) w6.heap.size (.slice a5 xs'.length a6) (.slice a7 ys'.length a8) := B2.new rfl
    have p4 : B2 (w6.alloc (.cells #[.slice a5 xs'.length a6, .slice a7 ys'.length a8] 33)) g4 (.slice a1 xs.length a2) (.slice a3 ys.length a4) := (HP4.out.keep bb).past
    have fb : FV (w6.alloc (.cells #[.slice a5 xs'.length a6, .slice a7 ys'.length a8] 33)) (.agg #[.slice a5 xs'.length a6, .slice a7 ys'.length a8]) xs' ys' := ⟨_, _, _, _, rfl, e1.alloc _, e2.alloc _⟩
    have fa : FV (w6.alloc (.cells #[.slice a5 xs'.length a6, .slice a7 ys'.length a8] 33)) (.agg #[.slice a1 xs.length a2, .slice a3 ys.length a4]) xs ys := (HFA.out.keep bb).keep ((Below.refl _ _).alloc (Nat.le_refl _) _)
    obtain ⟨w7, hw7⟩ : ∃ w7, w7 = w6.alloc (.cells #[.slice a5 xs'.length a6, .slice a7 ys'.length a8] 33) := ⟨_, rfl⟩
    rw [← hw7] at b6 p6 fb p4 fa
    obtain ⟨g6, hg6⟩ : ∃ g6, g6 = w6.heap.size := ⟨_, rfl⟩
    rw [← hg6] at p6
    have HW7 := Hid.mk' hw7
    have HG6 := Hid.mk' hg6
    have HP6 := Hid.mk' p6
    replace HP4 := Hid.mk' p4
    have HFB := Hid.mk' fb
    replace HFA := Hid.mk' fa
    clear e1 e2 bb c0 c1 d0 d1 b4 hw7 hg6 p6 p4 fb fa
    obtain ⟨c0, c1, _⟩ := HP4.out
    obtain ⟨d0, d1, _⟩ := HP6.out
    go_upto_region 11 with fail
    rw [← HW7.out, ← HG6.out]
    clear HW7 HG6
    go_wp2_with fail
    refine (KI.out _ _ _ HFA.out HFB.out).mono ?_
    rintro e w8 ⟨rfl, b8⟩
    replace HP4 := Hid.mk' (HP4.out.keep b8)
    replace HP6 := Hid.mk' (HP6.out.keep b8)
    replace HFA := Hid.mk' (HFA.out.keep b8)
    replace HFB := Hid.mk' (HFB.out.keep b8)
    have b9 : Below W.heap.size W w8 := b6.trans (b8.mono b6.size)
    clear c0 c1 d0 d1 b6 b8 KI
    have hqq : (q != q) = false := by simp
    go_upto_region 14 with fail
    have bD : Below W.heap.size W w8.drew := ⟨b9.os, b9.tape, b9.output, b9.size, b9.block⟩
    have bE : Below w8.heap.size w8 w8.drew := ⟨rfl, rfl, rfl, Nat.le_refl _, fun k hk => rfl⟩
    go_cut [39] from 35 to 39 (fun s V => s = .bool false ∧ Below w8.heap.size w8 V)
    case first =>
      obtain ⟨c0, c1, _⟩ := Q0.out.keep b9
      obtain ⟨d0, d1, _⟩ := HP4.out
      have QQ := Hid.mk' (fun V (h : Below w8.heap.size w8 V) => HP4.out.keep h)
      clear KT' KE' Q0 Q1 HP6 HFB
      go_region_with (first
        | (go_at_call 11; with_reducible refine (KT.out _ ?b).mono ?_; (case b => first | exact bD | exact b9); rintro e w3 ⟨va, rfl, fa, ba⟩; have ca : Below w8.heap.size w8 w3 := (by first | exact bE.trans (ba.mono bE.size) | exact ba); obtain ⟨g0, g1, _⟩ := QQ.out _ ca)
        | (go_at_call 13; with_reducible refine (KE.out _ _ _ ?b ?c).mono ?_; (case b => exact HFA.out.keep ca); (case c => exact fa); rintro e w5 ⟨rfl, bc⟩; have cc : Below w8.heap.size w8 w5 := ca.trans (bc.mono ca.size)))
      all_goals
        go_wp2_with fail
        go_meet
        case rel => exact ⟨rfl, cc⟩
    case rest =>
      obtain ⟨rfl, b10⟩ := hcut
      have b11 : Below W.heap.size W wc := b9.trans (b10.mono b9.size)
      replace HP6 := Hid.mk' (HP6.out.keep b10)
      replace HFB := Hid.mk' (HFB.out.keep b10)
      clear b9 b10 bD bE HP4 HFA KT KE
      go_upto_region 16 with fail
      have bD : Below W.heap.size W wc.drew := ⟨b11.os, b11.tape, b11.output, b11.size, b11.block⟩
      have bE : Below wc.heap.size wc wc.drew := ⟨rfl, rfl, rfl, Nat.le_refl _, fun k hk => rfl⟩
      go_cut [44] from 40 to 44 (fun s V => s = .bool false ∧ Below wc.heap.size wc V)
      case first =>
        obtain ⟨c0, c1, _⟩ := Q1.out.keep b11
        obtain ⟨d0, d1, _⟩ := HP6.out
        have QQ := Hid.mk' (fun V (h : Below wc.heap.size wc V) => HP6.out.keep h)
        clear Q0 Q1
        go_region_with (first
          | (go_at_call 11; with_reducible refine (KT'.out _ ?b).mono ?_; (case b => first | exact bD | exact b11); rintro e w3 ⟨va, rfl, fa, ba⟩; have ca : Below wc.heap.size wc w3 := (by first | exact bE.trans (ba.mono bE.size) | exact ba); obtain ⟨g0, g1, _⟩ := QQ.out _ ca)
          | (go_at_call 13; with_reducible refine (KE'.out _ _ _ ?b ?c).mono ?_; (case b => exact HFB.out.keep ca); (case c => exact fa); rintro e w5 ⟨rfl, bc⟩; have cc : Below wc.heap.size wc w5 := ca.trans (bc.mono ca.size)))
        all_goals
          go_wp2_with fail
          go_meet
          case rel => exact ⟨rfl, cc⟩
      case rest =>
        rename_i wd _ _
        obtain ⟨rfl, b12⟩ := hcut
        have b13 := b11.trans (b12.mono b11.size)
        have b14 := bW.trans (b13.mono bW.size)
        clear b12 b13 bD bE KT' KE' HP6 HFB Q0 Q1
        go_wp2
        go_ret
        exact ⟨rfl, b14⟩
end Go.Proofs.Ytbdcgifdggpnlaa
