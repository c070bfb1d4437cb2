import Derived.Test.YteaegmlnacnofaaGX
set_option linter.all false
set_option linter.unusedVariables false
namespace Go.Proofs.Yteaegmlnacnofaa
open Go.RowKit Go.Sort
set_option maxRecDepth 100000
set_option maxHeartbeats 4000000 in
theorem numS_c (q : Nat) (ba : Option Addr) (bc : Nat) (bs : List Int) (p : Nat) (B : Int) (w : World) (h : Rd w q ba bc bs p) (hA : AllB bs) (hl : bs.length ≤ 1099511627776) (hB0 : 1 ≤ B) (hB1 : B ≤ 64) :
    Calls Try.prog 59 #[.pointer (some ⟨q, 0, none⟩), .int .i64 B, .func (.func 60) #[] #[]] w (RdP (numM true B bs p) (fun v => .int .u64 v) w q ba bc bs) := by
  have c1 := h.c1
  have HR := Hid.mk' h
  have hpl := h.le
  have HA := Hid.mk' hA
  clear h hA
  go_enter Try.func59, Try.ntmps59
  go_wp2_with fail
  go_loopw [] (fun wr => ∃ k : Nat, 7 * (k : Int) < B ∧ Inv true bs p B k ∧ Rd wr q ba bc bs (p + k) ∧ w.grownBy wr (some q)) (fun wr => bs.length - (posOf q wr).toNat)
  case atStart => exact ⟨0, by omega, Inv.start _ _ _ _, HR.out, World.grownBy.refl _ _⟩
  case round =>
    obtain ⟨k, hk, hI, hr, hg⟩ := hrel
    have HI := Hid.mk' hI
    have HG := Hid.mk' hg
    clear hI hg c1 HR
    by_cases hpk : bs.length ≤ p + k
    · have KT := Hid.mk' (take_bad q ba bc bs (p + k) wr hr hpk)
      have HM := Hid.mk' (HI.out.short hpk hB1 hk)
      clear hr
      go_wp2_with fail
      refine (KT.out).mono ?_
      rintro e w1 ⟨rfl, hg1⟩
      refine ⟨rfl, grown_trans HG.out hg1, ?_⟩
      rw [HM.out]
    · have hpk' : p + k < bs.length := by omega
      have KT := Hid.mk' (take_ok q ba bc bs (p + k) wr hr hpk' hl)
      have HM0 := Hid.mk' hr.pos
      clear hr
      obtain ⟨y, hy⟩ : ∃ y, bs.getD (p + k) 0 = y := ⟨_, rfl⟩
      rw [hy] at KT
      have hyb := HA.out (p + k)
      rw [hy] at hyb
      obtain ⟨hy0, hy1⟩ := hyb
      have HY := Hid.mk' hy
      clear hy
      go_wp2_with fail
      refine (KT.out).mono ?_
      rintro e w1 ⟨rfl, hr1, hg1⟩
      have e1 := hr1.c1
      have e0 := hr1.c0
      have HR1 := Hid.mk' hr1
      have HG1 := Hid.mk' (grown_trans HG.out hg1)
      clear hr1 hg1 KT HG
      have ec : ((p + k + 1 : Nat) : Int) = (p : Int) + k + 1 := by omega
      rw [ec] at e1
      by_cases hge : 128 ≤ y
      · by_cases hlt : 7 * ((k : Int) + 1) < B
        · have HI1 := Hid.mk' (HI.out.step hpk' hB1 hlt (by rw [HY.out]; exact hge))
          clear HI HY ec
          go_wp2_with fail
          go_roundw
          case rel => exact ⟨k + 1, by omega, HI1.out, HR1.out, HG1.out⟩
          case measure => rw [HM0.out, HR1.out.pos]; omega
        · have FIN := Hid.mk' (HI.out.fin hpk' hB1 hk (.inr (by omega)))
          clear HI HY
          obtain ⟨r, v, hr1, hr2, hr3⟩ := FIN.out
          obtain ⟨m, hm⟩ : ∃ m, m = p + k + 1 := ⟨_, rfl⟩
          have hmi : (m : Int) = (p : Int) + k + 1 := by omega
          rw [← hmi] at e1 hr1 hr2
          rw [← hm] at hr2 HR1
          have hml : m ≤ bs.length := by omega
          have hmc : m ≤ bc := by have := HR1.out.cap; omega
          have htl : (bs.take m).length = m := by simp; omega
          have KG : Hid (∀ V, By.Has V ba (bs.take m) → Calls Try.prog 60 #[.slice ba m bc, .int .i64 p, .int .i64 B] V fun e w' => e = .returned (.agg #[.int .i64 r, .int .u64 v, .int .i64 m]) ∧ Below V.heap.size V w') := fun V hV => by
            have := By.implGetS_any ba bc (bs.take m) p B V (by omega) hV (allB_take HA.out m)
            rw [htl] at this
            have e : By.getA true (bs.take m) p B = (r, v, (m : Int)) := by unfold By.getA; rw [if_pos (by omega), Int.toNat_natCast, normB_id hB0 hB1, hr2]
            rw [e] at this
            exact this
          have HT : Hid (∀ V, Below w1.heap.size w1 V → By.Has V ba (bs.take m)) := fun V hb => has_prefix (HR1.out.has.keep hb) m
          have HF : Hid (if r = 0 then numM true B bs p = .ok v m else numM true B bs p = .bad 7 m) := by
            show if r = 0 then _ else _
            split
            · rename_i h; subst h; exact numM_ok hr1
            · rename_i h; exact numM_bad hr1 h hr3
          have k0 : w1.drew.cell? ⟨q, 0, none⟩ = some (.slice ba bs.length bc) := e0
          have k1 : w1.drew.cell? ⟨q, 1, none⟩ = some (.int .i64 m) := e1
          have hmi2 : ¬ (bc : Int) < (m : Int) := by omega
          have QN : Hid (q ≠ w1.heap.size) := by have := HR1.out.lt; show _ ≠ _; omega
          have hmi3 : (0 : Int) ≤ (m : Int) := by omega
          have hmi4 : (m : Int) ≤ (bc : Int) := by omega
          have hdd : ¬ ((m : Int) - p) * 7 < B := by omega
          clear hm hmi hr1 hr2 htl FIN ec
          have KD0 := Hid.mk' (fun o => show (w1.alloc o).drew.cell? ⟨q, 0, none⟩ = some (.slice ba bs.length bc) from cell_past e0)
          have KD1 := Hid.mk' (fun o => show (w1.alloc o).drew.cell? ⟨q, 1, none⟩ = some (.int .i64 m) from cell_past e1)
          have KF := Hid.mk' (fun (V : World) (hV : Below w1.heap.size w1 V) => fail_c q 7 m V (HR1.out.keep hV).c1)
          go_wp2_with fail
          go_cut [8] from 27 (fun s V => ∃ g, s = .pointer (some ⟨g, 0, none⟩) ∧ V.cell? ⟨g, 0, none⟩ = some (.int .i64 r) ∧ V.cell? ⟨g, 1, none⟩ = some (.int .u64 v) ∧ Below w1.heap.size w1 V)
          case first =>
            go_region_held3 (fun w' => w'.cell? ⟨q, 0, none⟩ = some (.slice ba bs.length bc) ∧ w'.cell? ⟨q, 1, none⟩ = some (.int .i64 m)) (first | with_reducible exact ⟨k0, k1⟩ | with_reducible exact ⟨cell_past k0, cell_past k1⟩ | with_reducible exact ⟨KD0.out _, KD1.out _⟩ | with_reducible exact ⟨set3_other k0 QN.out _ _ _, set3_other k1 QN.out _ _ _⟩)
              (first
                | (go_at_call 60
                   refine Calls.mono (KG.out _ ?hh) ?_
                   case hh => first | exact HT.out _ (bel_alloc' _) | exact HT.out _ bel_drew
                   rintro e w2 ⟨rfl, hb2⟩
                   first
                     | (have HB2 := Hid.mk' (show Below w1.heap.size w1 w2 from (bel_alloc' _).trans (hb2.mono (by simp)))
                        obtain ⟨z0, z1, z2, zf⟩ := z3 hb2
                        have zf0 := zf 0
                        have zf1 := zf 1
                        have zf2 := zf 2
                        clear zf)
                     | have HB2 := Hid.mk' (show Below w1.heap.size w1 w2 from bel_drew.trans hb2)
                   have k0 := (HR1.out.keep HB2.out).c0
                   have k1 := (HR1.out.keep HB2.out).c1
                   clear hb2))
            all_goals
              go_wp2_with fail
              go_meet
              first
                | exact ⟨_, rfl, cell_new rfl rfl, cell_new rfl rfl, HB2.out.alloc HB2.out.size _⟩
                | exact ⟨_, rfl, set_off (set_off (set_same z0) (by decide)) (by decide), set_off (set_same (set_off z1 (by decide))) (by decide), ((HB2.out.setCell (Nat.le_refl _) _).setCell (Nat.le_refl _) _).setCell (Nat.le_refl _) _⟩
          case rest =>
            obtain ⟨g, rfl, y0, y1, hV⟩ := hcut
            have HV := Hid.mk' hV
            clear hV KG HT KD0 KD1 k0 k1 e0 e1
            by_cases hr0 : r = 0
            · subst hr0
              have HM := Hid.mk' HF.out
              clear HF
              go_wp2_with fail
              go_ret
              refine ⟨grown_trans HG1.out (below_grown' HV.out), ?_⟩
              rw [show numM true B bs p = .ok v m from HM.out]
              exact ⟨rfl, HR1.out.keep HV.out⟩
            · have hrn : (r != 0) = true := by simpa using hr0
              have HM : Hid (numM true B bs p = .bad 7 m) := by have := HF.out; rw [if_neg hr0] at this; exact this
              clear HF hr0
              go_wp2_with fail
              refine (KF.out _ HV.out).mono ?_
              rintro e w3 ⟨rfl, rfl⟩
              refine ⟨rfl, grown_trans HG1.out (below_grown' HV.out), ?_⟩
              rw [HM.out]
      · have FIN := Hid.mk' (HI.out.fin hpk' hB1 hk (.inl (by rw [HY.out]; omega)))
        clear HI HY
        obtain ⟨r, v, hr1, hr2, hr3⟩ := FIN.out
        obtain ⟨m, hm⟩ : ∃ m, m = p + k + 1 := ⟨_, rfl⟩
        have hmi : (m : Int) = (p : Int) + k + 1 := by omega
        rw [← hmi] at e1 hr1 hr2
        rw [← hm] at hr2 HR1
        have hml : m ≤ bs.length := by omega
        have hmc : m ≤ bc := by have := HR1.out.cap; omega
        have htl : (bs.take m).length = m := by simp; omega
        have KG : Hid (∀ V, By.Has V ba (bs.take m) → Calls Try.prog 60 #[.slice ba m bc, .int .i64 p, .int .i64 B] V fun e w' => e = .returned (.agg #[.int .i64 r, .int .u64 v, .int .i64 m]) ∧ Below V.heap.size V w') := fun V hV => by
          have := By.implGetS_any ba bc (bs.take m) p B V (by omega) hV (allB_take HA.out m)
          rw [htl] at this
          have e : By.getA true (bs.take m) p B = (r, v, (m : Int)) := by unfold By.getA; rw [if_pos (by omega), Int.toNat_natCast, normB_id hB0 hB1, hr2]
          rw [e] at this
          exact this
        have HT : Hid (∀ V, Below w1.heap.size w1 V → By.Has V ba (bs.take m)) := fun V hb => has_prefix (HR1.out.has.keep hb) m
        have HF : Hid (if r = 0 then numM true B bs p = .ok v m else numM true B bs p = .bad 7 m) := by
          show if r = 0 then _ else _
          split
          · rename_i h; subst h; exact numM_ok hr1
          · rename_i h; exact numM_bad hr1 h hr3
        have k0 : w1.drew.cell? ⟨q, 0, none⟩ = some (.slice ba bs.length bc) := e0
        have k1 : w1.drew.cell? ⟨q, 1, none⟩ = some (.int .i64 m) := e1
        have hmi2 : ¬ (bc : Int) < (m : Int) := by omega
        have QN : Hid (q ≠ w1.heap.size) := by have := HR1.out.lt; show _ ≠ _; omega
        have hmi3 : (0 : Int) ≤ (m : Int) := by omega
        have hmi4 : (m : Int) ≤ (bc : Int) := by omega
        clear hm hmi hr1 hr2 htl FIN ec
        have KD0 := Hid.mk' (fun o => show (w1.alloc o).drew.cell? ⟨q, 0, none⟩ = some (.slice ba bs.length bc) from cell_past e0)
        have KD1 := Hid.mk' (fun o => show (w1.alloc o).drew.cell? ⟨q, 1, none⟩ = some (.int .i64 m) from cell_past e1)
        have KF := Hid.mk' (fun (V : World) (hV : Below w1.heap.size w1 V) => fail_c q 7 m V (HR1.out.keep hV).c1)
        go_wp2_with fail
        go_cut [8] from 27 (fun s V => ∃ g, s = .pointer (some ⟨g, 0, none⟩) ∧ V.cell? ⟨g, 0, none⟩ = some (.int .i64 r) ∧ V.cell? ⟨g, 1, none⟩ = some (.int .u64 v) ∧ Below w1.heap.size w1 V)
        case first =>
          go_region_held3 (fun w' => w'.cell? ⟨q, 0, none⟩ = some (.slice ba bs.length bc) ∧ w'.cell? ⟨q, 1, none⟩ = some (.int .i64 m)) (first | with_reducible exact ⟨k0, k1⟩ | with_reducible exact ⟨cell_past k0, cell_past k1⟩ | with_reducible exact ⟨KD0.out _, KD1.out _⟩ | with_reducible exact ⟨set3_other k0 QN.out _ _ _, set3_other k1 QN.out _ _ _⟩)
            (first
              | (go_at_call 60
                 refine Calls.mono (KG.out _ ?hh) ?_
                 case hh => first | exact HT.out _ (bel_alloc' _) | exact HT.out _ bel_drew
                 rintro e w2 ⟨rfl, hb2⟩
                 first
                   | (have HB2 := Hid.mk' (show Below w1.heap.size w1 w2 from (bel_alloc' _).trans (hb2.mono (by simp)))
                      obtain ⟨z0, z1, z2, zf⟩ := z3 hb2
                      have zf0 := zf 0
                      have zf1 := zf 1
                      have zf2 := zf 2
                      clear zf)
                   | have HB2 := Hid.mk' (show Below w1.heap.size w1 w2 from bel_drew.trans hb2)
                 have k0 := (HR1.out.keep HB2.out).c0
                 have k1 := (HR1.out.keep HB2.out).c1
                 clear hb2))
          all_goals
            go_wp2_with fail
            go_meet
            first
              | exact ⟨_, rfl, cell_new rfl rfl, cell_new rfl rfl, HB2.out.alloc HB2.out.size _⟩
              | exact ⟨_, rfl, set_off (set_off (set_same z0) (by decide)) (by decide), set_off (set_same (set_off z1 (by decide))) (by decide), ((HB2.out.setCell (Nat.le_refl _) _).setCell (Nat.le_refl _) _).setCell (Nat.le_refl _) _⟩
        case rest =>
          obtain ⟨g, rfl, y0, y1, hV⟩ := hcut
          have HV := Hid.mk' hV
          clear hV KG HT KD0 KD1 k0 k1 e0 e1
          by_cases hr0 : r = 0
          · subst hr0
            have HM := Hid.mk' HF.out
            clear HF
            go_wp2_with fail
            go_ret
            refine ⟨grown_trans HG1.out (below_grown' HV.out), ?_⟩
            rw [show numM true B bs p = .ok v m from HM.out]
            exact ⟨rfl, HR1.out.keep HV.out⟩
          · have hrn : (r != 0) = true := by simpa using hr0
            have HM : Hid (numM true B bs p = .bad 7 m) := by have := HF.out; rw [if_neg hr0] at this; exact this
            clear HF hr0
            go_wp2_with fail
            refine (KF.out _ HV.out).mono ?_
            rintro e w3 ⟨rfl, rfl⟩
            refine ⟨rfl, grown_trans HG1.out (below_grown' HV.out), ?_⟩
            rw [HM.out]
end Go.Proofs.Yteaegmlnacnofaa
