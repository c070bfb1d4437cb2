import Derived.Test.YtngepdhhdbhglaaGreatDoorYb
import Derived.Test.YtngepdhhdbhglaaGreatDoorShelf
import Derived.Lib.AppendIntMem
import Derived.Lib.AtoiErrMem
set_option linter.all false
set_option linter.unusedVariables false
namespace Go.Proofs.YtngepdhhdbhglaaGreatDoor
open Go.RowKit Go.Sort
set_option maxRecDepth 100000
def IsErr (ev : Value) : Prop := ev = .nilIface ∨ ∃ te pe, ev = .iface te pe
/-- The library's variables, all below the block q. -/
structure Vs (q : Nat) (w : World) : Prop where
  tz : w.cell? ⟨5, 15, none⟩ = some (.int .u8 4)
  tab : Lib.TabBelow Tryz.prog q w "internal/strconv.uint64pow10" .u64 Lib.pow10Tab
  e1 : ∃ ev, w.cell? ⟨1, 0, none⟩ = some ev ∧ IsErr ev
  e2 : ∃ ev, w.cell? ⟨2, 0, none⟩ = some ev ∧ IsErr ev
  ge : 6 ≤ q
theorem Vs.keep {q : Nat} {w w' : World} (h : Vs q w) (hb : Below q w w') : Vs q w' := by
  have ge := h.ge
  obtain ⟨v1, c1, i1⟩ := h.e1
  obtain ⟨v2, c2, i2⟩ := h.e2
  exact ⟨(hb.cell (p := ⟨5, 15, none⟩) (by show 5 < q; omega)).trans h.tz, fun w2 h2 => h.tab w2 (hb.trans h2), ⟨v1, (hb.cell (p := ⟨1, 0, none⟩) (by show 1 < q; omega)).trans c1, i1⟩, ⟨v2, (hb.cell (p := ⟨2, 0, none⟩) (by show 2 < q; omega)).trans c2, i2⟩, ge⟩
theorem Vs.up {q q' : Nat} {w : World} (h : Vs q w) (hq : q ≤ q') : Vs q' w := ⟨h.tz, fun w2 h2 => h.tab w2 (h2.mono hq), h.e1, h.e2, Nat.le_trans h.ge hq⟩
theorem num_c (q : Nat) (x : Int) (w : World) (h0 : -9223372036854775808 ≤ x) (h1 : x ≤ 9223372036854775807) (hV : Vs q w) :
    Calls Tryz.prog 56 #[.int .i64 x] w fun e w' => e = .returned (.string (S (Lib.itoa x))) ∧ Below w.heap.size w w' := by
  have K := Hid.mk' (Tryz.strconv_FormatInt_10 x h0 h1 w hV.tab.here)
  clear hV
  go_enter Tryz.func56, Tryz.ntmps56
  go_wp2_with fail
  refine K.out.mono ?_
  rintro e w1 ⟨rfl, k, os, hw⟩
  have HB : Hid (Below w.heap.size w w1) := by show Below _ _ _; rw [hw]; exact Lib.below_grow _ _ (Nat.le_refl _) k os
  clear hw K
  go_wp2
  go_ret
  exact ⟨rfl, HB.out⟩
def okP (s : Wd) : Option Int := match Lib.parseIntB 64 s with | .ok v => some v | _ => none
theorem okP_bd {s : Wd} {v : Int} (h : okP s = some v) : -9223372036854775808 ≤ v ∧ v ≤ 9223372036854775807 := by
  unfold okP at h
  split at h
  · rename_i u hu
    cases h
    unfold Lib.parseIntB at hu
    split at hu
    · cases hu
    · simp only at hu
      split at hu
      · cases hu
      · cases hu
      · split at hu
        · cases hu
        · split at hu
          · cases hu
          · rename_i n1 n2
            simp only [Lib.NumEnd.ok.injEq] at hu
            subst hu
            split <;> rename_i hneg <;> simp [hneg] at n1 n2 <;> omega
  · cases h
theorem pint_c (q : Nat) (s : Wd) (w : World) (hl : s.length ≤ 1099511627776) (hV : Vs q w) :
    Calls Tryz.prog 54 #[.string (S s), .int .i64 10, .int .i64 64] w fun e w' => ∃ x ev, e = .returned (.tuple #[.int .i64 x, ev]) ∧ Below w.heap.size w w' ∧ ((okP s = some x ∧ ev = .nilIface) ∨ (okP s = none ∧ ∃ t p, ev = .iface t p)) := by
  have hz : (S s).size = s.length := S_size s
  have hd : (S s).data.toList = s := S_toList s
  cases hp : Lib.parseIntB 64 s
  case ok v =>
    refine (Tryz.strconv_ParseInt_10_at64_ok (S s) (by omega) v (by rw [hd]; exact hp) w).mono ?_
    rintro e w' ⟨rfl, hw⟩
    refine ⟨v, _, rfl, ?_, .inl ⟨by simp [okP, hp], rfl⟩⟩
    rcases hw with rfl | ⟨t, rfl⟩
    · exact Below.refl _ _
    · exact Lib.bytesWorld_below _ _ _
  case range =>
    obtain ⟨ev, c1, i1⟩ := hV.e2
    refine (Tryz.strconv_ParseInt_10_at64_range (S s) (by omega) (by rw [hd]; exact hp) ev w c1 i1).mono ?_
    rintro e w' ⟨N, rfl, _, _, hb⟩
    exact ⟨_, _, rfl, hb, .inr ⟨by simp [okP, hp], _, _, rfl⟩⟩
  next =>
    obtain ⟨ev, c1, i1⟩ := hV.e1
    refine (Tryz.strconv_ParseInt_10_at64_syntax (S s) (by omega) (by rw [hd]; exact hp) ev w c1 i1).mono ?_
    rintro e w' ⟨N, rfl, _, _, hb⟩
    exact ⟨_, _, rfl, hb, .inr ⟨by simp [okP, hp], _, _, rfl⟩⟩
/-- Whether a word is a number of a range, as it must be written. -/
def okN (lo hi : Int) (s : Wd) : Bool := match okP s with | some v => decide (lo ≤ v) && (decide (v ≤ hi) && decide (Lib.itoa v = s)) | none => false
theorem S_inj {a b : Wd} (h : S a = S b) : a = b := by have := congrArg (fun x => x.data.toList) h; simpa [S] using this
theorem S_beq (a b : Wd) : ((S a).toList == (S b).toList) = decide (a = b) := by
  rw [ByteArray.toList_eq, ByteArray.toList_eq, S_toList, S_toList]
  by_cases h : a = b
  · subst h; simp
  · simp [h]
set_option maxHeartbeats 4000000 in
theorem number_c (q : Nat) (ws : List Wd) (bad : Bool) (lo hi : Int) (w : World) (h : Tw w q ws bad) (hl : ∀ x ∈ ws, x.length ≤ 1099511627776) (hV : Vs q w) :
    Calls Tryz.prog 35 #[.pointer (some ⟨q, 0, none⟩), .int .i64 lo, .int .i64 hi] w fun e w' => ∃ x : Int, e = .returned (.int .i64 x) ∧ Tw w' q ws.tail ((bad || ws.isEmpty) || !okN lo hi (ws.headD [])) ∧ w.grownBy w' (some q) ∧ (okN lo hi (ws.headD []) = true → okP (ws.headD []) = some x) := by
  have KN := Hid.mk' (next_g q ws bad w h)
  have hhl : (ws.headD []).length ≤ 1099511627776 := by
    cases ws with
    | nil => simp
    | cons x r => exact hl x (by simp)
  have HV := Hid.mk' hV
  have hq := h.lt
  clear h hV hl
  generalize ws.headD [] = s at *
  generalize ws.tail = r at *
  generalize (bad || ws.isEmpty) = z at *
  go_enter Tryz.func35, Tryz.ntmps35
  go_wp2_with fail
  refine KN.out.mono ?_
  rintro e w1 ⟨rfl, t1, b1⟩
  have T1 := Hid.mk' t1
  have B1 := Hid.mk' b1
  have V1 := Hid.mk' (HV.out.keep (grown_below b1 hq))
  have hs1 := b1.size
  have hq1 := t1.lt
  clear t1 b1 KN HV
  go_wp2_with fail
  refine (pint_c q s w1 hhl V1.out).mono ?_
  rintro e w2 ⟨x, ev, rfl, b2, hx⟩
  have T2 := Hid.mk' (T1.out.keep b2)
  have B2 := Hid.mk' (grown_trans B1.out (below_gr b2))
  have V2 := Hid.mk' (V1.out.keep (b2.mono (by omega)))
  have hq2 := T2.out.lt
  clear b2 T1 B1 V1
  rcases hx with ⟨hx, rfl⟩ | ⟨hx, t, p, rfl⟩
  · obtain ⟨x0, x1⟩ := okP_bd hx
    have KT := Hid.mk' (num_c q x w2 x0 x1 V2.out)
    have hok : okN lo hi s = (decide (lo ≤ x) && (decide (x ≤ hi) && decide (Lib.itoa x = s))) := by simp [okN, hx]
    have HX := Hid.mk' hx
    have HOK := Hid.mk' hok
    clear hx hok
    by_cases hlo : lo ≤ x
    · by_cases hhi : x ≤ hi
      · go_wp2_with fail
        refine KT.out.mono ?_
        rintro e w3 ⟨rfl, b3⟩
        have T3 := Hid.mk' (T2.out.keep b3)
        have B3 := Hid.mk' (grown_trans B2.out (below_gr b3))
        clear b3 T2 B2 V2 KT
        by_cases he : Lib.itoa x = s
        · have hok : okN lo hi s = true := by rw [HOK.out]; simp [hlo, hhi, he]
          have HK := Hid.mk' hok
          have KA := Hid.mk' (ask_c q r z true w3 T3.out)
          have HE := Hid.mk' he
          have hse : ((S (Lib.itoa x)).toList == (S s).toList) = true := by rw [S_beq]; simp [HE.out]
          clear hok he
          go_wp2_with fail
          refine KA.out.mono ?_
          rintro e w9 ⟨rfl, t9, b9⟩
          have T9 := Hid.mk' t9
          have B9 := Hid.mk' (grown_trans B3.out b9)
          clear t9 b9 KA
          go_wp2
          go_ret
          exact ⟨x, rfl, by rw [HK.out]; exact T9.out, B9.out, fun _ => HX.out⟩
        · have hok : okN lo hi s = false := by rw [HOK.out]; simp [he]
          have HK := Hid.mk' hok
          have KA := Hid.mk' (ask_c q r z false w3 T3.out)
          have hse : ((S (Lib.itoa x)).toList == (S s).toList) = false := by rw [S_beq]; simp [he]
          clear hok he
          go_wp2_with fail
          refine KA.out.mono ?_
          rintro e w9 ⟨rfl, t9, b9⟩
          have T9 := Hid.mk' t9
          have B9 := Hid.mk' (grown_trans B3.out b9)
          clear t9 b9 KA
          go_wp2
          go_ret
          exact ⟨x, rfl, by rw [HK.out]; exact T9.out, B9.out, fun h => by rw [HK.out] at h; cases h⟩
      · have hok : okN lo hi s = false := by rw [HOK.out]; simp [hhi]
        have HK := Hid.mk' hok
        have KA := Hid.mk' (ask_c q r z false w2 T2.out)
        clear hok KT
        go_wp2_with fail
        refine KA.out.mono ?_
        rintro e w9 ⟨rfl, t9, b9⟩
        have T9 := Hid.mk' t9
        have B9 := Hid.mk' (grown_trans B2.out b9)
        clear t9 b9 KA
        go_wp2
        go_ret
        exact ⟨x, rfl, by rw [HK.out]; exact T9.out, B9.out, fun h => by rw [HK.out] at h; cases h⟩
    · have hok : okN lo hi s = false := by rw [HOK.out]; simp [hlo]
      have HK := Hid.mk' hok
      have KA := Hid.mk' (ask_c q r z false w2 T2.out)
      clear hok KT
      go_wp2_with fail
      refine KA.out.mono ?_
      rintro e w9 ⟨rfl, t9, b9⟩
      have T9 := Hid.mk' t9
      have B9 := Hid.mk' (grown_trans B2.out b9)
      clear t9 b9 KA
      go_wp2
      go_ret
      exact ⟨x, rfl, by rw [HK.out]; exact T9.out, B9.out, fun h => by rw [HK.out] at h; cases h⟩
  · have hok : okN lo hi s = false := by simp [okN, hx]
    have KA := Hid.mk' (ask_c q r z false w2 T2.out)
    have HOK := Hid.mk' hok
    clear hx hok
    go_wp2_with fail
    refine KA.out.mono ?_
    rintro e w9 ⟨rfl, t9, b9⟩
    have T9 := Hid.mk' t9
    have B9 := Hid.mk' (grown_trans B2.out b9)
    clear t9 b9 KA
    go_wp2
    go_ret
    exact ⟨x, rfl, by rw [HOK.out]; exact T9.out, B9.out, fun h => by rw [HOK.out] at h; cases h⟩
theorem u32_c (q : Nat) (ws : List Wd) (bad : Bool) (w : World) (h : Tw w q ws bad) (hl : ∀ x ∈ ws, x.length ≤ 1099511627776) (hV : Vs q w) :
    Calls Tryz.prog 34 #[.pointer (some ⟨q, 0, none⟩)] w fun e w' => ∃ x : Int, e = .returned (.int .i64 x) ∧ Tw w' q ws.tail ((bad || ws.isEmpty) || !okN 0 4294967295 (ws.headD [])) ∧ w.grownBy w' (some q) ∧ (okN 0 4294967295 (ws.headD []) = true → okP (ws.headD []) = some x) := by
  have K := Hid.mk' (number_c q ws bad 0 4294967295 w h hl hV)
  clear h hl hV
  go_enter Tryz.func34, Tryz.ntmps34
  go_wp2_with fail
  refine K.out.mono ?_
  rintro e w1 ⟨x, rfl, t, b, hx⟩
  have HH := Hid.mk' (And.intro t (And.intro b hx))
  clear t b hx K
  go_wp2
  go_ret
  exact ⟨x, rfl, HH.out.1, HH.out.2.1, HH.out.2.2⟩
theorem good_c (q : Nat) (ws : List Wd) (bad : Bool) (w : World) (h : Tw w q ws bad) :
    Calls Tryz.prog 18 #[.pointer (some ⟨q, 0, none⟩)] w fun e w' => e = .returned (.bool (!bad && ws.isEmpty)) ∧ w = w' := by
  have c1 := h.c1
  have KM := Hid.mk' (more_c q ws bad w h)
  clear h
  cases bad with
  | true =>
    go_enter Tryz.func18, Tryz.ntmps18
    go_wp2
    go_ret
    exact ⟨rfl, rfl⟩
  | false =>
    generalize ws.isEmpty = z at *
    go_enter Tryz.func18, Tryz.ntmps18
    go_wp2_with fail
    refine KM.out.mono ?_
    rintro e w1 ⟨rfl, rfl⟩
    go_wp2
    go_ret
    exact ⟨by simp, rfl⟩
end Go.Proofs.YtngepdhhdbhglaaGreatDoor
