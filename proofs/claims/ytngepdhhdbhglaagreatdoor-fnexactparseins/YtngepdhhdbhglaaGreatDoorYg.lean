import Derived.Test.YtngepdhhdbhglaaGreatDoorYf3
import Derived.Test.YtngepdhhdbhglaaGreatDoorYf6
set_option linter.all false
set_option linter.unusedVariables false
namespace Go.Proofs.YtngepdhhdbhglaaGreatDoor
open Go.RowKit Go.Sort
set_option maxRecDepth 100000
set_option maxHeartbeats 400000 in
theorem tbits_c (q : Nat) (u n : Nat) (w : World) (hn1 : 1 ≤ n) (hn : n ≤ 16) (hu : u < 16 ^ n) (hV : Vs q w) :
    Calls Tryz.prog 59 #[.int .u64 (u : Int), .int .i64 (n : Int)] w fun e w' => e = .returned (.string (S (bitsT n u))) ∧ Below w.heap.size w w' := by
  have h64 : u < 18446744073709551616 := by
    have h1 : 16 ^ n ≤ 16 ^ 16 := Nat.pow_le_pow_right (by omega) hn
    have h2 : (16 : Nat) ^ 16 = 18446744073709551616 := by decide
    rw [h2] at h1
    omega
  have K := Hid.mk' (fu_c u w h64 hV.tz)
  have hl : (hexD u).length ≤ n := by
    obtain ⟨m, rfl⟩ : ∃ m, n = m + 1 := ⟨n - 1, by omega⟩
    exact (hexD_spec m u hu).1
  have HE : Hid ([48, 120] ++ Lib.repeatL [48] (n - (hexD u).length) ++ hexD u = bitsT n u) := by
    show _ = _
    obtain ⟨m, rfl⟩ : ∃ m, n = m + 1 := ⟨n - 1, by omega⟩
    exact bits_eq m u hu
  generalize bitsT n u = M at *
  generalize hexD u = L at *
  obtain ⟨c, hc⟩ : ∃ c, c = n - L.length := ⟨_, rfl⟩
  rw [← hc] at HE
  have KR := Hid.mk' (fun w => Tryz.strings_Repeat ⟨#[48]⟩ c w (by omega) (by show 1 * c ≤ _; omega))
  rw [show (⟨#[48]⟩ : ByteArray).data.toList = [48] from rfl] at KR
  have hrl : (Lib.repeatL [48] c).length = c := by rw [repeat_eq]; simp
  generalize Lib.repeatL [48] c = R at *
  rw [show (⟨R.toArray⟩ : ByteArray) = S R from rfl] at KR
  have hw : IntKind.i64.wrap ((n : Int) - ((S L).size : Int)) = (c : Int) := by rw [IntKind.wrap_i64, S_size]; omega
  have q1 : ¬ 9223372036854775807 < 2 + (S R).size := by rw [S_size]; omega
  have q2 : ¬ 9223372036854775807 < 2 + (S R).size + (S L).size := by rw [S_size, S_size]; omega
  have HC := Hid.mk' hc
  clear hV hu hc
  go_enter Tryz.func59, Tryz.ntmps59
  go_wp2_with fail
  refine K.out.mono ?_
  rintro e w1 ⟨rfl, hb⟩
  have HB := Hid.mk' hb
  clear K hb
  go_wp2_with fail
  refine (KR.out _).mono ?_
  rintro e w2 ⟨rfl, hb⟩
  have HB2 := Hid.mk' (HB.out.trans (hb.mono HB.out.size))
  clear hb
  go_wp2
  go_ret
  exact ⟨by rw [← HE.out, ← S_app, ← S_app]; rfl, HB2.out⟩
def puW (mx : Nat) (l : Wd) : Option Nat := if l = [] then none else pu mx 0 l
theorem pu_le {mx : Nat} : ∀ (l : Wd) (n m : Nat), n ≤ mx → pu mx n l = some m → m ≤ mx
  | [], n, m, h, e => by simp [pu] at e; omega
  | c :: r, n, m, h, e => by
    simp only [pu] at e
    split at e
    · cases e
    · split at e
      · cases e
      · split at e
        · cases e
        · exact pu_le r _ m (by omega) e
theorem puW_le {mx : Nat} {l : Wd} {m : Nat} (h : puW mx l = some m) : m ≤ mx := by
  unfold puW at h
  split at h
  · cases h
  · exact pu_le l 0 m (by omega) h
/-- Whether a word is the bits of a float, as they must be written. -/
def okB (n mx : Nat) (s : Wd) : Bool := match puW mx (Lib.trimPrefix s [48, 120]) with | some u => decide (bitsT n u = s) | none => false
set_option maxHeartbeats 2000000 in
theorem pup32_c (q : Nat) (l : Wd) (w : World) (hl : l.length ≤ 1099511627776) (hV : Vs q w) :
    Calls Tryz.prog 57 #[.string (S l), .int .i64 16, .int .i64 32] w fun e w' => ∃ (x : Int) (ev : Value), e = .returned (.tuple #[.int .u64 x, ev]) ∧ Below w.heap.size w w' ∧ ((∃ n : Nat, puW 4294967295 l = some n ∧ x = n ∧ ev = .nilIface) ∨ (puW 4294967295 l = none ∧ ∃ t p, ev = .iface t p)) := by
  obtain ⟨ev1, c1, i1⟩ := hV.e1
  obtain ⟨ev2, c2, i2⟩ := hV.e2
  have b1 : (1 : Nat) < w.heap.size := World.block_lt_of_cell? w _ c1
  have b2 : (2 : Nat) < w.heap.size := World.block_lt_of_cell? w _ c2
  have hz : (S l).size = l.length := S_size l
  have KS := Hid.mk' (fun (V : World) (hb : Below w.heap.size w V) => Tryz.strconv_toError_syntax ⟨#[80, 97, 114, 115, 101, 85, 105, 110, 116]⟩ (S l) 16 32 ev1 V (by omega) ((hb.cell (p := ⟨1, 0, none⟩) b1).trans c1) i1)
  have KR := Hid.mk' (fun (V : World) (hb : Below w.heap.size w V) => Tryz.strconv_toError_range ⟨#[80, 97, 114, 115, 101, 85, 105, 110, 116]⟩ (S l) 16 32 ev2 V (by omega) ((hb.cell (p := ⟨2, 0, none⟩) b2).trans c2) i2)
  have K : Hid (Calls Tryz.prog 79 #[.string (S l), .int .i64 16, .int .i64 32] w fun e w' => ∃ (x : Int) (ev : Value), e = .returned (.tuple #[.int .u64 x, ev]) ∧ Below w.heap.size w w' ∧ ((∃ n : Nat, puW 4294967295 l = some n ∧ x = n ∧ ev = .nilIface) ∨ (puW 4294967295 l = none ∧ (ev = .iface 122 (.int .i64 2) ∨ ev = .iface 122 (.int .i64 1))))) := by
    show Calls _ _ _ _ _
    by_cases hne : l = []
    · subst hne
      refine (Tryz.internal_strconv_ParseUint_empty 16 32 w).mono ?_
      rintro e w' ⟨rfl, rfl⟩
      exact ⟨0, _, rfl, Below.refl _ _, .inr ⟨rfl, .inl rfl⟩⟩
    · refine (pui32_c l w hne hl).mono ?_
      rintro e w' ⟨x, ev, rfl, hb, hx⟩
      refine ⟨x, ev, rfl, hb, ?_⟩
      rw [show puW 4294967295 l = pu 4294967295 0 l by simp [puW, hne]]
      exact hx
  clear hV c1 c2 i1 i2
  go_enter Tryz.func57, Tryz.ntmps57
  go_wp2_with fail
  refine K.out.mono ?_
  rintro e w1 ⟨x, ev, rfl, hb, hx⟩
  have HB := Hid.mk' hb
  clear hb K
  rcases hx with ⟨n, h1, rfl, rfl⟩ | ⟨h1, rfl | rfl⟩
  · have H1 := Hid.mk' h1
    clear h1
    go_wp2
    go_ret2
    exact ⟨_, _, rfl, HB.out, .inl ⟨n, H1.out, rfl, rfl⟩⟩
  · have H1 := Hid.mk' h1
    clear h1
    go_wp2_with fail
    refine (KS.out _ HB.out).mono ?_
    rintro e w2 ⟨N, rfl, -, -, hb⟩
    have HB2 := Hid.mk' (HB.out.trans (hb.mono HB.out.size))
    clear hb
    go_wp2
    go_ret2
    exact ⟨_, _, rfl, HB2.out, .inr ⟨H1.out, _, _, rfl⟩⟩
  · have H1 := Hid.mk' h1
    clear h1
    go_wp2_with fail
    refine (KR.out _ HB.out).mono ?_
    rintro e w2 ⟨N, rfl, -, -, hb⟩
    have HB2 := Hid.mk' (HB.out.trans (hb.mono HB.out.size))
    clear hb
    go_wp2
    go_ret2
    exact ⟨_, _, rfl, HB2.out, .inr ⟨H1.out, _, _, rfl⟩⟩
set_option maxHeartbeats 2000000 in
theorem pup64_c (q : Nat) (l : Wd) (w : World) (hl : l.length ≤ 1099511627776) (hV : Vs q w) :
    Calls Tryz.prog 57 #[.string (S l), .int .i64 16, .int .i64 64] w fun e w' => ∃ (x : Int) (ev : Value), e = .returned (.tuple #[.int .u64 x, ev]) ∧ Below w.heap.size w w' ∧ ((∃ n : Nat, puW 18446744073709551615 l = some n ∧ x = n ∧ ev = .nilIface) ∨ (puW 18446744073709551615 l = none ∧ ∃ t p, ev = .iface t p)) := by
  obtain ⟨ev1, c1, i1⟩ := hV.e1
  obtain ⟨ev2, c2, i2⟩ := hV.e2
  have b1 : (1 : Nat) < w.heap.size := World.block_lt_of_cell? w _ c1
  have b2 : (2 : Nat) < w.heap.size := World.block_lt_of_cell? w _ c2
  have hz : (S l).size = l.length := S_size l
  have KS := Hid.mk' (fun (V : World) (hb : Below w.heap.size w V) => Tryz.strconv_toError_syntax ⟨#[80, 97, 114, 115, 101, 85, 105, 110, 116]⟩ (S l) 16 64 ev1 V (by omega) ((hb.cell (p := ⟨1, 0, none⟩) b1).trans c1) i1)
  have KR := Hid.mk' (fun (V : World) (hb : Below w.heap.size w V) => Tryz.strconv_toError_range ⟨#[80, 97, 114, 115, 101, 85, 105, 110, 116]⟩ (S l) 16 64 ev2 V (by omega) ((hb.cell (p := ⟨2, 0, none⟩) b2).trans c2) i2)
  have K : Hid (Calls Tryz.prog 79 #[.string (S l), .int .i64 16, .int .i64 64] w fun e w' => ∃ (x : Int) (ev : Value), e = .returned (.tuple #[.int .u64 x, ev]) ∧ Below w.heap.size w w' ∧ ((∃ n : Nat, puW 18446744073709551615 l = some n ∧ x = n ∧ ev = .nilIface) ∨ (puW 18446744073709551615 l = none ∧ (ev = .iface 122 (.int .i64 2) ∨ ev = .iface 122 (.int .i64 1))))) := by
    show Calls _ _ _ _ _
    by_cases hne : l = []
    · subst hne
      refine (Tryz.internal_strconv_ParseUint_empty 16 64 w).mono ?_
      rintro e w' ⟨rfl, rfl⟩
      exact ⟨0, _, rfl, Below.refl _ _, .inr ⟨rfl, .inl rfl⟩⟩
    · refine (pui64_c l w hne hl).mono ?_
      rintro e w' ⟨x, ev, rfl, hb, hx⟩
      refine ⟨x, ev, rfl, hb, ?_⟩
      rw [show puW 18446744073709551615 l = pu 18446744073709551615 0 l by simp [puW, hne]]
      exact hx
  clear hV c1 c2 i1 i2
  go_enter Tryz.func57, Tryz.ntmps57
  go_wp2_with fail
  refine K.out.mono ?_
  rintro e w1 ⟨x, ev, rfl, hb, hx⟩
  have HB := Hid.mk' hb
  clear hb K
  rcases hx with ⟨n, h1, rfl, rfl⟩ | ⟨h1, rfl | rfl⟩
  · have H1 := Hid.mk' h1
    clear h1
    go_wp2
    go_ret2
    exact ⟨_, _, rfl, HB.out, .inl ⟨n, H1.out, rfl, rfl⟩⟩
  · have H1 := Hid.mk' h1
    clear h1
    go_wp2_with fail
    refine (KS.out _ HB.out).mono ?_
    rintro e w2 ⟨N, rfl, -, -, hb⟩
    have HB2 := Hid.mk' (HB.out.trans (hb.mono HB.out.size))
    clear hb
    go_wp2
    go_ret2
    exact ⟨_, _, rfl, HB2.out, .inr ⟨H1.out, _, _, rfl⟩⟩
  · have H1 := Hid.mk' h1
    clear h1
    go_wp2_with fail
    refine (KR.out _ HB.out).mono ?_
    rintro e w2 ⟨N, rfl, -, -, hb⟩
    have HB2 := Hid.mk' (HB.out.trans (hb.mono HB.out.size))
    clear hb
    go_wp2
    go_ret2
    exact ⟨_, _, rfl, HB2.out, .inr ⟨H1.out, _, _, rfl⟩⟩
set_option maxHeartbeats 4000000 in
theorem bits32_c (q : Nat) (ws : List Wd) (bad : Bool) (w : World) (h : Tw w q ws bad) (hl : ∀ x ∈ ws, x.length ≤ 1099511627776) (hV : Vs q w) :
    Calls Tryz.prog 36 #[.pointer (some ⟨q, 0, none⟩), .int .i64 8] w fun e w' => ∃ x : Int, e = .returned (.int .u64 x) ∧ Tw w' q ws.tail ((bad || ws.isEmpty) || !okB 8 4294967295 (ws.headD [])) ∧ w.grownBy w' (some q) ∧ (okB 8 4294967295 (ws.headD []) = true → ∃ u : Nat, x = u ∧ u ≤ 4294967295 ∧ bitsT 8 u = ws.headD []) := by
  have KN := Hid.mk' (next_g q ws bad w h)
  have hhl : (ws.headD []).length ≤ 1099511627776 := by
    cases ws with
    | nil => simp
    | cons x r => exact hl x (by simp)
  have HV := Hid.mk' hV
  have hq := h.lt
  clear h hV hl
  generalize ws.headD [] = s at *
  generalize ws.tail = r at *
  generalize (bad || ws.isEmpty) = z at *
  have KT := Hid.mk' (fun w => Tryz.strings_TrimPrefix (S s) ⟨#[48, 120]⟩ w)
  rw [S_toList, show (⟨#[48, 120]⟩ : ByteArray).data.toList = [48, 120] from rfl] at KT
  have htl : (Lib.trimPrefix s [48, 120]).length ≤ 1099511627776 := by
    unfold Lib.trimPrefix; split
    · simp; omega
    · exact hhl
  obtain ⟨t, ht⟩ : ∃ t, Lib.trimPrefix s [48, 120] = t := ⟨_, rfl⟩
  rw [ht] at KT htl
  rw [show (⟨t.toArray⟩ : ByteArray) = S t from rfl] at KT
  have HT := Hid.mk' ht
  clear ht
  go_enter Tryz.func36, Tryz.ntmps36
  go_wp2_with fail
  refine KN.out.mono ?_
  rintro e w1 ⟨rfl, t1, b1⟩
  have T1 := Hid.mk' t1
  have B1 := Hid.mk' b1
  have V1 := Hid.mk' (HV.out.keep (grown_below b1 hq))
  have hs1 := b1.size
  have hq1 := t1.lt
  clear t1 b1 KN HV
  go_wp2_with fail
  refine (KT.out _).mono ?_
  rintro e w1' ⟨rfl, rfl⟩
  clear KT
  go_wp2_with fail
  refine (pup32_c q t w1' htl V1.out).mono ?_
  rintro e w2 ⟨x, ev, rfl, b2, hx⟩
  have T2 := Hid.mk' (T1.out.keep b2)
  have B2 := Hid.mk' (grown_trans B1.out (below_gr b2))
  have V2 := Hid.mk' (V1.out.keep (b2.mono (by omega)))
  have hq2 := T2.out.lt
  clear b2 T1 B1 V1
  rcases hx with ⟨u, hx, rfl, rfl⟩ | ⟨hx, t', p, rfl⟩
  · have hum : u ≤ 4294967295 := puW_le hx
    have hpw : (16 : Nat) ^ 8 = 4294967295 + 1 := by decide
    have KB := Hid.mk' (tbits_c q u 8 w2 (by decide) (by decide) (by rw [hpw]; omega) V2.out)
    have hok : okB 8 4294967295 s = decide (bitsT 8 u = s) := by simp [okB, HT.out, hx]
    have HOK := Hid.mk' hok
    have HM := Hid.mk' hum
    clear hx hok hum
    rw [show ((8 : Nat) : Int) = 8 from rfl] at KB
    go_wp2_with fail
    refine KB.out.mono ?_
    rintro e w3 ⟨rfl, b3⟩
    have T3 := Hid.mk' (T2.out.keep b3)
    have B3 := Hid.mk' (grown_trans B2.out (below_gr b3))
    clear b3 T2 B2 V2 KB
    by_cases he : bitsT 8 u = s
    · have hok : okB 8 4294967295 s = true := by rw [HOK.out]; simp [he]
      have HK := Hid.mk' hok
      have KA := Hid.mk' (ask_c q r z true w3 T3.out)
      have HE := Hid.mk' he
      have hse : ((S (bitsT 8 u)).toList == (S s).toList) = true := by rw [S_beq]; simp [HE.out]
      clear hok he
      go_wp2_with fail
      refine KA.out.mono ?_
      rintro e w9 ⟨rfl, t9, b9⟩
      have T9 := Hid.mk' t9
      have B9 := Hid.mk' (grown_trans B3.out b9)
      clear t9 b9 KA
      go_wp2
      go_ret
      exact ⟨u, rfl, by rw [HK.out]; exact T9.out, B9.out, fun _ => ⟨u, rfl, HM.out, HE.out⟩⟩
    · have hok : okB 8 4294967295 s = false := by rw [HOK.out]; simp [he]
      have HK := Hid.mk' hok
      have KA := Hid.mk' (ask_c q r z false w3 T3.out)
      have hse : ((S (bitsT 8 u)).toList == (S s).toList) = false := by rw [S_beq]; simp [he]
      clear hok he
      go_wp2_with fail
      refine KA.out.mono ?_
      rintro e w9 ⟨rfl, t9, b9⟩
      have T9 := Hid.mk' t9
      have B9 := Hid.mk' (grown_trans B3.out b9)
      clear t9 b9 KA
      go_wp2
      go_ret
      exact ⟨u, rfl, by rw [HK.out]; exact T9.out, B9.out, fun h => by rw [HK.out] at h; cases h⟩
  · have hok : okB 8 4294967295 s = false := by simp [okB, HT.out, hx]
    have KA := Hid.mk' (ask_c q r z false w2 T2.out)
    have HOK := Hid.mk' hok
    clear hx hok
    go_wp2_with fail
    refine KA.out.mono ?_
    rintro e w9 ⟨rfl, t9, b9⟩
    have T9 := Hid.mk' t9
    have B9 := Hid.mk' (grown_trans B2.out b9)
    clear t9 b9 KA
    go_wp2
    go_ret
    exact ⟨x, rfl, by rw [HOK.out]; exact T9.out, B9.out, fun h => by rw [HOK.out] at h; cases h⟩
set_option maxHeartbeats 4000000 in
theorem bits64_c (q : Nat) (ws : List Wd) (bad : Bool) (w : World) (h : Tw w q ws bad) (hl : ∀ x ∈ ws, x.length ≤ 1099511627776) (hV : Vs q w) :
    Calls Tryz.prog 36 #[.pointer (some ⟨q, 0, none⟩), .int .i64 16] w fun e w' => ∃ x : Int, e = .returned (.int .u64 x) ∧ Tw w' q ws.tail ((bad || ws.isEmpty) || !okB 16 18446744073709551615 (ws.headD [])) ∧ w.grownBy w' (some q) ∧ (okB 16 18446744073709551615 (ws.headD []) = true → ∃ u : Nat, x = u ∧ u ≤ 18446744073709551615 ∧ bitsT 16 u = ws.headD []) := by
  have KN := Hid.mk' (next_g q ws bad w h)
  have hhl : (ws.headD []).length ≤ 1099511627776 := by
    cases ws with
    | nil => simp
    | cons x r => exact hl x (by simp)
  have HV := Hid.mk' hV
  have hq := h.lt
  clear h hV hl
  generalize ws.headD [] = s at *
  generalize ws.tail = r at *
  generalize (bad || ws.isEmpty) = z at *
  have KT := Hid.mk' (fun w => Tryz.strings_TrimPrefix (S s) ⟨#[48, 120]⟩ w)
  rw [S_toList, show (⟨#[48, 120]⟩ : ByteArray).data.toList = [48, 120] from rfl] at KT
  have htl : (Lib.trimPrefix s [48, 120]).length ≤ 1099511627776 := by
    unfold Lib.trimPrefix; split
    · simp; omega
    · exact hhl
  obtain ⟨t, ht⟩ : ∃ t, Lib.trimPrefix s [48, 120] = t := ⟨_, rfl⟩
  rw [ht] at KT htl
  rw [show (⟨t.toArray⟩ : ByteArray) = S t from rfl] at KT
  have HT := Hid.mk' ht
  clear ht
  go_enter Tryz.func36, Tryz.ntmps36
  go_wp2_with fail
  refine KN.out.mono ?_
  rintro e w1 ⟨rfl, t1, b1⟩
  have T1 := Hid.mk' t1
  have B1 := Hid.mk' b1
  have V1 := Hid.mk' (HV.out.keep (grown_below b1 hq))
  have hs1 := b1.size
  have hq1 := t1.lt
  clear t1 b1 KN HV
  go_wp2_with fail
  refine (KT.out _).mono ?_
  rintro e w1' ⟨rfl, rfl⟩
  clear KT
  go_wp2_with fail
  refine (pup64_c q t w1' htl V1.out).mono ?_
  rintro e w2 ⟨x, ev, rfl, b2, hx⟩
  have T2 := Hid.mk' (T1.out.keep b2)
  have B2 := Hid.mk' (grown_trans B1.out (below_gr b2))
  have V2 := Hid.mk' (V1.out.keep (b2.mono (by omega)))
  have hq2 := T2.out.lt
  clear b2 T1 B1 V1
  rcases hx with ⟨u, hx, rfl, rfl⟩ | ⟨hx, t', p, rfl⟩
  · have hum : u ≤ 18446744073709551615 := puW_le hx
    have hpw : (16 : Nat) ^ 16 = 18446744073709551615 + 1 := by decide
    have KB := Hid.mk' (tbits_c q u 16 w2 (by decide) (by decide) (by rw [hpw]; omega) V2.out)
    have hok : okB 16 18446744073709551615 s = decide (bitsT 16 u = s) := by simp [okB, HT.out, hx]
    have HOK := Hid.mk' hok
    have HM := Hid.mk' hum
    clear hx hok hum
    rw [show ((16 : Nat) : Int) = 16 from rfl] at KB
    go_wp2_with fail
    refine KB.out.mono ?_
    rintro e w3 ⟨rfl, b3⟩
    have T3 := Hid.mk' (T2.out.keep b3)
    have B3 := Hid.mk' (grown_trans B2.out (below_gr b3))
    clear b3 T2 B2 V2 KB
    by_cases he : bitsT 16 u = s
    · have hok : okB 16 18446744073709551615 s = true := by rw [HOK.out]; simp [he]
      have HK := Hid.mk' hok
      have KA := Hid.mk' (ask_c q r z true w3 T3.out)
      have HE := Hid.mk' he
      have hse : ((S (bitsT 16 u)).toList == (S s).toList) = true := by rw [S_beq]; simp [HE.out]
      clear hok he
      go_wp2_with fail
      refine KA.out.mono ?_
      rintro e w9 ⟨rfl, t9, b9⟩
      have T9 := Hid.mk' t9
      have B9 := Hid.mk' (grown_trans B3.out b9)
      clear t9 b9 KA
      go_wp2
      go_ret
      exact ⟨u, rfl, by rw [HK.out]; exact T9.out, B9.out, fun _ => ⟨u, rfl, HM.out, HE.out⟩⟩
    · have hok : okB 16 18446744073709551615 s = false := by rw [HOK.out]; simp [he]
      have HK := Hid.mk' hok
      have KA := Hid.mk' (ask_c q r z false w3 T3.out)
      have hse : ((S (bitsT 16 u)).toList == (S s).toList) = false := by rw [S_beq]; simp [he]
      clear hok he
      go_wp2_with fail
      refine KA.out.mono ?_
      rintro e w9 ⟨rfl, t9, b9⟩
      have T9 := Hid.mk' t9
      have B9 := Hid.mk' (grown_trans B3.out b9)
      clear t9 b9 KA
      go_wp2
      go_ret
      exact ⟨u, rfl, by rw [HK.out]; exact T9.out, B9.out, fun h => by rw [HK.out] at h; cases h⟩
  · have hok : okB 16 18446744073709551615 s = false := by simp [okB, HT.out, hx]
    have KA := Hid.mk' (ask_c q r z false w2 T2.out)
    have HOK := Hid.mk' hok
    clear hx hok
    go_wp2_with fail
    refine KA.out.mono ?_
    rintro e w9 ⟨rfl, t9, b9⟩
    have T9 := Hid.mk' t9
    have B9 := Hid.mk' (grown_trans B2.out b9)
    clear t9 b9 KA
    go_wp2
    go_ret
    exact ⟨x, rfl, by rw [HOK.out]; exact T9.out, B9.out, fun h => by rw [HOK.out] at h; cases h⟩
end Go.Proofs.YtngepdhhdbhglaaGreatDoor
