import Derived.Test.YtnbplhlpcojlhaaDrawN
import Derived.Test.YtnbplhlpcojlhaaLebM
import Derived.Test.YtnbplhlpcojlhaaGetW
import Derived.Test.YtnbplhlpcojlhaaLawPut
import Derived.Test.YtnbplhlpcojlhaaLawFU
import Derived.Deep.DeepCutAuto
namespace Go.Proofs.Ytnbplhlpcojlhaa
open Go.RowKit

theorem lebU_all (x : Int) (h0 : 0 ≤ x) (h1 : x ≤ 18446744073709551615) : AllB (lebU 9 x) := allB_of (lebU_bytes 9 x h0 (fitU_start h1))
theorem lebS_all (y : Int) : AllB (lebS 9 y) := allB_of (lebS_bytes 9 y)

/-- The low reading, as the law asks it. -/
theorem low_any (L : List Int) (x : Int) (hL : L = lebU 9 x) (a : Option Addr) (c : Nat) (w : World) (h0 : 0 ≤ x) (h1 : x ≤ 18446744073709551615) (ha : Has w a L) :
    ∃ r1 r2 r3 : Int, ((x < 4294967296 ∧ r1 = 0 ∧ r2 = x) ∨ (4294967296 ≤ x ∧ (r1 = 2 ∨ r1 = 3))) ∧
    Calls Try.prog 22 #[.slice a L.length c, .int .i64 0, .int .i64 32] w fun e w' => e = .returned (.agg #[.int .i64 r1, .int .u64 r2, .int .i64 r3]) ∧ Below w.heap.size w w' := by
  subst hL
  have hl := lebU_len 9 x
  refine ⟨(getA false (lebU 9 x) 0 32).1, (getA false (lebU 9 x) 0 32).2.1, (getA false (lebU 9 x) 0 32).2.2, ?_, implGetU_any a c (lebU 9 x) 0 32 w (by omega) ha (lebU_all x h0 h1)⟩
  have hc := leb_c x h0 h1
  by_cases h : x < 4294967296
  · rw [hc.1 h]; exact .inl ⟨h, rfl, rfl⟩
  · exact .inr ⟨by omega, hc.2 (by omega)⟩
theorem half_any (M : List Int) (y : Int) (hM : M = lebS 9 y) (a : Option Addr) (c : Nat) (w : World) (h0 : -9223372036854775808 ≤ y) (h1 : y ≤ 9223372036854775807) (ha : Has w a M) :
    ∃ r1 r2 r3 : Int, (((-2147483648 ≤ y ∧ y < 2147483648) ∧ r1 = 0 ∧ r2 = IntKind.u64.wrap y) ∨ (¬ (-2147483648 ≤ y ∧ y < 2147483648) ∧ (r1 = 2 ∨ r1 = 3))) ∧
    Calls Try.prog 25 #[.slice a M.length c, .int .i64 0, .int .i64 32] w fun e w' => e = .returned (.agg #[.int .i64 r1, .int .u64 r2, .int .i64 r3]) ∧ Below w.heap.size w w' := by
  subst hM
  have hl := lebS_len 9 y
  refine ⟨(getA true (lebS 9 y) 0 32).1, (getA true (lebS 9 y) 0 32).2.1, (getA true (lebS 9 y) 0 32).2.2, ?_, implGetS_any a c (lebS 9 y) 0 32 w (by omega) ha (lebS_all y)⟩
  have hc := leb_d y h0 h1
  by_cases h : -2147483648 ≤ y ∧ y < 2147483648
  · rw [hc.1 h, IntKind.wrap_u64]; exact .inl ⟨h, rfl, rfl⟩
  · exact .inr ⟨h, hc.2 h⟩
theorem wrap_back (y : Int) (h0 : -9223372036854775808 ≤ y) (h1 : y ≤ 9223372036854775807) : wrap64 (IntKind.u64.wrap y) = y := by
  rw [IntKind.wrap_u64]; unfold wrap64; omega
theorem own_has0 {w : World} {B g cap : Nat} {L : List Int} (h : w.ownsRow B 5 1 (.slice (some ⟨g, 0, none⟩) L.length cap) L.length (U L)) : ∀ i, i < L.length → w.cell? ⟨g, 0 + i, none⟩ = some (.int .u8 (L.getD i 0)) := by
  intro i hi
  rw [Nat.zero_add, h.cellAt i (by omega)]
  simp [List.getD, hi]
theorem one_new {w : World} {g : Nat} (hg : g = w.heap.size) (v : Value) (e : TypeId) : ∀ j u, [v][j]? = some u → (w.alloc (.cells #[v] e)).cell? ((⟨g, 0, none⟩ : Addr).add j) = some u := by
  subst hg; exact cell_one_new _ _ _
theorem cells_later {w1 w2 : World} {b o B : Nat} {M : List Int} (h : ∀ i, i < M.length → w1.cell? ⟨b, o + i, none⟩ = some (.int .u8 (M.getD i 0))) (hb : Below B w1 w2) (hlt : b < B) : ∀ i, i < M.length → w2.cell? ⟨b, o + i, none⟩ = some (.int .u8 (M.getD i 0)) :=
  fun i hi => (hb.cell (p := ⟨b, o + i, none⟩) hlt).trans (h i hi)

set_option maxHeartbeats 4000000 in
set_option maxRecDepth 100000 in
theorem lawFnLeb (a0 : Option Addr) (cap0 : Nat) (xs : List Int) (a1 : Option Addr) (cap1 : Nat) (ys : List Int) (w : World) (hm : xs.length ≤ maxLen) (ha : Has w a0 xs) (hB : AllB xs) (hm1 : ys.length ≤ maxLen) (ha1 : Has w a1 ys) (hB1 : AllB ys) :
    Calls Try.prog 9 #[.slice a0 xs.length cap0, .slice a1 ys.length cap1] w fun e w' => e = .returned (.bool true) ∧ Below w.heap.size w w' := by
  unfold maxLen at hm hm1
  obtain ⟨i0, hi, hz0, hz1, hz2⟩ := info_parts Try.info5
  by_cases hbig : 1048576 < xs.length
  · have hbi : (1048576 : Int) < (xs.length : Int) := by omega
    clear ha hB ha1 hB1
    go_enter Try.func9, Try.ntmps9
    go_wp2
    go_ret
    exact ⟨rfl, Below.refl _ _⟩
  by_cases hbig1 : 1048576 < ys.length
  · have hbi : ¬ (1048576 : Int) < (xs.length : Int) := by omega
    have hbi1 : (1048576 : Int) < (ys.length : Int) := by omega
    clear ha hB ha1 hB1
    go_enter Try.func9, Try.ntmps9
    go_wp2
    go_ret
    exact ⟨rfl, Below.refl _ _⟩
  have hbi : ¬ (1048576 : Int) < (xs.length : Int) := by omega
  have hbi1 : ¬ (1048576 : Int) < (ys.length : Int) := by omega
  have CD := Hid.mk' (drawPutU_any a0 cap0 xs w (by omega) hB ha)
  have HA1 := Hid.mk' ha1
  have HB1 := Hid.mk' hB1
  clear ha hB ha1 hB1
  go_enter Try.func9, Try.ntmps9
  go_wp2_with fail
  refine CD.out.mono ?_
  rintro e w1 ⟨x, rfl, hx0, hx1, hb1⟩
  clear CD
  go_wp2_with fail
  refine (drawPutS_any a1 cap1 ys w1 (by omega) HB1.out (HA1.out.below hb1)).mono ?_
  rintro e w2 ⟨y, rfl, hy0, hy1, hb2⟩
  have hb2 := hb1.trans (hb2.mono hb1.size)
  clear HA1 HB1 hb1
  obtain ⟨L, hL⟩ : ∃ L, L = lebU 9 x := ⟨_, rfl⟩
  obtain ⟨M, hM⟩ : ∃ M, M = lebS 9 y := ⟨_, rfl⟩
  have hlL := lebU_len 9 x
  have hlM := lebS_len 9 y
  have CU := implPutU_any x w2 hx0 hx1
  have CS := fun w => implPutS_any y w hy0 hy1
  rw [← hL] at hlL CU
  rw [← hM] at hlM CS
  obtain ⟨hlL1, hlL2⟩ := hlL
  obtain ⟨hlM1, hlM2⟩ := hlM
  have HL := Hid.mk' hL
  have HM := Hid.mk' hM
  have HCU := Hid.mk' CU
  have HCS := Hid.mk' CS
  clear hL hM CU CS
  go_wp2_with fail
  refine HCU.out.mono ?_
  rintro e w3 ⟨vb, rfl, hob, hb3⟩
  obtain ⟨gb, cb, rfl, hgb, hgb'⟩ := own_split hob hlL1
  clear HCU
  go_wp2_with fail
  refine (HCS.out _).mono ?_
  rintro e w4 ⟨vc, rfl, hoc, hb4⟩
  obtain ⟨gc, cc, rfl, hgc, hgc'⟩ := own_split hoc hlM1
  clear HCS
  have HBB := Hid.mk' (cells_later (own_has0 hob) hb4 hgb')
  have HCC := Hid.mk' (own_has0 hoc)
  have hz4 := hb4.size
  have hW4 := (hb2.trans (hb3.mono hb2.size)).trans (hb4.mono (Nat.le_trans hb2.size hb3.size))
  clear hob hoc hb3 hb4 hb2
  have hgb4 : gb < w4.heap.size := by omega
  have hnew1 := news_later ((Below.refl w4.heap.size w4).alloc (Nat.le_refl _) (Obj.cells #[] 5)) HBB.out
  have tok1 : True := trivial
  have tok2 : True := trivial
  have hLi : ((L.length : Int) == 0) = false := beq_eq_false_iff_ne.2 (by omega)
  have hMi : ((M.length : Int) == 0) = false := beq_eq_false_iff_ne.2 (by omega)
  go_wp2_with (first | (at_builtin; have _t := tok1; refine wpList_append_own _ rfl _ _ 23 rfl w4.heap.size 5 i0 (.int .u8 0) 1 1 Try.underlying23 hi hz0 hz1 hz2 rfl (by decide) _ _ _ rfl (World.ownsRow_lit w4 #[] 0 (Nat.le_refl _) (Nat.zero_le _) rfl) ⟨gb, 0, none⟩ L.length cb (U L) rfl (by simp) hnew1 (ints_oneCell _ _) (by unfold maxLen; omega) (by omega) (by simp) ?_; intro v5 w5 ho5 hg5 hnn; simp only [Nat.zero_add, List.nil_append] at ho5; have hb5 := below_one hg5; have hz5 := hb5.size; clear tok1) | (at_builtin; have _t := tok2; refine wpList_append_own _ rfl _ _ 23 rfl w4.heap.size 5 i0 (.int .u8 0) 1 1 Try.underlying23 hi hz0 hz1 hz2 rfl (by decide) _ _ _ rfl (ho5.alloc _) ⟨w5.heap.size, 0, none⟩ 1 1 [.int .u8 7] rfl rfl (cell_one_new _ _ _) (oneB _) (by unfold maxLen; omega) (by omega) (by simp; omega) ?_; intro v6 w6 ho6 hg6 hnn6; clear tok2))
  clear hnew1
  have ho6' : w6.ownsRow w4.heap.size 5 1 v6 (L ++ [7]).length (U (L ++ [7])) := by rw [List.length_append]; simpa using ho6
  have hb6 : Below w4.heap.size w4 w6 := below_push ho5 hb5 hz5 hg6
  obtain ⟨g6, c6, rfl, hg6', hg6''⟩ := own_split ho6' (by simp)
  have C7 := implGetU_any (some ⟨g6, 0, none⟩) c6 (L ++ [7]) 0 64 w6 (by simp; omega) (own_has ho6') (allB_append (by rw [HL.out]; exact lebU_all x hx0 hx1) (allB_of (by simp)))
  rw [show getA false (L ++ [7]) 0 64 = (0, x, (L.length : Int)) by rw [HL.out]; exact leb_a x hx0 hx1] at C7
  refine C7.mono ?_
  rintro e w7 ⟨rfl, hb7⟩
  simp only [RV]
  have hb7 := hb6.trans (hb7.mono hb6.size)
  have hz7 := hb7.size
  have HBB := Hid.mk' (cells_later HBB.out hb7 hgb4)
  have HCC := Hid.mk' (cells_later HCC.out hb7 hgc')
  have hW7 := hW4.trans (hb7.mono hW4.size)
  have hgb7 : gb < w7.heap.size := by omega
  have hgc7 : gc < w7.heap.size := by omega
  clear C7 ho6 ho6' hb6 hg6 hnn6 ho5 hb5 hg5 hnn hb7 hW4 hg6' hg6'' hz5 hgb4 hgc' hgb' hgb hgc hz4
  have eS : ∀ (W : World) o, (W.alloc o).heap.size = W.heap.size + 1 := fun W o => by simp
  have ES := Hid.mk' eS
  have hlit := World.ownsRow_lit (w7.alloc (Obj.cells #[Value.int .i64 0, Value.int .u64 x, Value.int .i64 (L.length : Int)] 34)) #[Value.int .u8 9] 1 (base := w7.heap.size + 1) (e := 5) (size := 1) (by rw [eS]; omega) (by decide) rfl
  rw [eS] at hlit
  clear eS
  have hnew3 : ∀ j u, (U M)[j]? = some u → ((w7.alloc (Obj.cells #[Value.int .i64 0, Value.int .u64 x, Value.int .i64 (L.length : Int)] 34)).alloc (Obj.cells #[Value.int .u8 9] 5)).cell? ((⟨gc, 0, none⟩ : Addr).add j) = some u := news_at (cells_later (cells_later HCC.out ((Below.refl w7.heap.size w7).alloc (Nat.le_refl _) _) hgc7) ((Below.refl w7.heap.size _).alloc (by simp) _) hgc7)
  have tok3 : True := trivial
  go_wp2_with (first | (at_builtin; have _t := tok3; refine wpList_append_own _ rfl _ _ 23 rfl (w7.heap.size + 1) 5 i0 (.int .u8 0) 1 1 Try.underlying23 hi hz0 hz1 hz2 rfl (by decide) _ _ _ rfl hlit ⟨gc, 0, none⟩ M.length cc (U M) rfl (by simp) hnew3 (ints_oneCell _ _) (by unfold maxLen; omega) (by omega) (by simp) ?_; intro v8 w8 ho8 hg8 hnn8; clear tok3))
  clear hnew3
  have ho8' : w8.ownsRow (w7.heap.size + 1) 5 1 v8 (9 :: M).length (U (9 :: M)) := by
    have h := ho8
    rw [Nat.add_comm 1 M.length] at h
    exact h
  have hb8 : Below (w7.heap.size + 1) (w7.alloc (Obj.cells #[Value.int .i64 0, Value.int .u64 x, Value.int .i64 (L.length : Int)] 34)) w8 := ((Below.refl _ _).alloc (by rw [ES.out]; omega) _).grown hg8 (by simp) (fun q hq => by cases hq; exact Nat.le_refl _)
  obtain ⟨g8, c8, rfl, hg8', hg8''⟩ := own_split ho8' (by simp)
  have C9 := implGetS_any (some ⟨g8, 0, none⟩) c8 (9 :: M) 1 64 w8 (by simp; omega) (own_has ho8') (allB_append (xs := [9]) (allB_of (by simp)) (by rw [HM.out]; exact lebS_all y))
  rw [show getA true (9 :: M) 1 64 = (0, IntKind.u64.wrap y, (M.length : Int) + 1) by rw [HM.out, IntKind.wrap_u64]; exact leb_b y hy0 hy1] at C9
  refine C9.mono ?_
  rintro e w9 ⟨rfl, hb9⟩
  simp only [RV]
  have hz8 : w7.heap.size + 1 ≤ w8.heap.size := by have := hb8.size; rw [ES.out] at this; exact this
  have hb9' := hb8.trans (hb9.mono hz8)
  have hz9 := hb9.size
  have q0 : ∀ o, (w9.alloc o).cell? ⟨w7.heap.size, 0, none⟩ = some (.int .i64 0) := fun o => (World.cell?_alloc_past _ _ _ (by show w7.heap.size < _; omega)).trans ((hb9'.cell (p := ⟨w7.heap.size, 0, none⟩) (Nat.lt_succ_self _)).trans (cell_new rfl rfl))
  have q1 : ∀ o, (w9.alloc o).cell? ⟨w7.heap.size, 1, none⟩ = some (.int .u64 x) := fun o => (World.cell?_alloc_past _ _ _ (by show w7.heap.size < _; omega)).trans ((hb9'.cell (p := ⟨w7.heap.size, 1, none⟩) (Nat.lt_succ_self _)).trans (cell_new rfl rfl))
  have q2 : ∀ o, (w9.alloc o).cell? ⟨w7.heap.size, 2, none⟩ = some (.int .i64 (L.length : Int)) := fun o => (World.cell?_alloc_past _ _ _ (by show w7.heap.size < _; omega)).trans ((hb9'.cell (p := ⟨w7.heap.size, 2, none⟩) (Nat.lt_succ_self _)).trans (cell_new rfl rfl))
  have hbF : Below w7.heap.size w7 w9 := ((Below.refl _ _).alloc (Nat.le_refl _) _).trans (hb9'.mono (Nat.le_succ _))
  have HBB := Hid.mk' (cells_later HBB.out hbF hgb7)
  have HCC := Hid.mk' (cells_later HCC.out hbF hgc7)
  have hW9 := hW7.trans (hbF.mono hW7.size)
  have hgb9 : gb < w9.heap.size := by omega
  have hgc9 : gc < w9.heap.size := by omega
  clear C9 ho8 ho8' hb8 hg8 hnn8 hlit hb9 hb9' hbF hW7 hg8' hg8'' hgb7 hgc7
  go_wp2_with fail
  obtain ⟨r1, r2, r3, hr, C10⟩ := low_any L x HL.out (some ⟨gb, 0, none⟩) cb (w9.alloc (Obj.cells #[Value.int .i64 0, Value.int .u64 (IntKind.u64.wrap y), Value.int .i64 ((M.length : Int) + 1)] 34)) hx0 hx1 (.inr ⟨gb, 0, rfl, cells_later HBB.out ((Below.refl w9.heap.size w9).alloc (Nat.le_refl _) _) hgb9⟩)
  refine C10.mono ?_
  rintro e w10 ⟨rfl, hb10⟩
  have hbG : Below w9.heap.size w9 w10 := ((Below.refl _ _).alloc (Nat.le_refl _) _).trans (hb10.mono (by simp))
  have HBB := Hid.mk' (cells_later HBB.out hbG hgb9)
  have HCC := Hid.mk' (cells_later HCC.out hbG hgc9)
  have hW10 := hW9.trans (hbG.mono hW9.size)
  have hz10 := hbG.size
  have hgb10 : gb < w10.heap.size := by omega
  have hgc10 : gc < w10.heap.size := by omega
  clear C10 hb10 hbG q0 q1 q2 hW9 hgb9 hgc9
  go_upto_region 14 with fail
  go_cut [83] from 15 (fun v wc => v = .bool false ∧ Below w.heap.size w wc ∧ Below w10.heap.size w10 wc)
  case first =>
    rcases hr with ⟨hx, rfl, rfl⟩ | ⟨hx, hr⟩
    · have hxb : decide (r2 < 4294967296) = true := decide_eq_true hx
      go_wp2
      go_meet
      case rel => exact ⟨rfl, hW10.alloc hW10.size _, (Below.refl _ _).alloc (Nat.le_refl _) _⟩
    · have hxb : decide (x < 4294967296) = false := decide_eq_false (by omega)
      have hrb : (r1 == 0) = false := beq_eq_false_iff_ne.2 (by omega)
      go_wp2
      go_meet
      case rel => exact ⟨rfl, hW10.alloc hW10.size _, (Below.refl _ _).alloc (Nat.le_refl _) _⟩
  case rest =>
  obtain ⟨rfl, hW11, hb11⟩ := hcut
  have HBB := Hid.mk' (cells_later HBB.out hb11 hgb10)
  have HCC := Hid.mk' (cells_later HCC.out hb11 hgc10)
  have hz11 := hb11.size
  clear hb11 hr hW10
  rename World => w11
  go_wp2_with fail
  obtain ⟨s1, s2, s3, hs, C12⟩ := half_any M y HM.out (some ⟨gc, 0, none⟩) cc w11 hy0 hy1 (.inr ⟨gc, 0, rfl, HCC.out⟩)
  refine C12.mono ?_
  rintro e w12 ⟨rfl, hb12⟩
  have hgb11 : gb < w11.heap.size := by omega
  have HBB := Hid.mk' (cells_later HBB.out hb12 hgb11)
  have hW12 := hW11.trans (hb12.mono hW11.size)
  have hz12 := hb12.size
  have hgb12 : gb < w12.heap.size := by omega
  clear C12 hb12 hW11 HCC
  have hwb := wrap_back y hy0 hy1
  go_upto_region 17 with fail
  go_cut [107] from 15 (fun v wc => v = .bool false ∧ Below w.heap.size w wc ∧ Below w12.heap.size w12 wc)
  case first =>
    rcases hs with ⟨⟨hya, hyb⟩, rfl, rfl⟩ | ⟨hy, hs⟩
    · have hyb1 : decide (-2147483648 ≤ y) = true := decide_eq_true hya
      have hyb2 : decide (y < 2147483648) = true := decide_eq_true hyb
      go_wp2
      go_meet
      case rel => exact ⟨rfl, hW12.alloc hW12.size _, (Below.refl _ _).alloc (Nat.le_refl _) _⟩
    · have hsb : (s1 == 0) = false := beq_eq_false_iff_ne.2 (by omega)
      by_cases hya : -2147483648 ≤ y
      · have hyb1 : decide (-2147483648 ≤ y) = true := decide_eq_true hya
        have hyb2 : decide (y < 2147483648) = false := decide_eq_false (by omega)
        go_wp2
        go_meet
        case rel => exact ⟨rfl, hW12.alloc hW12.size _, (Below.refl _ _).alloc (Nat.le_refl _) _⟩
      · have hyb1 : decide (-2147483648 ≤ y) = false := decide_eq_false hya
        go_wp2
        go_meet
        case rel => exact ⟨rfl, hW12.alloc hW12.size _, (Below.refl _ _).alloc (Nat.le_refl _) _⟩
  case rest =>
  obtain ⟨rfl, hW13, hb13⟩ := hcut
  have HBB := Hid.mk' (cells_later HBB.out hb13 hgb12)
  have hz13 := hb13.size
  clear hb13 hs hW12 hwb
  rename World => w13
  by_cases hten : L.length < 10
  · have hteni : (L.length : Int) < 10 := by omega
    have hgb13 : gb < w13.heap.size := by omega
    have hnew4 := news_later ((Below.refl w13.heap.size w13).alloc (Nat.le_refl _) (Obj.cells #[] 5)) HBB.out
    have tok1 : True := trivial
    go_upto_region 21 with (at_builtin; have _t := tok1; refine wpList_append_own _ rfl _ _ 23 rfl w13.heap.size 5 i0 (.int .u8 0) 1 1 Try.underlying23 hi hz0 hz1 hz2 rfl (by decide) _ _ _ rfl (World.ownsRow_lit w13 #[] 0 (Nat.le_refl _) (Nat.zero_le _) rfl) ⟨gb, 0, none⟩ L.length cb (U L) rfl (by simp) hnew4 (ints_oneCell _ _) (by unfold maxLen; omega) (by omega) (by simp) ?_; intro v14 w14 ho14 hg14 hnn; simp only [Nat.zero_add, List.nil_append] at ho14; clear tok1)
    have hb14 := below_one hg14
    obtain ⟨g14, c14, rfl, hg14', hg14''⟩ := own_split ho14 hlL1
    have hlast := lebU_lastb 9 x hx0 (fitU_start hx1)
    rw [← HL.out] at hlast
    obtain ⟨z, hz⟩ : ∃ z, z = L.getD (L.length - 1) 0 := ⟨_, rfl⟩
    rw [← hz] at hlast
    obtain ⟨hz0', hz1'⟩ := hlast
    have hcl : w14.cell? ⟨g14, L.length - 1, none⟩ = some (.int .u8 z) := by
      have := own_has0 ho14 (L.length - 1) (by omega)
      rw [Nat.zero_add, ← hz] at this
      exact this
    have hfz := ho14.frozenAt (L.length - 1)
    obtain ⟨st1, st2⟩ := ho14.stored (L.length - 1) (.int .u8 (z + 128))
    rw [set_U] at st1
    have HZ := Hid.mk' hz
    have hz14 := hb14.size
    clear ho14 hg14 hnn hnew4 hz
    have tok2 : True := trivial
    go_upto_region 23 with (at_builtin; have _t := tok2; refine wpList_append_own _ rfl _ _ 23 rfl w13.heap.size 5 i0 (.int .u8 0) 1 1 Try.underlying23 hi hz0 hz1 hz2 rfl (by decide) _ _ _ rfl (st1.alloc _) ⟨w14.heap.size, 0, none⟩ 1 1 [.int .u8 0] rfl rfl (one_new (by simp) _ _) (oneB _) (by unfold maxLen; omega) (by omega) (by simp; omega) ?_; intro v16 w16 ho16 hg16 hnn16; clear tok2)
    have hb15 := hb14.grown st2 hz14 (fun j hj => by cases hj; exact hg14')
    have hb16 : Below w13.heap.size w13 w16 := below_push st1 hb15 hb15.size hg16
    have e16 : lng 9 x = L.set (L.length - 1) (z + 128) ++ [0] := by rw [lng_set, ← HL.out, ← HZ.out]
    have hl16 : (lng 9 x).length = L.length + 1 := by rw [e16]; simp
    have ho17 : w16.ownsRow w13.heap.size 5 1 v16 (lng 9 x).length (U (lng 9 x)) := by rw [hl16, e16]; simpa using ho16
    have hB16 : AllB (lng 9 x) := by rw [e16]; exact allB_append (allB_set (by rw [HL.out]; exact lebU_all x hx0 hx1) _ _ (by omega) (by omega)) (allB_of (by simp))
    obtain ⟨g16, c16, rfl, hg16', hg16''⟩ := own_split ho17 (by omega)
    have C17 := implGetU_any (some ⟨g16, 0, none⟩) c16 (lng 9 x) 0 64 w16 (by omega) (own_has ho17) hB16
    rw [leb_e x hx0 hx1 (by rw [← HL.out]; exact hten), ← HL.out] at C17
    have hN : ((L.length : Int) + 1 == ((lng 9 x).length : Int)) = true := beq_iff_eq.2 (by omega)
    have HC17 := Hid.mk' C17
    have HE := Hid.mk' hl16
    clear C17 e16 hl16 ho17 hB16 ho16 hg16 hnn16 st1 st2 hb15 hcl hfz hb14
    go_wp2_with fail
    refine HC17.out.mono ?_
    rintro e w17 ⟨rfl, hb17⟩
    simp only [RV]
    clear HC17
    have hb18 := hW13.trans ((hb16.trans (hb17.mono hb16.size)).mono hW13.size)
    go_wp2
    go_ret
    exact ⟨rfl, hb18.alloc hb18.size _⟩
  · have hteni : ¬ (L.length : Int) < 10 := by omega
    go_wp2
    go_ret
    exact ⟨rfl, hW13⟩
end Go.Proofs.Ytnbplhlpcojlhaa
