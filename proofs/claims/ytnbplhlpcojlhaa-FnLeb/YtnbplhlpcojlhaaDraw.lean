import Derived.Test.YtnbplhlpcojlhaaTab
namespace Go.Proofs.Ytnbplhlpcojlhaa
open Go.RowKit

theorem news_of {w : World} {g : Nat} {L : List Int} (h : ∀ i, i < L.length → w.cell? ⟨g, i, none⟩ = some (.int .u8 (L.getD i 0))) : ∀ j u, (U L)[j]? = some u → w.cell? ((⟨g, 0, none⟩ : Addr).add j) = some u := by
  intro j u hu
  have hj : j < L.length := by have := (List.getElem?_eq_some_iff.1 hu).1; simpa using this
  rw [Addr.add_lit, Nat.zero_add, h j hj]
  rw [← hu]; simp [List.getD, hj]
theorem allB_append {xs ys : List Int} (h : AllB xs) (k : AllB ys) : AllB (xs ++ ys) := by
  intro i
  by_cases hi : i < xs.length
  · have := h i; simpa [List.getD, List.getElem?_append_left hi] using this
  · have := k (i - xs.length); simpa [List.getD, List.getElem?_append_right (Nat.le_of_not_lt hi)] using this
theorem allB_set {xs : List Int} (h : AllB xs) (p : Nat) (y : Int) (h0 : 0 ≤ y) (h1 : y ≤ 255) : AllB (xs.set p y) := by
  intro i
  have := h i
  by_cases hp : p = i
  · subst hp
    by_cases hi : p < xs.length
    · simp [List.getD, hi]; omega
    · simp [List.getD, hi]
  · simpa [List.getD, List.getElem?_set, hp] using this
theorem set_U (xs : List Int) (p : Nat) (y : Int) : (U xs).set p (.int .u8 y) = U (xs.set p y) := by simp [U, List.map_set]
theorem own_nil {w : World} {B : Nat} {v : Value} {n : Nat} {xs : List Value} (h : w.ownsRow B 5 1 v n xs) (h0 : n = 0) : ∃ A c, v = .slice A 0 c := by
  subst h0
  rcases h.2 with ⟨h1, _⟩ | ⟨g, cap, _, h1, _⟩
  · exact ⟨_, _, h1⟩
  · exact ⟨_, _, h1⟩
theorem own_take {w : World} {B g n c m : Nat} {L : List Int} (h : w.ownsRow B 5 1 (.slice (some ⟨g, 0, none⟩) n c) n (U L)) (hm : m ≤ n) : w.ownsRow B 5 1 (.slice (some ⟨g, 0, none⟩) (L.take m).length c) (L.take m).length (U (L.take m)) := by
  have hL := own_len h
  have e : (L.take m).length = m := by simp; omega
  rw [e]
  refine ⟨by simp; omega, ?_⟩
  rcases h.2 with ⟨h1, _⟩ | ⟨g', c', cur, h1, hB, hh, h2, h3, h4, h5⟩
  · simp at h1
  · simp only [Value.slice.injEq, Option.some.injEq, Addr.mk.injEq, and_true, true_and] at h1
    obtain ⟨rfl, rfl⟩ := h1
    refine .inr ⟨g, c, cur, rfl, hB, hh, by omega, h3, h4, ?_⟩
    have : cur.toList.take (m * 1) = (cur.toList.take (n * 1)).take m := by rw [List.take_take]; congr 1; omega
    rw [this, h5]; simp [U, List.map_take]
theorem own_cap {w : World} {B g n c : Nat} {xs : List Value} (h : w.ownsRow B 5 1 (.slice (some ⟨g, 0, none⟩) n c) n xs) : n ≤ c := by
  rcases h.2 with ⟨h1, _⟩ | ⟨g', c', cur, h1, hB, hh, h2, _⟩
  · simp at h1
  · simp only [Value.slice.injEq, Option.some.injEq, Addr.mk.injEq, and_true, true_and] at h1
    obtain ⟨rfl, rfl⟩ := h1
    exact h2
theorem allB_take {xs : List Int} (h : AllB xs) (m : Nat) : AllB (xs.take m) := by
  intro i
  have := h i
  by_cases hi : i < m
  · simpa [List.getD, List.getElem?_take, hi] using this
  · rw [List.getD_eq_getElem?_getD, List.getElem?_eq_none (by simp; omega)]; simp
theorem tbl_at {w : World} (q : Nat) (hq : q < 11) : ∃ y : Int, (w.alloc (Obj.cells #[Value.int .i64 128, Value.int .i64 192, Value.int .i64 193, Value.int .i64 245, Value.int .i64 255, Value.int .i64 159, Value.int .i64 160, Value.int .i64 143, Value.int .i64 144, Value.int .i64 191, Value.int .i64 65] 2)).cell? ⟨w.heap.size, q, none⟩ = some (.int .i64 y) ∧ 0 ≤ y ∧ y ≤ 255 := by
  rcases (show q = 0 ∨ q = 1 ∨ q = 2 ∨ q = 3 ∨ q = 4 ∨ q = 5 ∨ q = 6 ∨ q = 7 ∨ q = 8 ∨ q = 9 ∨ q = 10 by omega) with rfl | rfl | rfl | rfl | rfl | rfl | rfl | rfl | rfl | rfl | rfl
  all_goals exact ⟨_, cell_new rfl rfl, by decide, by decide⟩

set_option maxHeartbeats 4000000 in
set_option maxRecDepth 100000 in
theorem drawUtf_any (a : Option Addr) (cap : Nat) (xs : List Int) (w : World) (hl : xs.length ≤ 1099511627776) (hB : AllB xs) (ha : Has w a xs) :
    Calls Try.prog 20 #[.slice a xs.length cap] w fun e w' => ∃ A c L, e = .returned (.slice A L.length c) ∧ AllB L ∧ L.length ≤ 24 ∧ L.length ≤ c ∧ Has w' A L ∧ Below w.heap.size w w' := by
  obtain ⟨i0, hi, hz0, hz1, hz2⟩ := info_parts Try.info5
  have HX : Hid (AllB xs) := hB
  have HN := Hid.mk' (new_any a cap xs w hl hB ha)
  have CB := Hid.mk' (fun W n hC h1 h2 => below_any w.heap.size a cap xs n W hl hB hC h1 h2)
  clear hB ha
  go_enter Try.func20, Try.ntmps20
  go_wp2_with fail
  refine HN.out.mono ?_
  rintro e w1 ⟨rfl, hC1, hb1, hz1'⟩
  clear HN
  go_wp2_with fail
  refine (CB.out _ 6 (hC1.below ((Below.refl w1.heap.size w1).alloc (Nat.le_refl _) _) hz1') (by omega) (by omega)).mono ?_
  rintro e w2 ⟨n, rfl, hn0, hn6, hC2, hg2⟩
  have ho2 := own_kept (World.ownsRow_lit w1 #[] 0 (e := 5) (size := 1) (Nat.le_refl _) (Nat.zero_le _) rfl) hg2 hz1'
  have hb2 := below_kept (hb1.alloc hb1.size (Obj.cells #[] 5)) hg2 (by simp; omega) (Nat.le_refl _)
  have hs2 : w1.heap.size ≤ w2.heap.size := by have := hg2.size; simp at this; omega
  clear hC1 hb1 hg2
  go_wp2
  go_loopw [4, 6] (fun v iv wr => ∃ (i : Nat) (pre : List Int), iv = .int .i64 i ∧ (i : Int) ≤ n ∧ pre.length ≤ 4 * i ∧ AllB pre ∧ wr.ownsRow w1.heap.size 5 1 v pre.length (U pre) ∧ Cur wr w.heap.size a cap xs ∧ Below w.heap.size w wr ∧ w1.heap.size ≤ wr.heap.size)
    (fun _ iv _ => 6 - (intOf iv).toNat)
  case atStart => exact ⟨0, [], rfl, by omega, by simp, fun i => by simp, ho2, hC2, hb2, hs2⟩
  case round =>
    clear ho2 hC2 hb2 hs2
    obtain ⟨i, pre, rfl, hin, hpl, hpB, hown, hC, hb, hs⟩ := hrel
    have HPB := Hid.mk' hpB
    clear hpB
    by_cases hlt : (i : Int) < n
    · go_wp2_with fail
      refine (CB.out _ 11 hC (by omega) (by omega)).mono ?_
      rintro e w3 ⟨k, rfl, hk0, hk1, hC3, hg3⟩
      have hown := own_kept hown hg3 hz1'
      have hb := below_kept hb hg3 hb.size (Nat.le_refl _)
      have hs : w1.heap.size ≤ w3.heap.size := by have := hg3.size; omega
      clear hC hg3
      go_wp2_with fail
      refine (CB.out _ 64 hC3 (by omega) (by omega)).mono ?_
      rintro e w4 ⟨x, rfl, hx0, hx1, hC4, hg4⟩
      have hown := own_kept hown hg4 hz1'
      have hb := below_kept hb hg4 hb.size (Nat.le_refl _)
      have hs : w1.heap.size ≤ w4.heap.size := by have := hg4.size; omega
      clear hC3 hg4
      go_upto_region 10 with fail
      refine wp_gen (fun wc => Tab wc (w4.heap.size + 1 + 1 + 1 + 1 + 1 + 1 + 1 + 1 + 1 + 1 + 1) ∧ wc.ownsRow w1.heap.size 5 1 u4 pre.length (U pre) ∧ Below w4.heap.size w4 wc) ⟨?_, ?_, ?_⟩ ?_
      · exact tab_tower w4 x hx0 hx1
      · repeat (first | exact hown | apply World.ownsRow.alloc)
      · repeat (first | exact Below.refl _ _ | refine Below.alloc ?_ (by simp; try omega) _)
      · rintro wc ⟨hT, hown5, hB5⟩
        have hC5 := hC4.below hB5 (by omega)
        have hb5 := hb.trans (hB5.mono hb.size)
        have hs5 : w1.heap.size ≤ wc.heap.size := by have := hB5.size; omega
        obtain ⟨kn, rfl⟩ := Int.eq_ofNat_of_zero_le hk0
        obtain ⟨gj, L, t1, t2, t3, t4⟩ := hT kn (by omega)
        have HT := Hid.mk' t4
        have HL := Hid.mk' t2
        clear hT t4 t2 hB5 hC4 hb hs hown
        go_wp2_with (at_builtin; refine wpList_append_own _ rfl _ _ 23 rfl w1.heap.size 5 i0 (.int .u8 0) 1 1 Try.underlying23 hi hz0 hz1 hz2 rfl (by decide) _ _ _ rfl hown5 ⟨gj, 0, none⟩ L.length L.length (U L) rfl (by simp) (news_of HT.out) (ints_oneCell _ _) (by unfold maxLen; omega) (by omega) (by omega) ?_; intro v' w6 ho6 hg6 hnn)
        have hb6 : Below w1.heap.size wc w6 := (Below.refl _ _).grown hg6 hs5 (fun q hq => (hown5.lt q hq).1)
        have ho7 : w6.ownsRow w1.heap.size 5 1 v' (pre ++ L).length (U (pre ++ L)) := by simpa using ho6
        have hC6 := hC5.below hb6 hz1'
        have hb7 := hb5.trans (hb6.mono (by omega))
        have hs6 : w1.heap.size ≤ w6.heap.size := by have := hb6.size; omega
        have HB7 := Hid.mk' (allB_append HPB.out HL.out)
        clear ho6 hg6 hnn hown5 hC5 hb5 hs5 hb6 t1 HT
        go_wp2
        go_roundw
        case rel => exact ⟨i + 1, pre ++ L, by go_num, by omega, by simp; omega, HB7, ho7, hC6, hb7, hs6⟩
        case measure => simp [intOf]; omega
    · have hn5 : pre.length ≤ 20 := by omega
      go_wp2_with fail
      refine (CB.out _ 4 hC (by omega) (by omega)).mono ?_
      rintro e w3 ⟨k, rfl, hk0, hk1, hC3, hg3⟩
      have hown := own_kept hown hg3 hz1'
      have hb := below_kept hb hg3 hb.size (Nat.le_refl _)
      have hs : w1.heap.size ≤ w3.heap.size := by have := hg3.size; omega
      clear hC hg3
      by_cases hp0 : pre.length = 0
      · obtain ⟨A, c, rfl⟩ := own_nil hown hp0
        have hpe : pre = [] := List.length_eq_zero_iff.1 hp0
        subst hpe
        clear hown hC3
        go_wp2
        go_ret
        exact ⟨A, c, [], rfl, fun i => by simp, by simp, by simp, .inl rfl, hb⟩
      · obtain ⟨g', c, rfl, hg', hg''⟩ := own_split hown (by omega)
        have hpi : (0 : Int) < (pre.length : Int) := by omega
        rcases (show k = 0 ∨ k = 1 ∨ (2 ≤ k ∧ k ≤ 3) by omega) with rfl | rfl | ⟨hk2, hk3⟩
        · go_wp2_with fail
          refine (CB.out _ _ hC3 (by omega) (by omega)).mono ?_
          rintro e w5 ⟨p, rfl, hp1, hp2, hC5, hg5⟩
          have hown := own_kept hown hg5 hz1'
          have hb := below_kept hb hg5 hb.size (Nat.le_refl _)
          have hs : w1.heap.size ≤ w5.heap.size := by have := hg5.size; omega
          have hg'' : g' < w5.heap.size := by have := hg5.size; omega
          clear hC3 hg5
          have hC5' := hC5.below ((Below.refl w5.heap.size w5).alloc (Nat.le_refl _) (Obj.cells #[Value.int .i64 128, Value.int .i64 192, Value.int .i64 193, Value.int .i64 245, Value.int .i64 255, Value.int .i64 159, Value.int .i64 160, Value.int .i64 143, Value.int .i64 144, Value.int .i64 191, Value.int .i64 65] 2)) (by omega)
          have hown' := hown.alloc (Obj.cells #[Value.int .i64 128, Value.int .i64 192, Value.int .i64 193, Value.int .i64 245, Value.int .i64 255, Value.int .i64 159, Value.int .i64 160, Value.int .i64 143, Value.int .i64 144, Value.int .i64 191, Value.int .i64 65] 2)
          have hb' := hb.alloc hb.size (Obj.cells #[Value.int .i64 128, Value.int .i64 192, Value.int .i64 193, Value.int .i64 245, Value.int .i64 255, Value.int .i64 159, Value.int .i64 160, Value.int .i64 143, Value.int .i64 144, Value.int .i64 191, Value.int .i64 65] 2)
          clear hC5 hown hb
          go_wp2_with fail
          refine (CB.out _ 11 hC5' (by omega) (by omega)).mono ?_
          rintro e w6 ⟨q, rfl, hq0, hq1, hC6, hg6⟩
          have hown6 := own_kept hown' hg6 hz1'
          have hb6 := below_kept hb' hg6 (by simp; omega) (Nat.le_refl _)
          obtain ⟨qn, rfl⟩ := Int.eq_ofNat_of_zero_le hq0
          obtain ⟨pn, rfl⟩ := Int.eq_ofNat_of_zero_le hp1
          obtain ⟨y, hy, hy0, hy1⟩ := tbl_at (w := w5) qn (by omega)
          have d1 : w6.cell? ⟨w5.heap.size, qn, none⟩ = some (.int .i64 y) := hg6.cell hy (by simp; omega)
          have hcell : ∃ u, w6.cell? ⟨g', pn, none⟩ = some u := by
            rw [hown6.cellAt pn (by omega)]
            exact ⟨_, List.getElem?_eq_getElem (by simp; omega)⟩
          obtain ⟨u, hu⟩ := hcell
          have hfz := hown6.frozenAt pn
          have hcap := own_cap hown6
          obtain ⟨s1, s2⟩ := hown6.stored pn (.int .u8 y)
          rw [set_U] at s1
          have hl2 : (pre.set pn y).length = pre.length := by simp
          have hF := own_has (L := pre.set pn y) (by rw [hl2]; exact s1)
          have hb7 := hb6.grown s2 hb6.size (fun j hj => by simp at hj; omega)
          have R := And.intro hF hb7
          have HB9 := Hid.mk' (allB_set HPB.out pn y hy0 hy1)
          clear hC5' hown' hb' hy hC6 hg6 hown6 hb6 s1 s2 hF hb7
          go_wp2
          go_ret
          exact ⟨some ⟨g', 0, none⟩, c, pre.set pn y, by rw [hl2]; rfl, HB9, by omega, by omega, R.1, R.2⟩
        · have hF := own_has (L := pre.take (pre.length - 1)) (own_take hown (by omega))
          have hl2 : (pre.take (pre.length - 1)).length = pre.length - 1 := by simp
          have hcap := own_cap hown
          have hcap' : (pre.length : Int) ≤ (c : Int) := by omega
          have HB9 := Hid.mk' (allB_take HPB.out (pre.length - 1))
          clear hown hC3
          go_wp2
          go_ret
          exact ⟨some ⟨g', 0, none⟩, c, pre.take (pre.length - 1), by rw [hl2]; rfl, HB9, by omega, by omega, hF, hb⟩
        · have hk4 : (k == 0) = false := beq_eq_false_iff_ne.2 (by omega)
          have hk5 : (k == 1) = false := beq_eq_false_iff_ne.2 (by omega)
          have hF := own_has hown
          have hcap := own_cap hown
          clear hown hC3
          go_wp2
          go_ret
          exact ⟨some ⟨g', 0, none⟩, c, pre, rfl, HPB, by omega, hcap, hF, hb⟩
end Go.Proofs.Ytnbplhlpcojlhaa
