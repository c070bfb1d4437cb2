import Derived.Test.YtnbplhlpcojlhaaDraw
import Derived.Test.YtnbplhlpcojlhaaUtfM
import Derived.Laws.AppendOwnNone
namespace Go.Proofs.Ytnbplhlpcojlhaa
open Go.RowKit

/-- What came in as a slice of bytes, and that a nil one has no room. -/
theorem row_has' {w : World} {a : Option Addr} {len cap : Nat} {zs : List Int}
    (h : (a = none ∧ len = 0 ∧ cap = 0 ∧ zs = []) ∨ ∃ x, a = some x ∧ len ≤ cap ∧ cap ≤ maxLen ∧ zs.length = cap ∧ (∀ i, i < zs.length → w.cell? (x.add i) = some (.int .u8 (zs.getD i 0))) ∧ ∀ n ∈ zs, (Lit.int .u8 n).wf = true) :
    a = none → cap = 0 := by
  rcases h with ⟨_, _, h, _⟩ | ⟨x, h, _⟩
  · exact fun _ => h
  · intro h'; rw [h'] at h; cases h

theorem news_at {w : World} {b o : Nat} {L : List Int} (h : ∀ i, i < L.length → w.cell? ⟨b, o + i, none⟩ = some (.int .u8 (L.getD i 0))) : ∀ j u, (U L)[j]? = some u → w.cell? ((⟨b, o, none⟩ : Addr).add j) = some u := by
  intro j u hu
  have hj : j < L.length := by have := (List.getElem?_eq_some_iff.1 hu).1; simpa using this
  rw [Addr.add_lit, h j hj]
  rw [← hu]; simp [List.getD, hj]

theorem has_take {w : World} {b o : Nat} {L : List Int} (h : ∀ i, i < L.length → w.cell? ⟨b, o + i, none⟩ = some (.int .u8 (L.getD i 0))) (m : Nat) : ∀ i, i < (L.take m).length → w.cell? ⟨b, o + i, none⟩ = some (.int .u8 ((L.take m).getD i 0)) := by
  intro i hi
  have hi' : i < m ∧ i < L.length := by simp at hi; omega
  rw [h i hi'.2]
  simp [List.getD, hi'.1]

theorem below_one {w1 w2 : World} {o : Obj} {n m : Nat} (hg : (w1.alloc o).grownBy w2 (Value.ownBlock (.slice (some ⟨w1.heap.size, 0, none⟩) n m))) : Below w1.heap.size w1 w2 :=
  ((Below.refl _ _).alloc (Nat.le_refl _) o).grown hg (by simp) (fun q hq => by simp [Value.ownBlock] at hq; omega)
theorem news_later {w1 w2 : World} {b o : Nat} {M : List Int} (hb : Below w1.heap.size w1 w2) (h : ∀ i, i < M.length → w1.cell? ⟨b, o + i, none⟩ = some (.int .u8 (M.getD i 0))) : ∀ j u, (U M)[j]? = some u → w2.cell? ((⟨b, o, none⟩ : Addr).add j) = some u :=
  news_at fun i hi => (hb.cell (World.block_lt_of_cell? w1 _ (h i hi))).trans (h i hi)

set_option maxHeartbeats 4000000 in
set_option maxRecDepth 100000 in
theorem lawFnUtf8 (a0 : Option Addr) (cap0 : Nat) (xs : List Int) (a1 : Option Addr) (cap1 : Nat) (M : List Int) (w : World) (hm : xs.length ≤ maxLen) (ha : Has w a0 xs) (hB : AllB xs) (hm1 : M.length ≤ maxLen) (ha1 : Has w a1 M) (hB1 : AllB M) (hn1 : a1 = none → cap1 = 0) :
    Calls Try.prog 6 #[.slice a0 xs.length cap0, .slice a1 M.length cap1] w fun e w' => e = .returned (.bool true) ∧ Below w.heap.size w w' := by
  unfold maxLen at hm hm1
  obtain ⟨i0, hi, hz0, hz1, hz2⟩ := info_parts Try.info5
  by_cases hbig : 1048576 < xs.length
  · have hbi : (1048576 : Int) < (xs.length : Int) := by omega
    clear ha hB ha1 hB1 hn1
    go_enter Try.func6, Try.ntmps6
    go_wp2
    go_ret
    exact ⟨rfl, Below.refl _ _⟩
  by_cases hbig1 : 1048576 < M.length
  · have hbi : ¬ (1048576 : Int) < (xs.length : Int) := by omega
    have hbi1 : (1048576 : Int) < (M.length : Int) := by omega
    clear ha hB ha1 hB1 hn1
    go_enter Try.func6, Try.ntmps6
    go_wp2
    go_ret
    exact ⟨rfl, Below.refl _ _⟩
  have hbi : ¬ (1048576 : Int) < (xs.length : Int) := by omega
  have hbi1 : ¬ (1048576 : Int) < (M.length : Int) := by omega
  have CD := Hid.mk' (drawUtf_any a0 cap0 xs w (by omega) hB ha)
  have HA1 := Hid.mk' ha1
  have HMB := Hid.mk' hB1
  have HN1 := Hid.mk' hn1
  clear ha hB ha1 hB1 hn1
  go_enter Try.func6, Try.ntmps6
  go_wp2_with fail
  refine CD.out.mono ?_
  rintro e w1 ⟨A, c, L, rfl, hLB, hL24, hLc, hLA, hb1⟩
  have HLB := Hid.mk' hLB
  have CI := implUtf8_any A c L w1 (by omega) hLA hLB
  have CS := specUtf8_any A c L w1 (by omega) hLA hLB
  have HLA := Hid.mk' hLA
  obtain ⟨kv, hkv⟩ : ∃ kv, kv = uf 0 0 0 0 L := ⟨_, rfl⟩
  rw [← hkv] at CI CS
  have HI := Hid.mk' CI
  have HS := Hid.mk' CS
  have HKV := Hid.mk' hkv
  clear CI CS hLB hLA hkv CD
  go_wp2_with fail
  refine HI.out.mono ?_
  rintro e w' ⟨rfl, rfl⟩
  go_wp2_with fail
  refine HS.out.mono ?_
  rintro e w' ⟨rfl, rfl⟩
  clear HI HS
  by_cases hneg : kv < 0
  · go_wp2
    go_ret
    exact ⟨rfl, hb1⟩
  by_cases hge : (L.length : Int) ≤ kv
  · go_wp2
    go_ret
    exact ⟨rfl, hb1⟩
  obtain ⟨K, rfl⟩ := Int.eq_ofNat_of_zero_le (show 0 ≤ kv by omega)
  have hKL : K < L.length := by omega
  rcases HLA.out with hx | ⟨b1, o1, hAe, hcL⟩
  · subst hx; simp at hKL
  subst hAe
  have HCL := Hid.mk' hcL
  have CT : ∀ i, i ≤ K → ∃ r : Int, (r = -1 ∨ r = (i : Int)) ∧ Calls Try.prog 19 #[.slice (some ⟨b1, o1, none⟩) i c] w1 fun e w' => e = .returned (.int .i64 r) ∧ w1 = w' := by
    intro i hi'
    refine ⟨uf 0 0 0 0 (L.take i), uf_begins L K i HKV.out.symm hi', ?_⟩
    have h := implUtf8_any (some ⟨b1, o1, none⟩) c (L.take i) w1 (by simp; omega) (.inr ⟨b1, o1, rfl, has_take hcL i⟩) (allB_take HLB.out i)
    rwa [show (L.take i).length = i by simp; omega] at h
  have HCT := Hid.mk' CT
  have HKM : Hid (uf 0 0 0 0 (L.take (K + 1) ++ M) = (K : Int)) := uf_mends L K M HKV.out.symm hKL
  have hlk : (L.take (K + 1)).length = K + 1 := by simp; omega
  have hnegb : decide ((K : Int) < 0) = false := decide_eq_false (by omega)
  have hgeb : decide ((L.length : Int) ≤ (K : Int)) = false := decide_eq_false (by omega)
  have hgeb' : decide (L.length ≤ K) = false := decide_eq_false (by omega)
  clear hcL CT HLA HKV
  go_wp2
  go_loop [7] (fun iv => ∃ i : Nat, i ≤ K + 1 ∧ iv = .int .i64 i) (fun iv => K + 1 - (intOf iv).toNat)
  case atStart => exact ⟨0, Nat.zero_le _, rfl⟩
  case round =>
    obtain ⟨i, hiK, rfl⟩ := hrel
    by_cases hlt : i ≤ K
    · obtain ⟨r, hr, hC⟩ := HCT.out i hlt
      have HC := Hid.mk' hC
      have hlti : (i : Int) ≤ (K : Int) := by omega
      clear hC
      rcases hr with rfl | rfl
      · go_wp2_with (go_at_call 19; refine HC.out.mono ?_; rintro e w' ⟨rfl, rfl⟩)
        go_round
        case rel => exact ⟨i + 1, by omega, by go_num⟩
        case measure => simp [intOf]; omega
      · have hne1 : ((i : Int) != -1) = true := by rw [bne_iff_ne]; omega
        go_wp2_with (go_at_call 19; refine HC.out.mono ?_; rintro e w' ⟨rfl, rfl⟩)
        go_round
        case rel => exact ⟨i + 1, by omega, by go_num⟩
        case measure => simp [intOf]; omega
    · have hlti : ¬ (i : Int) ≤ (K : Int) := by omega
      clear HCT
      have hnew := news_at (has_take (fun i h => (Below.cell ((Below.refl w1.heap.size w1).alloc (Nat.le_refl _) (Obj.cells #[] 5)) (World.block_lt_of_cell? w1 _ (HCL.out i h))).trans (HCL.out i h)) (K + 1))
      have tok1 : True := trivial
      have tok2 : True := trivial
      by_cases hM0 : M = []
      · subst hM0
        cases a1 with
        | none =>
          have hc1 := HN1.out rfl
          subst hc1
          go_wp2_with (first | (at_builtin; have _t := tok1; refine wpList_append_own _ rfl _ _ 23 rfl w1.heap.size 5 i0 (.int .u8 0) 1 1 Try.underlying23 hi hz0 hz1 hz2 rfl (by decide) _ _ _ rfl (World.ownsRow_lit w1 #[] 0 (Nat.le_refl _) (Nat.zero_le _) rfl) ⟨b1, o1, none⟩ (K + 1) c (U (L.take (K + 1))) rfl (by rw [List.length_map, hlk, Nat.mul_one]) hnew (ints_oneCell _ _) (by unfold maxLen; omega) (by omega) (by simp) ?_; intro v2 w2 ho2 hg2 hnn; simp only [Nat.zero_add, List.nil_append] at ho2; have hb2 := below_one hg2; clear tok1) | (at_builtin; have _t := tok2; refine wpList_append_own_none rfl _ _ 23 rfl w1.heap.size 5 i0 1 Try.underlying23 hi _ _ _ rfl ho2 rfl ?_; clear tok2))
          have ho4 : w2.ownsRow w1.heap.size 5 1 v2 (L.take (K + 1) ++ []).length (U (L.take (K + 1) ++ [])) := by rw [List.length_append, hlk]; simpa using ho2
          have hb4 := hb2
          obtain ⟨g4, c4, rfl, hg4, hg4'⟩ := own_split ho4 (by simp; omega)
          have C4 := implUtf8_any (some ⟨g4, 0, none⟩) c4 (L.take (K + 1) ++ []) w2 (by simp; omega) (own_has ho4) (allB_append (allB_take HLB.out _) HMB.out)
          rw [HKM.out] at C4
          refine C4.mono ?_
          rintro e w' ⟨rfl, rfl⟩
          go_wp2
          go_ret
          exact ⟨by simp, hb1.trans (hb4.mono hb1.size)⟩
        | some ad =>
          go_wp2_with (first | (at_builtin; have _t := tok1; refine wpList_append_own _ rfl _ _ 23 rfl w1.heap.size 5 i0 (.int .u8 0) 1 1 Try.underlying23 hi hz0 hz1 hz2 rfl (by decide) _ _ _ rfl (World.ownsRow_lit w1 #[] 0 (Nat.le_refl _) (Nat.zero_le _) rfl) ⟨b1, o1, none⟩ (K + 1) c (U (L.take (K + 1))) rfl (by rw [List.length_map, hlk, Nat.mul_one]) hnew (ints_oneCell _ _) (by unfold maxLen; omega) (by omega) (by simp) ?_; intro v2 w2 ho2 hg2 hnn; simp only [Nat.zero_add, List.nil_append] at ho2; have hb2 := below_one hg2; clear tok1) | (at_builtin; have _t := tok2; refine wpList_append_own _ rfl _ _ 23 rfl w1.heap.size 5 i0 (.int .u8 0) 1 1 Try.underlying23 hi hz0 hz1 hz2 rfl (by decide) _ _ _ rfl ho2 ad 0 cap1 [] rfl rfl (by intro j u h; simp at h) (by intro u h; simp at h) (by unfold maxLen; omega) (by omega) (by have := hb2.size; omega) ?_; intro v3 w3 ho3 hg3 hnn3; clear tok2))
          have ho4 : w3.ownsRow w1.heap.size 5 1 v3 (L.take (K + 1) ++ []).length (U (L.take (K + 1) ++ [])) := by rw [List.length_append, hlk]; simpa using ho3
          have hb4 := hb2.grown hg3 hb2.size (fun q hq => (ho2.lt q hq).1)
          obtain ⟨g4, c4, rfl, hg4, hg4'⟩ := own_split ho4 (by simp; omega)
          have C4 := implUtf8_any (some ⟨g4, 0, none⟩) c4 (L.take (K + 1) ++ []) w3 (by simp; omega) (own_has ho4) (allB_append (allB_take HLB.out _) HMB.out)
          rw [HKM.out] at C4
          refine C4.mono ?_
          rintro e w' ⟨rfl, rfl⟩
          go_wp2
          go_ret
          exact ⟨by simp, hb1.trans (hb4.mono hb1.size)⟩
      · rcases HA1.out with hx | ⟨b2, o2, hAe, hcM⟩
        · exact absurd hx hM0
        subst hAe
        have hcM1 : ∀ i, i < M.length → w1.cell? ⟨b2, o2 + i, none⟩ = some (.int .u8 (M.getD i 0)) := fun i h => (hb1.cell (World.block_lt_of_cell? w _ (hcM i h))).trans (hcM i h)
        have HM1 := Hid.mk' hcM1
        clear hcM hcM1
        go_wp2_with (first | (at_builtin; have _t := tok1; refine wpList_append_own _ rfl _ _ 23 rfl w1.heap.size 5 i0 (.int .u8 0) 1 1 Try.underlying23 hi hz0 hz1 hz2 rfl (by decide) _ _ _ rfl (World.ownsRow_lit w1 #[] 0 (Nat.le_refl _) (Nat.zero_le _) rfl) ⟨b1, o1, none⟩ (K + 1) c (U (L.take (K + 1))) rfl (by rw [List.length_map, hlk, Nat.mul_one]) hnew (ints_oneCell _ _) (by unfold maxLen; omega) (by omega) (by simp) ?_; intro v2 w2 ho2 hg2 hnn; simp only [Nat.zero_add, List.nil_append] at ho2; have hb2 := below_one hg2; clear tok1) | (at_builtin; have _t := tok2; refine wpList_append_own _ rfl _ _ 23 rfl w1.heap.size 5 i0 (.int .u8 0) 1 1 Try.underlying23 hi hz0 hz1 hz2 rfl (by decide) _ _ _ rfl ho2 ⟨b2, o2, none⟩ M.length cap1 (U M) rfl (by simp) (news_later hb2 HM1.out) (ints_oneCell _ _) (by unfold maxLen; omega) (by omega) (by have := hb2.size; omega) ?_; intro v3 w3 ho3 hg3 hnn3; clear tok2))
        · have ho4 : w3.ownsRow w1.heap.size 5 1 v3 (L.take (K + 1) ++ M).length (U (L.take (K + 1) ++ M)) := by rw [List.length_append, hlk]; simpa using ho3
          have hb4 := hb2.grown hg3 hb2.size (fun q hq => (ho2.lt q hq).1)
          obtain ⟨g4, c4, rfl, hg4, hg4'⟩ := own_split ho4 (by simp; omega)
          have C4 := implUtf8_any (some ⟨g4, 0, none⟩) c4 (L.take (K + 1) ++ M) w3 (by simp; omega) (own_has ho4) (allB_append (allB_take HLB.out _) HMB.out)
          rw [HKM.out] at C4
          refine C4.mono ?_
          rintro e w' ⟨rfl, rfl⟩
          go_wp2
          go_ret
          exact ⟨by simp, hb1.trans (hb4.mono hb1.size)⟩
        · go_ret
          exact ⟨rfl, hb1.trans ((hb2.grown hg3 hb2.size (fun q hq => (ho2.lt q hq).1)).mono hb1.size)⟩
end Go.Proofs.Ytnbplhlpcojlhaa
