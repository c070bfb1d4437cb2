import Derived.Test.YtnbplhlpcojlhaaMark
import Derived.Test.YtnbplhlpcojlhaaPutU
import Derived.Test.YtnbplhlpcojlhaaPutS
namespace Go.Proofs.Ytnbplhlpcojlhaa
open Go.RowKit

theorem implPutU_any (x : Int) (w : World) (h0 : 0 ≤ x) (h1 : x ≤ 18446744073709551615) :
    Calls Try.prog 11 #[.int .u64 x] w fun e w' => ∃ v, e = .returned v ∧ w'.ownsRow w.heap.size 5 1 v (lebU 9 x).length (U (lebU 9 x)) ∧ Below w.heap.size w w' := by
  go_enter Try.func11, Try.ntmps11
  go_wp2_with (go_at_call 28; refine (lebPutU_any _ _ h0 h1).mono ?_; rintro e w' ⟨v, rfl, ho, hb⟩)
  go_ret
  exact ⟨_, rfl, ho, hb⟩

set_option maxHeartbeats 400000 in
theorem lawPutU (x : Int) (w : World) (h0 : 0 ≤ x) (h1 : x ≤ 18446744073709551615) :
    Calls Try.prog 3 #[.int .u64 x] w fun e w' => e = .returned (.bool true) ∧ Below w.heap.size w w' := by
  obtain ⟨L, hL⟩ : ∃ L, L = lebU 9 x := ⟨_, rfl⟩
  have hlen := lebU_len 9 x
  rw [← hL] at hlen
  have hl : L.length ≤ 1099511627776 := by omega
  have cS := fun w => specPutU_any x w h0 h1
  have cI := fun w => implPutU_any x w h0 h1
  rw [← hL] at cS cI
  have CS : Hid (∀ w, _) := cS
  have CI : Hid (∀ w, _) := cI
  clear cS cI hL
  go_enter Try.func3, Try.ntmps3
  go_wp2_with fail
  refine (CS.out _).mono ?_
  rintro e w1 ⟨v0, rfl, ho0, hb1⟩
  obtain ⟨g0, c0, rfl, hg0, hg0'⟩ := own_split ho0 hlen.1
  go_wp2_with fail
  refine (CI.out _).mono ?_
  rintro e w2 ⟨v1, rfl, ho1, hb2⟩
  obtain ⟨g1, c1, rfl, hg1, hg1'⟩ := own_split ho1 hlen.1
  have ho0 := own_below ho0 hb2 hg0'
  go_wp2_with fail
  refine (eq_any _ _ _ _ L _ hl (own_has ho1) (own_has ho0)).mono ?_
  rintro e w3 ⟨rfl, n3, rfl⟩
  go_wp2_with fail
  refine (mark_any _ g1 L.length c1 L _ hl (show (w2.drewN n3).ownsRow w1.heap.size 5 1 _ _ _ from ho1)).mono ?_
  rintro e w4 ⟨rfl, ho1', hgr⟩
  have ho0 := own_grown (show (w2.drewN n3).ownsRow w.heap.size 5 1 _ _ _ from ho0) hgr (by omega)
  have hb4 : Below w.heap.size w w4 := (below_drewN' (hb1.trans (hb2.mono hb1.size)) n3).grown hgr (by show w.heap.size ≤ w2.heap.size; have := hb1.size; have := hb2.size; omega) (fun j hj => by simp at hj; have := hb1.size; omega)
  have hz4 : w2.heap.size ≤ w4.heap.size := hgr.size
  have hM : Has w4 (some ⟨g1, 0, none⟩) (marks 1 L.length) := own_has' ho1'
  clear ho1 hb2 hgr
  go_wp2_with fail
  refine (held_any _ _ L.length _ hl hM).mono ?_
  rintro e w5 ⟨rfl, rfl⟩
  go_wp2_with fail
  refine (CI.out _).mono ?_
  rintro e w6 ⟨v2, rfl, ho2, hb6⟩
  obtain ⟨g2, c2, rfl, hg2, hg2'⟩ := own_split ho2 hlen.1
  have ho0 := own_below ho0 hb6 (by omega)
  have ho1' := own_below ho1' hb6 (by omega)
  have hM : Has w6 (some ⟨g1, 0, none⟩) (marks 1 L.length) := own_has' ho1'
  go_wp2_with fail
  refine (eq_any _ _ _ _ L _ hl (own_has ho2) (own_has ho0)).mono ?_
  rintro e w7 ⟨rfl, n7, rfl⟩
  go_wp2_with fail
  refine (held_any _ _ L.length _ hl (hM.drewN n7)).mono ?_
  rintro e w8 ⟨rfl, rfl⟩
  go_wp2
  go_ret
  exact ⟨rfl, below_drewN' (hb4.trans (hb6.mono hb4.size)) n7⟩

theorem implPutS_any (x : Int) (w : World) (h0 : -9223372036854775808 ≤ x) (h1 : x ≤ 9223372036854775807) :
    Calls Try.prog 16 #[.int .i64 x] w fun e w' => ∃ v, e = .returned v ∧ w'.ownsRow w.heap.size 5 1 v (lebS 9 x).length (U (lebS 9 x)) ∧ Below w.heap.size w w' := by
  go_enter Try.func16, Try.ntmps16
  go_wp2_with (go_at_call 29; refine (lebPutS_any _ _ h0 h1).mono ?_; rintro e w' ⟨v, rfl, ho, hb⟩)
  go_ret
  exact ⟨_, rfl, ho, hb⟩

set_option maxHeartbeats 400000 in
theorem lawPutS (x : Int) (w : World) (h0 : -9223372036854775808 ≤ x) (h1 : x ≤ 9223372036854775807) :
    Calls Try.prog 4 #[.int .i64 x] w fun e w' => e = .returned (.bool true) ∧ Below w.heap.size w w' := by
  obtain ⟨L, hL⟩ : ∃ L, L = lebS 9 x := ⟨_, rfl⟩
  have hlen := lebS_len 9 x
  rw [← hL] at hlen
  have hl : L.length ≤ 1099511627776 := by omega
  have cS := fun w => specPutS_any x w h0 h1
  have cI := fun w => implPutS_any x w h0 h1
  rw [← hL] at cS cI
  have CS : Hid (∀ w, _) := cS
  have CI : Hid (∀ w, _) := cI
  clear cS cI hL
  go_enter Try.func4, Try.ntmps4
  go_wp2_with fail
  refine (CS.out _).mono ?_
  rintro e w1 ⟨v0, rfl, ho0, hb1⟩
  obtain ⟨g0, c0, rfl, hg0, hg0'⟩ := own_split ho0 hlen.1
  go_wp2_with fail
  refine (CI.out _).mono ?_
  rintro e w2 ⟨v1, rfl, ho1, hb2⟩
  obtain ⟨g1, c1, rfl, hg1, hg1'⟩ := own_split ho1 hlen.1
  have ho0 := own_below ho0 hb2 hg0'
  go_wp2_with fail
  refine (eq_any _ _ _ _ L _ hl (own_has ho1) (own_has ho0)).mono ?_
  rintro e w3 ⟨rfl, n3, rfl⟩
  go_wp2_with fail
  refine (mark_any _ g1 L.length c1 L _ hl (show (w2.drewN n3).ownsRow w1.heap.size 5 1 _ _ _ from ho1)).mono ?_
  rintro e w4 ⟨rfl, ho1', hgr⟩
  have ho0 := own_grown (show (w2.drewN n3).ownsRow w.heap.size 5 1 _ _ _ from ho0) hgr (by omega)
  have hb4 : Below w.heap.size w w4 := (below_drewN' (hb1.trans (hb2.mono hb1.size)) n3).grown hgr (by show w.heap.size ≤ w2.heap.size; have := hb1.size; have := hb2.size; omega) (fun j hj => by simp at hj; have := hb1.size; omega)
  have hz4 : w2.heap.size ≤ w4.heap.size := hgr.size
  have hM : Has w4 (some ⟨g1, 0, none⟩) (marks 1 L.length) := own_has' ho1'
  clear ho1 hb2 hgr
  go_wp2_with fail
  refine (held_any _ _ L.length _ hl hM).mono ?_
  rintro e w5 ⟨rfl, rfl⟩
  go_wp2_with fail
  refine (CI.out _).mono ?_
  rintro e w6 ⟨v2, rfl, ho2, hb6⟩
  obtain ⟨g2, c2, rfl, hg2, hg2'⟩ := own_split ho2 hlen.1
  have ho0 := own_below ho0 hb6 (by omega)
  have ho1' := own_below ho1' hb6 (by omega)
  have hM : Has w6 (some ⟨g1, 0, none⟩) (marks 1 L.length) := own_has' ho1'
  go_wp2_with fail
  refine (eq_any _ _ _ _ L _ hl (own_has ho2) (own_has ho0)).mono ?_
  rintro e w7 ⟨rfl, n7, rfl⟩
  go_wp2_with fail
  refine (held_any _ _ L.length _ hl (hM.drewN n7)).mono ?_
  rintro e w8 ⟨rfl, rfl⟩
  go_wp2
  go_ret
  exact ⟨rfl, below_drewN' (hb4.trans (hb6.mono hb4.size)) n7⟩
end Go.Proofs.Ytnbplhlpcojlhaa
