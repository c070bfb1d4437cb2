import Derived.Test.YtnbplhlpcojlhaaUtfI
import Derived.OpenShut
namespace Go.Proofs.Ytnbplhlpcojlhaa
open Go.RowKit

set_option maxHeartbeats 400000 in
theorem implUtf8_any (a : Option Addr) (cap : Nat) (bs : List Int) (w : World) (hl : bs.length ≤ 1099511627776) (ha : Has w a bs) (hB : AllB bs) :
    Calls Try.prog 19 #[.slice a bs.length cap] w fun e w' => e = .returned (.int .i64 (uf 0 0 0 0 bs)) ∧ w = w' := by
  rcases ha with hx | ⟨b1, o1, rfl, hc1⟩
  · subst hx
    show Calls Try.prog 19 #[.slice a 0 cap] w fun e w' => e = .returned (.int .i64 (-1)) ∧ w = w'
    clear hl hB
    go_enter Try.func19, Try.ntmps19
    go_wp2
    go_step3
    go_wp2
    go_step3
    go_wp2
    rw [Exit.noGoto_ret]
    go_ret
    exact ⟨rfl, rfl⟩
  · exact implUtf8_row b1 o1 cap bs w hl hc1 hB

/-- A copy, as far as it is made. -/
theorem copy_step (k : Nat) (xs : List Int) (h : k < xs.length) : (U (xs.take k ++ List.replicate (xs.length - k) 0)).set k (.int .u8 (xs.getD k 0)) = U (xs.take (k + 1) ++ List.replicate (xs.length - (k + 1)) 0) := by
  have e : List.replicate (xs.length - k) (0 : Int) = 0 :: List.replicate (xs.length - (k + 1)) 0 := by
    rw [← List.replicate_succ, show xs.length - (k + 1) + 1 = xs.length - k by omega]
  rw [e, List.take_succ_eq_append_getElem h]
  simp only [U, List.map_append, List.map_cons, List.append_assoc, List.cons_append, List.nil_append]
  rw [List.set_append_right _ _ (by simp; omega)]
  simp [List.getD, h, Nat.min_eq_left (Nat.le_of_lt h)]

set_option maxHeartbeats 400000 in
theorem toBytes_any (a : Option Addr) (cap : Nat) (xs : List Int) (w : World) (hl : xs.length ≤ 1099511627776) (ha : Has w a xs) :
    Calls Try.prog 18 #[.slice a xs.length cap] w fun e w' => e = .returned (.slice (some ⟨w.heap.size, 0, none⟩) xs.length xs.length) ∧
      w'.ownsRow w.heap.size 5 1 (.slice (some ⟨w.heap.size, 0, none⟩) xs.length xs.length) xs.length (U xs) ∧ Below w.heap.size w w' := by
  obtain ⟨i0, hi, hz0, hz1, hz2⟩ := info_parts Try.info5
  have HA : Hid (Has w a xs) := ha
  clear ha
  go_enter Try.func18, Try.ntmps18
  go_wp2_with (at_make; refine wpList_make_full _ rfl _ _ 23 rfl w.heap.size 5 i0 (.int .u8 0) 1 Try.underlying23 hi hz0 hz1 .i64 .i64 _ _ xs.length rfl rfl rfl rfl (by rw [hz2]; omega) (by unfold maxLen; omega) (Nat.le_refl _) ?_)
  intro w1 ho hg
  have hb : Below w.heap.size w w1 := (Below.refl _ _).grown hg (Nat.le_refl _) (fun k hk => by cases hk)
  have ho' : w1.ownsRow w.heap.size 5 1 (.slice (some ⟨w.heap.size, 0, none⟩) xs.length xs.length) xs.length (U (xs.take 0 ++ List.replicate (xs.length - 0) 0)) := by
    have e : (madeCells #[Value.int .u8 0] xs.length).toList = U (xs.take 0 ++ List.replicate (xs.length - 0) 0) := by
      rw [toList_madeCells_one]; simp
    rw [← e]; exact ho
  clear ho hg hi hz0 hz1 hz2
  go_wp2
  go_loopw [4] (fun i wr => ∃ k : Nat, k ≤ xs.length ∧ i = .int .i64 k ∧ wr.ownsRow w.heap.size 5 1 (.slice (some ⟨w.heap.size, 0, none⟩) xs.length xs.length) xs.length (U (xs.take k ++ List.replicate (xs.length - k) 0)) ∧ Below w.heap.size w wr) (fun i _ => xs.length - (intOf i).toNat)
  case atStart => exact ⟨0, Nat.zero_le _, rfl, ho', hb⟩
  case round =>
    obtain ⟨k, hk, rfl, ho, hb'⟩ := hrel
    clear ho' hb
    by_cases hlt : k < xs.length
    · rcases HA.out with hx | ⟨b1, o1, ea, hc1⟩
      · subst hx; simp at hlt
      subst ea
      have hki : (k : Int) < (xs.length : Int) := by omega
      have d0 := hc1 k hlt
      have d1 : wr.cell? ⟨b1, o1 + k, none⟩ = some (.int .u8 (xs.getD k 0)) := (hb'.cell (World.block_lt_of_cell? w _ d0)).trans d0
      obtain ⟨q, hqq⟩ : ∃ q, q = xs.getD k 0 := ⟨_, rfl⟩
      rw [← hqq] at d1
      have hcell : ∃ u, wr.cell? ⟨w.heap.size, k, none⟩ = some u := by
        rw [ho.cellAt k (by omega)]
        exact ⟨_, List.getElem?_eq_getElem (by simp; omega)⟩
      obtain ⟨u, hu⟩ := hcell
      have hfz := ho.frozenAt k
      obtain ⟨s1, s2⟩ := ho.stored k (.int .u8 q)
      rw [hqq, copy_step k xs hlt, ← hqq] at s1
      have hsz := hb'.size
      have R := And.intro s1 (hb'.grown s2 hsz (fun j hj => by simp at hj; omega))
      clear s1 s2 ho hb' hsz hqq d0 hc1 HA
      go_wp2
      go_roundw
      case rel => exact ⟨k + 1, by omega, by go_num, R.1, R.2⟩
      case measure => simp [intOf]; omega
    · have e : k = xs.length := by omega
      subst e
      rw [List.take_length, Nat.sub_self, List.replicate_zero, List.append_nil] at ho
      go_wp2
      go_ret
      exact ⟨rfl, ho, hb'⟩

theorem Has.below {w w' : World} {a : Option Addr} {xs : List Int} (h : Has w a xs) (hb : Below w.heap.size w w') : Has w' a xs := by
  rcases h with h | ⟨b, o, e, hc⟩
  · exact .inl h
  · exact .inr ⟨b, o, e, fun i hi => (hb.cell (World.block_lt_of_cell? w _ (hc i hi))).trans (hc i hi)⟩

/-- What came in as a slice of bytes. -/
theorem row_has {w : World} {a : Option Addr} {len cap : Nat} {zs : List Int}
    (h : (a = none ∧ len = 0 ∧ cap = 0 ∧ zs = []) ∨ ∃ x, a = some x ∧ len ≤ cap ∧ cap ≤ maxLen ∧ zs.length = cap ∧ (∀ i, i < zs.length → w.cell? (x.add i) = some (.int .u8 (zs.getD i 0))) ∧ ∀ n ∈ zs, (Lit.int .u8 n).wf = true) :
    ∃ xs : List Int, xs.length = len ∧ len ≤ maxLen ∧ Has w a xs ∧ AllB xs := by
  rcases h with ⟨rfl, rfl, rfl, rfl⟩ | ⟨x, rfl, hlc, hcm, hz, hc, hw⟩
  · exact ⟨[], rfl, Nat.zero_le _, .inl rfl, fun i => by simp⟩
  · refine ⟨zs.take len, by simp; omega, by omega, ?_, ?_⟩
    · by_cases h0 : len = 0
      · subst h0; exact .inl (by simp)
      · obtain ⟨b, off, spot⟩ := x
        have h1 := hc 0 (by omega)
        have hspot : spot = none := by simpa [Addr.add] using World.cell?_spot h1
        subst hspot
        refine .inr ⟨b, off, rfl, fun i hi => ?_⟩
        have hi' : i < len := by simp at hi; omega
        have h2 := hc i (by omega)
        have e : (zs.take len).getD i 0 = zs.getD i 0 := by simp [List.getD, hi']
        rw [e]
        rwa [Addr.add_lit] at h2
    · intro i
      by_cases hi : i < (zs.take len).length
      · have hm : (zs.take len)[i] ∈ zs := List.mem_of_mem_take (List.getElem_mem hi)
        have hb := bounds_u8 (hw _ hm)
        simpa [List.getD, List.getElem?_eq_getElem hi] using hb
      · rw [List.getD_eq_getElem?_getD, List.getElem?_eq_none (by omega)]
        simp

set_option maxHeartbeats 400000 in
theorem lawUtf8 (a : Option Addr) (cap : Nat) (xs : List Int) (w : World) (hm : xs.length ≤ maxLen) (ha : Has w a xs) (hB : AllB xs) :
    Calls Try.prog 5 #[.slice a xs.length cap] w fun e w' => e = .returned (.bool true) ∧ Below w.heap.size w w' := by
  unfold maxLen at hm
  by_cases hbig : 1048576 < xs.length
  · have hbi : (1048576 : Int) < (xs.length : Int) := by omega
    clear ha hB
    go_enter Try.func5, Try.ntmps5
    go_wp2
    go_ret
    exact ⟨rfl, Below.refl _ _⟩
  · have hbi : ¬ (1048576 : Int) < (xs.length : Int) := by omega
    have hl : xs.length ≤ 1099511627776 := by omega
    have HA : Hid (Has w a xs) := ha
    have HB : Hid (AllB xs) := hB
    clear ha hB hbig
    go_enter Try.func5, Try.ntmps5
    go_wp2_with fail
    refine (toBytes_any a cap xs w hl HA.out).mono ?_
    rintro e w1 ⟨rfl, ho1, hb1⟩
    go_wp2_with fail
    refine (specUtf8_any _ _ xs _ hl (own_has ho1) HB.out).mono ?_
    rintro e w1' ⟨rfl, rfl⟩
    have HA1 : Hid (Has w1 a xs) := HA.out.below hb1
    clear ho1
    go_wp2_with fail
    refine (toBytes_any a cap xs w1 hl HA1.out).mono ?_
    rintro e w2 ⟨rfl, ho2, hb2⟩
    go_wp2_with fail
    refine (implUtf8_any _ _ xs _ hl (own_has ho2) HB.out).mono ?_
    rintro e w2' ⟨rfl, rfl⟩
    have HA2 : Hid (Has w2 a xs) := HA1.out.below hb2
    have hlt : w1.heap.size < w2.heap.size := by
      rcases ho2.2 with ⟨h, _⟩ | ⟨g, _, _, h, _, hg, _⟩
      · simp at h
      · simp only [Value.slice.injEq, Option.some.injEq, Addr.mk.injEq, and_true, true_and] at h
        obtain ⟨rfl, _⟩ := h
        exact (Array.getElem?_eq_some_iff.1 hg).1
    go_wp2_with fail
    refine (toBytes_any a cap xs w2 hl HA2.out).mono ?_
    rintro e w3 ⟨rfl, ho3, hb3⟩
    have ho2 := own_below ho2 hb3 hlt
    go_wp2_with fail
    refine (eq_any _ _ _ _ xs _ hl (own_has ho2) (own_has ho3)).mono ?_
    rintro e w4 ⟨rfl, n4, rfl⟩
    go_wp2
    go_ret
    exact ⟨rfl, below_drewN' ((hb1.trans (hb2.mono hb1.size)).trans (hb3.mono (Nat.le_trans hb1.size hb2.size))) n4⟩
end Go.Proofs.Ytnbplhlpcojlhaa
