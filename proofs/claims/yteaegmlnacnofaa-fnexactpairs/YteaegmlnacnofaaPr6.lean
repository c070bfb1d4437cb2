import Derived.Test.YteaegmlnacnofaaPr5
import Derived.Test.YteaegmlnacnofaaMkp
set_option linter.all false
set_option linter.unusedVariables false
namespace Go.Proofs.Yteaegmlnacnofaa
open Go.RowKit Go.Sort
set_option maxRecDepth 100000
theorem PR.val {V : World} {B : Nat} {v : Value} {P : List (Int × Int)} (h : PR V B v P) : ∃ a c, v = .slice a P.length c ∧ (0 < P.length → ∃ g, a = some ⟨g, 0, none⟩ ∧ B ≤ g ∧ g < V.heap.size ∧ V.ownsRow B 87 2 (.slice (some ⟨g, 0, none⟩) P.length c) P.length (pcs P)) := by
  rcases h.2 with ⟨e1, e2⟩ | ⟨g, cap, cur, e1, hB, hg, r⟩
  · exact ⟨none, 0, by rw [e1, e2], fun h0 => by omega⟩
  · refine ⟨_, _, e1, fun _ => ⟨g, rfl, hB, (Array.getElem?_eq_some_iff.1 hg).1, ?_⟩⟩
    rw [← e1]; exact h
theorem PR.blk {V V' : World} {B : Nat} {v : Value} {P : List (Int × Int)} (h : PR V B v P) (hb : ∀ k, v.ownBlock = some k → V'.heap[k]? = V.heap[k]?) : PR V' B v P := by
  refine ⟨h.1, ?_⟩
  rcases h.2 with h0 | ⟨g, cap, cur, e1, hB, hg, r⟩
  · exact .inl h0
  · exact .inr ⟨g, cap, cur, e1, hB, (hb g (by rw [e1]; rfl)).trans hg, r⟩
theorem PR.keep {V V' : World} {B : Nat} {v : Value} {P : List (Int × Int)} (h : PR V B v P) (hb : Below V.heap.size V V') : PR V' B v P := h.blk (fun k hk => hb.block k (h.lt k hk).2)
theorem PR.at {V : World} {B g c i : Nat} {P : List (Int × Int)} (h : V.ownsRow B 87 2 (.slice (some ⟨g, 0, none⟩) P.length c) P.length (pcs P)) (hi : i < P.length) : V.cell? ⟨g, i * 2, none⟩ = some (.int .i64 (P.getD i (-1, -1)).1) ∧ V.cell? ⟨g, i * 2 + 1, none⟩ = some (.int .i64 (P.getD i (-1, -1)).2) :=
  ⟨(h.cellAt _ (by omega)).trans (pcs_at0 P i hi), (h.cellAt _ (by omega)).trans (pcs_at1 P i hi)⟩
set_option maxHeartbeats 1000000 in
theorem eqPair_c (a b : Int) (w : World) : Calls Try.prog 40 #[.agg #[.int .i64 a, .int .i64 b], .agg #[.int .i64 a, .int .i64 b]] w fun e w' => e = .returned (.bool true) ∧ Below w.heap.size w w' := by
  go_enter Try.func40, Try.ntmps40
  go_wp2
  go_ret
  exact ⟨rfl, ((Below.refl _ _).alloc (Nat.le_refl _) _).alloc (by simp) _⟩
set_option maxHeartbeats 2000000 in
theorem eqPairs_c (B B' : Nat) (v v' : Value) (P : List (Int × Int)) (w : World) (hn : P.length ≤ 1048576) (h : PR w B v P) (h' : PR w B' v' P) :
    Calls Try.prog 17 #[v, v'] w fun e w' => e = .returned (.bool true) ∧ Below w.heap.size w w' := by
  obtain ⟨a, c, rfl, q⟩ := h.val
  obtain ⟨a', c', rfl, q'⟩ := h'.val
  have H1 := Hid.mk' h
  have H2 := Hid.mk' h'
  have Q1 := Hid.mk' q
  have Q2 := Hid.mk' q'
  clear h h' q q'
  go_enter Try.func17, Try.ntmps17
  go_wp2
  go_loopw [5] (fun i wr => ∃ k : Nat, k ≤ P.length ∧ i = .int .i64 k ∧ Below w.heap.size w wr) (fun i _ => P.length - (intOf i).toNat)
  case atStart => exact ⟨0, Nat.zero_le _, rfl, Below.refl _ _⟩
  case round =>
    obtain ⟨k, hk, rfl, hb⟩ := hrel
    by_cases hlt : k < P.length
    · have hki : (k : Int) < (P.length : Int) := by omega
      obtain ⟨g, rfl, -, l1, o1⟩ := Q1.out (by omega)
      obtain ⟨g', rfl, -, l2, o2⟩ := Q2.out (by omega)
      obtain ⟨c0, c1⟩ := PR.at o1 hlt
      obtain ⟨d0, d1⟩ := PR.at o2 hlt
      have c0 := (hb.cell (p := ⟨g, k * 2, none⟩) l1).trans c0
      have c1 := (hb.cell (p := ⟨g, k * 2 + 1, none⟩) l1).trans c1
      have d0 := (hb.cell (p := ⟨g', k * 2, none⟩) l2).trans d0
      have d1 := (hb.cell (p := ⟨g', k * 2 + 1, none⟩) l2).trans d1
      generalize P.getD k (-1, -1) = x at *
      obtain ⟨x0, x1⟩ := x
      simp only at c0 c1 d0 d1
      have k0 := cell_regrown c0
      have k1 := cell_regrown c1
      have m0 := cell_regrown d0
      have m1 := cell_regrown d1
      have cE : ∀ d os, Calls Try.prog 40 #[.agg #[.int .i64 x0, .int .i64 x1], .agg #[.int .i64 x0, .int .i64 x1]] (grow (redrawn wr d) os) fun e w'' => e = .returned (.bool true) ∧ ∃ p : Regrown, w'' = grow (redrawn wr p.d) p.os := fun d os => Calls.regrown_of (eqPair_c x0 x1 _)
      have HB := Hid.mk' hb
      have HE := Hid.mk' cE
      clear hb H1 H2 Q1 Q2 cE c0 c1 d0 d1 o1 o2 l1 l2
      go_wp2
      refine wp_region_quiet_below (by kernel_rfl) (by kernel_rfl) ?_
      repeat (quiet_step (exact HE.out _ _))
      refine wpQuiet_nil ?_
      intro _ hw'
      obtain ⟨⟨dq, osq⟩, hw''⟩ := hw'
      subst hw''
      have hw5 := HB.out.trans ((below_regrown wr dq osq).mono HB.out.size)
      clear k0 k1 m0 m1
      generalize grow (redrawn wr dq) osq = w5 at *
      show Exit.then _ _ Exit.normal _ w5
      go_wp2
      go_roundw
      case rel => exact ⟨k + 1, by omega, by go_num, hw5⟩
      case measure => simp [intOf]; omega
    · go_wp2
      go_ret
      exact ⟨rfl, hb⟩
/-- The marks of k entries. -/
def mkP (s : Int) (n : Nat) : List (Int × Int) := (List.range n).map fun (i : Nat) => (s + 2 * (i : Int), s + 2 * (i : Int) + 1)
theorem mkP_len (s : Int) (n : Nat) : (mkP s n).length = n := by simp [mkP]
theorem mkP_at (s : Int) (n i : Nat) (h : i < n) : (mkP s n).getD i (-1, -1) = (s + 2 * (i : Int), s + 2 * (i : Int) + 1) := by simp [mkP, List.getD, h]
def mxP (s : Int) (k : Nat) (P : List (Int × Int)) : List (Int × Int) := mkP s k ++ P.drop k
theorem mxP_len (s : Int) (k : Nat) (P : List (Int × Int)) (h : k ≤ P.length) : (mxP s k P).length = P.length := by simp [mxP, mkP_len]; omega
theorem mxP_step (s : Int) (k : Nat) (P : List (Int × Int)) (h : k < P.length) (y : Int) : ((mxP s k P).set k (s + 2 * (k : Int), y)).set k (s + 2 * (k : Int), s + 2 * (k : Int) + 1) = mxP s (k + 1) P := by
  have e : mkP s (k + 1) = mkP s k ++ [(s + 2 * (k : Int), s + 2 * (k : Int) + 1)] := by simp [mkP, List.range_succ]
  rw [List.set_set]
  unfold mxP
  rw [e, List.drop_eq_getElem_cons h, List.set_append_right _ _ (by rw [mkP_len]; exact Nat.le_refl _), mkP_len, Nat.sub_self, List.set_cons_zero, List.append_assoc]
  rfl
set_option maxHeartbeats 4000000 in
theorem mkPairs_c (B g c : Nat) (P : List (Int × Int)) (w : World) (k0 : Int) (h0 : 0 ≤ k0) (h1 : k0 ≤ 1000000) (hn : P.length ≤ 1048576) (h : w.ownsRow B 87 2 (.slice (some ⟨g, 0, none⟩) P.length c) P.length (pcs P)) :
    Calls Try.prog 20 #[.slice (some ⟨g, 0, none⟩) P.length c, .int .i64 k0] w fun e w' => e = .returned (.int .i64 (k0 + 2 * (P.length : Int))) ∧ w'.ownsRow B 87 2 (.slice (some ⟨g, 0, none⟩) P.length c) P.length (pcs (mkP k0 P.length)) ∧ w.grownBy w' (some g) := by
  have HH := Hid.mk' h
  clear h
  go_enter Try.func20, Try.ntmps20
  go_wp2
  go_loopw [1, 5] (fun q i wr => ∃ k : Nat, k ≤ P.length ∧ i = .int .i64 k ∧ q = .int .i64 (k0 + 2 * (k : Int)) ∧ wr.ownsRow B 87 2 (.slice (some ⟨g, 0, none⟩) P.length c) P.length (pcs (mxP k0 k P)) ∧ w.grownBy wr (some g)) (fun _ i _ => P.length - (intOf i).toNat)
  case atStart => exact ⟨0, Nat.zero_le _, rfl, by simp, by simpa [mxP, mkP] using HH.out, World.grownBy.refl _ _⟩
  case round =>
    obtain ⟨k, hk, rfl, rfl, ho, hg⟩ := hrel
    clear HH
    by_cases hlt : k < P.length
    · have hki : (k : Int) < (P.length : Int) := by omega
      have hl := mxP_len k0 k P hk
      have hc0 := (ho.cellAt (k * 2) (by omega)).trans (pcs_at0 (mxP k0 k P) k (by omega))
      have hf0 := ho.frozenAt (k * 2)
      obtain ⟨s1, s2⟩ := ho.stored (k * 2) (.int .i64 (k0 + 2 * (k : Int)))
      rw [pcs_set0 _ _ _ (by omega)] at s1
      have hl2 : ((mxP k0 k P).set k (k0 + 2 * (k : Int), ((mxP k0 k P).getD k (-1, -1)).2)).length = P.length := by simp [hl]
      have hw : IntKind.i64.wrap (k0 + 2 * (k : Int) + 1) = k0 + 2 * (k : Int) + 1 := by rw [IntKind.wrap_i64]; omega
      have hw2 : IntKind.i64.wrap (k0 + 2 * (k : Int) + 1 + 1) = k0 + 2 * (k : Int) + 1 + 1 := by rw [IntKind.wrap_i64]; omega
      have R1 := Hid.mk' (And.intro s1 (grown_trans hg s2))
      have HL2 := Hid.mk' hl2
      clear s1 s2 ho hg hl hl2
      go_upto_region 5 with fail
      refine wp_gen (fun V => V.ownsRow B 87 2 (.slice (some ⟨g, 0, none⟩) P.length c) P.length (pcs ((mxP k0 k P).set k (k0 + 2 * (k : Int), ((mxP k0 k P).getD k (-1, -1)).2))) ∧ w.grownBy V (some g)) R1.out ?_
      rintro V ⟨ho, hg⟩
      clear R1 hc0 hf0
      have hc1 := (ho.cellAt (k * 2 + 1) (by omega)).trans (pcs_at1 _ k (by rw [HL2.out]; exact hlt))
      have hf1 := ho.frozenAt (k * 2 + 1)
      obtain ⟨s1, s2⟩ := ho.stored (k * 2 + 1) (.int .i64 (k0 + 2 * (k : Int) + 1))
      rw [pcs_set1 _ _ _ (by rw [HL2.out]; exact hlt)] at s1
      have hgd : ((mxP k0 k P).set k (k0 + 2 * (k : Int), ((mxP k0 k P).getD k (-1, -1)).2)).getD k (-1, -1) = (k0 + 2 * (k : Int), ((mxP k0 k P).getD k (-1, -1)).2) := by
        have : k < (mxP k0 k P).length := by rw [mxP_len _ _ _ hk]; exact hlt
        simp [List.getD, this]
      rw [hgd] at s1
      simp only at s1
      rw [mxP_step k0 k P hlt] at s1
      have R2 := Hid.mk' (And.intro s1 (grown_trans hg s2))
      clear s1 s2 ho hg HL2 hgd
      go_wp2
      go_roundw
      case rel => exact ⟨k + 1, by omega, by go_num, by go_num, R2.out.1, R2.out.2⟩
      case measure => simp [intOf]; omega
    · have e : k = P.length := by omega
      subst e
      have RR : Hid (wr.ownsRow B 87 2 (.slice (some ⟨g, 0, none⟩) P.length c) P.length (pcs (mkP k0 P.length)) ∧ w.grownBy wr (some g)) := by
        refine And.intro ?_ hg
        have := ho
        rw [mxP, List.drop_of_length_le (Nat.le_refl _), List.append_nil] at this
        exact this
      clear ho hg
      go_wp2
      go_ret
      exact ⟨rfl, RR.out.1, RR.out.2⟩
set_option maxHeartbeats 2000000 in
theorem heldPairs_c (B g c n : Nat) (w : World) (k0 : Int) (h0 : 0 ≤ k0) (h1 : k0 ≤ 1000000) (hn : n ≤ 1048576) (h : w.ownsRow B 87 2 (.slice (some ⟨g, 0, none⟩) n c) n (pcs (mkP k0 n))) :
    Calls Try.prog 21 #[.slice (some ⟨g, 0, none⟩) n c, .int .i64 k0] w fun e w' => e = .returned (.int .i64 (k0 + 2 * (n : Int))) ∧ w = w' := by
  have HH := Hid.mk' h
  clear h
  go_enter Try.func21, Try.ntmps21
  go_wp2
  go_loop [1, 5] (fun q i => ∃ k : Nat, k ≤ n ∧ i = .int .i64 k ∧ q = .int .i64 (k0 + 2 * (k : Int))) (fun _ i => n - (intOf i).toNat)
  case atStart => exact ⟨0, Nat.zero_le _, rfl, by simp⟩
  case round =>
    obtain ⟨k, hk, rfl, rfl⟩ := hrel
    by_cases hlt : k < n
    · have hki : (k : Int) < (n : Int) := by omega
      have hc0 := (HH.out.cellAt (k * 2) (by omega)).trans (pcs_at0 (mkP k0 n) k (by rw [mkP_len]; exact hlt))
      have hc1 := (HH.out.cellAt (k * 2 + 1) (by omega)).trans (pcs_at1 (mkP k0 n) k (by rw [mkP_len]; exact hlt))
      rw [mkP_at k0 n k hlt] at hc0 hc1
      simp only at hc0 hc1
      have hw : IntKind.i64.wrap (k0 + 2 * (k : Int) + 1) = k0 + 2 * (k : Int) + 1 := by rw [IntKind.wrap_i64]; omega
      have hw2 : IntKind.i64.wrap (k0 + 2 * (k : Int) + 1 + 1) = k0 + 2 * (k : Int) + 1 + 1 := by rw [IntKind.wrap_i64]; omega
      go_wp2
      go_round
      case rel => exact ⟨k + 1, by omega, by go_num, by go_num⟩
      case measure => simp [intOf]; omega
    · have e : k = n := by omega
      subst e
      clear HH
      go_wp2
      go_ret
      exact ⟨rfl, rfl⟩
theorem marks_c (B : Nat) (v : Value) (P : List (Int × Int)) (w : World) (hn : P.length ≤ 1048576) (h : PR w B v P) :
    Calls Try.prog 20 #[v, .int .i64 1] w fun e w' => e = .returned (.int .i64 (1 + 2 * (P.length : Int))) ∧ PR w' B v (mkP 1 P.length) ∧ w.grownBy w' v.ownBlock := by
  obtain ⟨a, c, rfl, q⟩ := h.val
  by_cases h0 : 0 < P.length
  · obtain ⟨g, rfl, -, -, o⟩ := q h0
    refine (mkPairs_c B g c P w 1 (by decide) (by decide) hn o).mono ?_
    rintro e w' ⟨rfl, ho, hg⟩
    refine ⟨rfl, ?_, hg⟩
    show World.ownsRow _ _ _ _ _ (mkP 1 P.length).length _
    rw [mkP_len]; exact ho
  · have e0 : P.length = 0 := by omega
    have hk := h
    rw [e0] at hk ⊢
    clear q h0
    have HK := Hid.mk' hk
    have HE := Hid.mk' e0
    clear hk e0 h hn
    go_enter Try.func20, Try.ntmps20
    go_wp2
    refine wp_loop_rounds 1 ?_
    rw [rounds_succ]
    go_wp2
    go_ret
    refine ⟨rfl, ?_, World.grownBy.refl _ _⟩
    have : P = [] := List.eq_nil_of_length_eq_zero HE.out
    have h2 := HK.out
    rw [this] at h2
    exact h2
theorem held_c (B : Nat) (v : Value) (n : Nat) (w : World) (hn : n ≤ 1048576) (h : PR w B v (mkP 1 n)) :
    Calls Try.prog 21 #[v, .int .i64 1] w fun e w' => e = .returned (.int .i64 (1 + 2 * (n : Int))) ∧ w = w' := by
  obtain ⟨a, c, rfl, q⟩ := h.val
  rw [mkP_len] at *
  by_cases h0 : 0 < n
  · obtain ⟨g, rfl, -, -, o⟩ := q h0
    exact heldPairs_c B g c n w 1 (by decide) (by decide) hn o
  · have e0 : n = 0 := by omega
    subst e0
    clear q h0 h hn
    go_enter Try.func21, Try.ntmps21
    go_wp2
    refine wp_loop_rounds 1 ?_
    rw [rounds_succ]
    go_wp2
    go_ret
    exact ⟨rfl, rfl⟩
end Go.Proofs.Yteaegmlnacnofaa
