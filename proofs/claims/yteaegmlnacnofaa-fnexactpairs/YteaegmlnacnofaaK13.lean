import Derived.Test.YteaegmlnacnofaaK12
import Derived.Deep.Cut
set_option linter.all false
set_option linter.unusedVariables false
namespace Go.Proofs.Yteaegmlnacnofaa
open Go.RowKit Go.Sort
set_option maxRecDepth 100000
theorem wp_gen {P : Program} {c : Code} {Q : Exit → Act → World → Prop} {a : Act} {w : World} (R : World → Prop) (h : R w) (k : ∀ w', R w' → Code.wp P c Q a w') : Code.wp P c Q a w := k w h
theorem oneJ (b : Int) : ∀ u ∈ [Value.int .i64 b], u.oneCell' = true := by
  intro u hu; simp at hu; subst hu; rfl
abbrev opV (kv : Value) (dn bd : Bool) : Value := .agg #[kv, .bool dn, .bool bd]
set_option maxHeartbeats 2000000 in
theorem next_done (B : Nat) (kv : Value) (ks : List Int) (op : Int) (w : World) (hB : B ≤ w.heap.size) (h : w.ownsRow B 2 1 kv ks.length (I ks)) : Calls Try.prog 68 #[opV kv true false, .int .i64 op] w fun e w' => ∃ va vn vc, e = .returned (opV (.slice va vn vc) true true) ∧ Below B w w' := by
  obtain ⟨a, c, rfl⟩ := ownE_slice h
  have HS := Hid.mk' (NX.start (dn := true) (bd := false) h hB)
  clear h
  go_enter Try.func68, Try.ntmps68
  go_upto_region 1 with fail
  refine wp_gen (fun W => NX w B (.slice a ks.length c) true false ks W) HS.out ?_
  rintro W nx
  clear HS
  have b0 := nx.b0
  have b1 := nx.b1
  have b2 := nx.b2
  have bf := nx.bf
  have r0 := nx.r0
  have r1 := nx.r1
  have r2 := nx.r2
  have rf := nx.rf
  have lt := nx.lt
  have own := nx.own
  have NH := Hid.mk' nx
  clear nx
  go_wp2
  exact bodyPost_ret (v := opV (.slice a ks.length c) true true) (by simp [results, Try.results68, go_sem, r0, r1, r2]) rfl ⟨_, _, _, rfl, ((NH.out.flag hB true).2.fin hB).2⟩
set_option maxHeartbeats 2000000 in
theorem next_2 (B : Nat) (kv : Value) (ks : List Int) (w : World) (hB : B ≤ w.heap.size) (hl : ks.length ≤ 4194304) (h : w.ownsRow B 2 1 kv ks.length (I ks)) : Calls Try.prog 68 #[opV kv false false, .int .i64 2] w fun e w' => ∃ kv', e = .returned (opV kv' false false) ∧ w'.ownsRow B 2 1 kv' (ks ++ [0]).length (I (ks ++ [0])) ∧ Below B w w' := by
  obtain ⟨i0, hi, hz0, hz1, hz2⟩ := info_parts Try.info2
  obtain ⟨a, c, rfl⟩ := ownE_slice h
  have HS := Hid.mk' (NX.start (dn := false) (bd := false) h hB)
  clear h
  go_enter Try.func68, Try.ntmps68
  go_upto_region 1 with fail
  refine wp_gen (fun W => NX w B (.slice a ks.length c) false false ks W) HS.out ?_
  rintro W nx
  clear HS
  have b0 := nx.b0
  have b1 := nx.b1
  have b2 := nx.b2
  have bf := nx.bf
  have r0 := nx.r0
  have r1 := nx.r1
  have r2 := nx.r2
  have rf := nx.rf
  have lt := nx.lt
  have own := nx.own
  have NH := Hid.mk' nx
  clear nx
  have q1 : w.heap.size ≠ w.heap.size + 1 := by omega
  go_wp2_with (at_builtin; refine wpList_append_own_at _ rfl _ _ 24 rfl B 2 i0 (.int .i64 0) 1 8 Try.underlying24 hi hz0 hz1 hz2 rfl (by decide) _ _ _ rfl (own.alloc _) ⟨W.heap.size, 0, none⟩ 1 1 [.int .i64 0] rfl rfl (cell_one_new _ _ _) (oneJ _) (by unfold maxLen; omega) (by omega) (by simp; omega) ?_; intro v' w2 hown' hgrow hnn hloc; have HO2 := Hid.mk' (NH.out.pushed hB hown' hgrow hloc); obtain ⟨⟨p0, p1, p2, pf⟩, s0, s1, s2, sf⟩ := HO2.out.2; obtain ⟨va, vc, rfl⟩ := ownE_slice hown'; clear hown' hgrow hnn hloc own b0 b1 b2 r0 r1 r2 bf rf NH)
  exact bodyPost_ret (v := opV (.slice va (ks.length + 1) vc) false false) (by simp [results, Try.results68, go_sem, s0, s1, s2, q1]) rfl ⟨_, rfl, HO2.out.1.fin hB⟩
set_option maxHeartbeats 2000000 in
theorem next_3 (B : Nat) (kv : Value) (ks : List Int) (w : World) (hB : B ≤ w.heap.size) (hl : ks.length ≤ 4194304) (h : w.ownsRow B 2 1 kv ks.length (I ks)) : Calls Try.prog 68 #[opV kv false false, .int .i64 3] w fun e w' => ∃ kv', e = .returned (opV kv' false false) ∧ w'.ownsRow B 2 1 kv' (ks ++ [0]).length (I (ks ++ [0])) ∧ Below B w w' := by
  obtain ⟨i0, hi, hz0, hz1, hz2⟩ := info_parts Try.info2
  obtain ⟨a, c, rfl⟩ := ownE_slice h
  have HS := Hid.mk' (NX.start (dn := false) (bd := false) h hB)
  clear h
  go_enter Try.func68, Try.ntmps68
  go_upto_region 1 with fail
  refine wp_gen (fun W => NX w B (.slice a ks.length c) false false ks W) HS.out ?_
  rintro W nx
  clear HS
  have b0 := nx.b0
  have b1 := nx.b1
  have b2 := nx.b2
  have bf := nx.bf
  have r0 := nx.r0
  have r1 := nx.r1
  have r2 := nx.r2
  have rf := nx.rf
  have lt := nx.lt
  have own := nx.own
  have NH := Hid.mk' nx
  clear nx
  have q1 : w.heap.size ≠ w.heap.size + 1 := by omega
  go_wp2_with (at_builtin; refine wpList_append_own_at _ rfl _ _ 24 rfl B 2 i0 (.int .i64 0) 1 8 Try.underlying24 hi hz0 hz1 hz2 rfl (by decide) _ _ _ rfl (own.alloc _) ⟨W.heap.size, 0, none⟩ 1 1 [.int .i64 0] rfl rfl (cell_one_new _ _ _) (oneJ _) (by unfold maxLen; omega) (by omega) (by simp; omega) ?_; intro v' w2 hown' hgrow hnn hloc; have HO2 := Hid.mk' (NH.out.pushed hB hown' hgrow hloc); obtain ⟨⟨p0, p1, p2, pf⟩, s0, s1, s2, sf⟩ := HO2.out.2; obtain ⟨va, vc, rfl⟩ := ownE_slice hown'; clear hown' hgrow hnn hloc own b0 b1 b2 r0 r1 r2 bf rf NH)
  exact bodyPost_ret (v := opV (.slice va (ks.length + 1) vc) false false) (by simp [results, Try.results68, go_sem, s0, s1, s2, q1]) rfl ⟨_, rfl, HO2.out.1.fin hB⟩
set_option maxHeartbeats 2000000 in
theorem next_4 (B : Nat) (kv : Value) (ks : List Int) (w : World) (hB : B ≤ w.heap.size) (hl : ks.length ≤ 4194304) (h : w.ownsRow B 2 1 kv ks.length (I ks)) : Calls Try.prog 68 #[opV kv false false, .int .i64 4] w fun e w' => ∃ kv', e = .returned (opV kv' false false) ∧ w'.ownsRow B 2 1 kv' (ks ++ [1]).length (I (ks ++ [1])) ∧ Below B w w' := by
  obtain ⟨i0, hi, hz0, hz1, hz2⟩ := info_parts Try.info2
  obtain ⟨a, c, rfl⟩ := ownE_slice h
  have HS := Hid.mk' (NX.start (dn := false) (bd := false) h hB)
  clear h
  go_enter Try.func68, Try.ntmps68
  go_upto_region 1 with fail
  refine wp_gen (fun W => NX w B (.slice a ks.length c) false false ks W) HS.out ?_
  rintro W nx
  clear HS
  have b0 := nx.b0
  have b1 := nx.b1
  have b2 := nx.b2
  have bf := nx.bf
  have r0 := nx.r0
  have r1 := nx.r1
  have r2 := nx.r2
  have rf := nx.rf
  have lt := nx.lt
  have own := nx.own
  have NH := Hid.mk' nx
  clear nx
  have q1 : w.heap.size ≠ w.heap.size + 1 := by omega
  go_wp2_with (at_builtin; refine wpList_append_own_at _ rfl _ _ 24 rfl B 2 i0 (.int .i64 0) 1 8 Try.underlying24 hi hz0 hz1 hz2 rfl (by decide) _ _ _ rfl (own.alloc _) ⟨W.heap.size, 0, none⟩ 1 1 [.int .i64 1] rfl rfl (cell_one_new _ _ _) (oneJ _) (by unfold maxLen; omega) (by omega) (by simp; omega) ?_; intro v' w2 hown' hgrow hnn hloc; have HO2 := Hid.mk' (NH.out.pushed hB hown' hgrow hloc); obtain ⟨⟨p0, p1, p2, pf⟩, s0, s1, s2, sf⟩ := HO2.out.2; obtain ⟨va, vc, rfl⟩ := ownE_slice hown'; clear hown' hgrow hnn hloc own b0 b1 b2 r0 r1 r2 bf rf NH)
  exact bodyPost_ret (v := opV (.slice va (ks.length + 1) vc) false false) (by simp [results, Try.results68, go_sem, s0, s1, s2, q1]) rfl ⟨_, rfl, HO2.out.1.fin hB⟩
set_option maxHeartbeats 2000000 in
theorem next_5n (B : Nat) (kv : Value) (w : World) (hB : B ≤ w.heap.size) (h : w.ownsRow B 2 1 kv ([] : List Int).length (I [])) : Calls Try.prog 68 #[opV kv false false, .int .i64 5] w fun e w' => ∃ va vn vc, e = .returned (opV (.slice va vn vc) false true) ∧ Below B w w' := by
  obtain ⟨a, c, rfl⟩ := ownE_slice h
  have HS := Hid.mk' (NX.start (dn := false) (bd := false) h hB)
  clear h
  go_enter Try.func68, Try.ntmps68
  go_upto_region 1 with fail
  refine wp_gen (fun W => NX w B (.slice a ([] : List Int).length c) false false [] W) HS.out ?_
  rintro W nx
  clear HS
  have b0 := nx.b0
  have b1 := nx.b1
  have b2 := nx.b2
  have bf := nx.bf
  have r0 := nx.r0
  have r1 := nx.r1
  have r2 := nx.r2
  have rf := nx.rf
  have lt := nx.lt
  have own := nx.own
  have NH := Hid.mk' nx
  clear nx
  have q1 : w.heap.size ≠ w.heap.size + 1 := by omega
  go_wp2
  exact bodyPost_ret (v := opV (.slice a 0 c) false true) (by simp [results, Try.results68, go_sem, r0, r1, r2, q1]) rfl ⟨_, _, _, rfl, ((NH.out.flag hB true).2.fin hB).2⟩
set_option maxHeartbeats 2000000 in
theorem next_11n (B : Nat) (kv : Value) (w : World) (hB : B ≤ w.heap.size) (h : w.ownsRow B 2 1 kv ([] : List Int).length (I [])) : Calls Try.prog 68 #[opV kv false false, .int .i64 11] w fun e w' => ∃ kv', e = .returned (opV kv' true false) ∧ w'.ownsRow B 2 1 kv' ([] : List Int).length (I []) ∧ Below B w w' := by
  obtain ⟨a, c, rfl⟩ := ownE_slice h
  have HS := Hid.mk' (NX.start (dn := false) (bd := false) h hB)
  clear h
  go_enter Try.func68, Try.ntmps68
  go_upto_region 1 with fail
  refine wp_gen (fun W => NX w B (.slice a ([] : List Int).length c) false false [] W) HS.out ?_
  rintro W nx
  clear HS
  have b0 := nx.b0
  have b1 := nx.b1
  have b2 := nx.b2
  have bf := nx.bf
  have r0 := nx.r0
  have r1 := nx.r1
  have r2 := nx.r2
  have rf := nx.rf
  have lt := nx.lt
  have own := nx.own
  have NH := Hid.mk' nx
  clear nx
  have q1 : w.heap.size ≠ w.heap.size + 1 := by omega
  go_wp2
  exact bodyPost_ret (v := opV (.slice a 0 c) true false) (by simp [results, Try.results68, go_sem, r0, r1, r2, q1]) rfl ⟨_, rfl, ((NH.out.flag hB true).1.fin hB)⟩
set_option maxHeartbeats 2000000 in
theorem next_5z (B : Nat) (kv : Value) (m : List Int) (z : Int) (w : World) (hB : B ≤ w.heap.size) (hl : m.length ≤ 4194304) (hz : z = 0) (h : w.ownsRow B 2 1 kv (m ++ [z]).length (I (m ++ [z]))) : Calls Try.prog 68 #[opV kv false false, .int .i64 5] w fun e w' => ∃ va vn vc, e = .returned (opV (.slice va vn vc) false true) ∧ Below B w w' := by
  rw [show (m ++ [z]).length = m.length + 1 by simp] at h
  obtain ⟨r, cap, rfl, hr, hr2, hcap⟩ := ownE_split h (by omega)
  have h' : w.ownsRow B 2 1 (.slice (some ⟨r, 0, none⟩) (m.length + 1) cap) (m ++ [z]).length (I (m ++ [z])) := by rw [show (m ++ [z]).length = m.length + 1 by simp]; exact h
  have HS := Hid.mk' (NX.start (dn := false) (bd := false) h' hB)
  clear h h'
  go_enter Try.func68, Try.ntmps68
  go_upto_region 1 with fail
  refine wp_gen (fun W => NX w B (.slice (some ⟨r, 0, none⟩) (m.length + 1) cap) false false (m ++ [z]) W) HS.out ?_
  rintro W nx
  clear HS
  have b0 := nx.b0
  have b1 := nx.b1
  have b2 := nx.b2
  have bf := nx.bf
  have r0 := nx.r0
  have r1 := nx.r1
  have r2 := nx.r2
  have rf := nx.rf
  have lt := nx.lt
  have own := nx.own
  have NH := Hid.mk' nx
  clear nx
  have own2 := own
  rw [show (m ++ [z]).length = m.length + 1 by simp] at own2
  have cz : W.cell? ⟨r, m.length, none⟩ = some (.int .i64 z) := by
    rw [own2.cellAt m.length (by omega)]; simp
  have fz := own2.frozenAt m.length
  clear own2
  have hw : IntKind.i64.wrap (((m.length + 1 : Nat) : Int) - 1) = m.length := by rw [IntKind.wrap_i64]; omega
  have p1 : ((((m.length + 1 : Nat) : Int)) == 0) = false := by simp; omega
  have p2 : (m.length : Int) < ((m.length + 1 : Nat) : Int) := by omega
  have p3 : (m.length : Int) ≤ (cap : Int) := by omega
  have q1 : w.heap.size ≠ w.heap.size + 1 := by omega
  have q2 : r ≠ w.heap.size := fun e => NH.out.n0 (by simp [Value.ownBlock, e])
  have q3 : r ≠ w.heap.size + 1 := fun e => NH.out.n1 (by simp [Value.ownBlock, e])
  clear own
  subst hz
  go_wp2
  exact bodyPost_ret (v := opV (.slice (some ⟨r, 0, none⟩) (m.length + 1) cap) false true) (by simp [results, Try.results68, go_sem, r0, r1, r2, q1]) rfl ⟨_, _, _, rfl, ((NH.out.flag hB true).2.fin hB).2⟩
set_option maxHeartbeats 2000000 in
theorem next_5 (B : Nat) (kv : Value) (m : List Int) (z : Int) (w : World) (hB : B ≤ w.heap.size) (hl : m.length ≤ 4194304) (hz : z ≠ 0) (h : w.ownsRow B 2 1 kv (m ++ [z]).length (I (m ++ [z]))) : Calls Try.prog 68 #[opV kv false false, .int .i64 5] w fun e w' => ∃ kv', e = .returned (opV kv' false false) ∧ w'.ownsRow B 2 1 kv' (m ++ [0]).length (I (m ++ [0])) ∧ Below B w w' := by
  rw [show (m ++ [z]).length = m.length + 1 by simp] at h
  obtain ⟨r, cap, rfl, hr, hr2, hcap⟩ := ownE_split h (by omega)
  have h' : w.ownsRow B 2 1 (.slice (some ⟨r, 0, none⟩) (m.length + 1) cap) (m ++ [z]).length (I (m ++ [z])) := by rw [show (m ++ [z]).length = m.length + 1 by simp]; exact h
  have HS := Hid.mk' (NX.start (dn := false) (bd := false) h' hB)
  clear h h'
  go_enter Try.func68, Try.ntmps68
  go_upto_region 1 with fail
  refine wp_gen (fun W => NX w B (.slice (some ⟨r, 0, none⟩) (m.length + 1) cap) false false (m ++ [z]) W) HS.out ?_
  rintro W nx
  clear HS
  have b0 := nx.b0
  have b1 := nx.b1
  have b2 := nx.b2
  have bf := nx.bf
  have r0 := nx.r0
  have r1 := nx.r1
  have r2 := nx.r2
  have rf := nx.rf
  have lt := nx.lt
  have own := nx.own
  have NH := Hid.mk' nx
  clear nx
  have own2 := own
  rw [show (m ++ [z]).length = m.length + 1 by simp] at own2
  have cz : W.cell? ⟨r, m.length, none⟩ = some (.int .i64 z) := by
    rw [own2.cellAt m.length (by omega)]; simp
  have fz := own2.frozenAt m.length
  clear own2
  have hw : IntKind.i64.wrap (((m.length + 1 : Nat) : Int) - 1) = m.length := by rw [IntKind.wrap_i64]; omega
  have p1 : ((((m.length + 1 : Nat) : Int)) == 0) = false := by simp; omega
  have p2 : (m.length : Int) < ((m.length + 1 : Nat) : Int) := by omega
  have p3 : (m.length : Int) ≤ (cap : Int) := by omega
  have q1 : w.heap.size ≠ w.heap.size + 1 := by omega
  have q2 : r ≠ w.heap.size := fun e => NH.out.n0 (by simp [Value.ownBlock, e])
  have q3 : r ≠ w.heap.size + 1 := fun e => NH.out.n1 (by simp [Value.ownBlock, e])
  clear own
  have hz1 : (z == 0) = false := by simpa using hz
  go_wp2
  exact bodyPost_ret (v := opV (.slice (some ⟨r, 0, none⟩) (m.length + 1) cap) false false) (by simp [results, Try.results68, go_sem, r0, r1, r2, q1, q2, q3]) rfl ⟨_, rfl, (NH.out.set hr 0).fin hB⟩
set_option maxHeartbeats 2000000 in
theorem next_11 (B : Nat) (kv : Value) (m : List Int) (z : Int) (w : World) (hB : B ≤ w.heap.size) (hl : m.length ≤ 4194304) (h : w.ownsRow B 2 1 kv (m ++ [z]).length (I (m ++ [z]))) : Calls Try.prog 68 #[opV kv false false, .int .i64 11] w fun e w' => ∃ kv', e = .returned (opV kv' false false) ∧ w'.ownsRow B 2 1 kv' m.length (I m) ∧ Below B w w' := by
  rw [show (m ++ [z]).length = m.length + 1 by simp] at h
  obtain ⟨r, cap, rfl, hr, hr2, hcap⟩ := ownE_split h (by omega)
  have h' : w.ownsRow B 2 1 (.slice (some ⟨r, 0, none⟩) (m.length + 1) cap) (m ++ [z]).length (I (m ++ [z])) := by rw [show (m ++ [z]).length = m.length + 1 by simp]; exact h
  have HS := Hid.mk' (NX.start (dn := false) (bd := false) h' hB)
  clear h h'
  go_enter Try.func68, Try.ntmps68
  go_upto_region 1 with fail
  refine wp_gen (fun W => NX w B (.slice (some ⟨r, 0, none⟩) (m.length + 1) cap) false false (m ++ [z]) W) HS.out ?_
  rintro W nx
  clear HS
  have b0 := nx.b0
  have b1 := nx.b1
  have b2 := nx.b2
  have bf := nx.bf
  have r0 := nx.r0
  have r1 := nx.r1
  have r2 := nx.r2
  have rf := nx.rf
  have lt := nx.lt
  have own := nx.own
  have NH := Hid.mk' nx
  clear nx
  have own2 := own
  rw [show (m ++ [z]).length = m.length + 1 by simp] at own2
  have cz : W.cell? ⟨r, m.length, none⟩ = some (.int .i64 z) := by
    rw [own2.cellAt m.length (by omega)]; simp
  have fz := own2.frozenAt m.length
  clear own2
  have hw : IntKind.i64.wrap (((m.length + 1 : Nat) : Int) - 1) = m.length := by rw [IntKind.wrap_i64]; omega
  have p1 : ((((m.length + 1 : Nat) : Int)) == 0) = false := by simp; omega
  have p2 : (m.length : Int) < ((m.length + 1 : Nat) : Int) := by omega
  have p3 : (m.length : Int) ≤ (cap : Int) := by omega
  have q1 : w.heap.size ≠ w.heap.size + 1 := by omega
  have q2 : r ≠ w.heap.size := fun e => NH.out.n0 (by simp [Value.ownBlock, e])
  have q3 : r ≠ w.heap.size + 1 := fun e => NH.out.n1 (by simp [Value.ownBlock, e])
  clear own
  go_wp2
  exact bodyPost_ret (v := opV (.slice (some ⟨r, 0, none⟩) m.length cap) false false) (by simp [results, Try.results68, go_sem, r0, r1, r2, q1, q2, q3]) rfl ⟨_, rfl, (NH.out.drop hB).fin hB⟩
set_option maxHeartbeats 2000000 in
theorem next_same (B : Nat) (kv : Value) (ks : List Int) (op : Int) (w : World) (hB : B ≤ w.heap.size) (o1 : op ≠ 2) (o2 : op ≠ 3) (o3 : op ≠ 4) (o4 : op ≠ 5) (o5 : op ≠ 11) (h : w.ownsRow B 2 1 kv ks.length (I ks)) : Calls Try.prog 68 #[opV kv false false, .int .i64 op] w fun e w' => ∃ kv', e = .returned (opV kv' false false) ∧ w'.ownsRow B 2 1 kv' ks.length (I ks) ∧ Below B w w' := by
  obtain ⟨a, c, rfl⟩ := ownE_slice h
  have HS := Hid.mk' (NX.start (dn := false) (bd := false) h hB)
  clear h
  go_enter Try.func68, Try.ntmps68
  go_upto_region 1 with fail
  refine wp_gen (fun W => NX w B (.slice a ks.length c) false false ks W) HS.out ?_
  rintro W nx
  clear HS
  have b0 := nx.b0
  have b1 := nx.b1
  have b2 := nx.b2
  have bf := nx.bf
  have r0 := nx.r0
  have r1 := nx.r1
  have r2 := nx.r2
  have rf := nx.rf
  have lt := nx.lt
  have own := nx.own
  have NH := Hid.mk' nx
  clear nx
  have q1 : w.heap.size ≠ w.heap.size + 1 := by omega
  have p1 : (op == 2) = false := by simpa using o1
  have p2 : (op == 3) = false := by simpa using o2
  have p3 : (op == 4) = false := by simpa using o3
  have p4 : (op == 5) = false := by simpa using o4
  have p5 : (op == 11) = false := by simpa using o5
  go_wp2
  exact bodyPost_ret (v := opV (.slice a ks.length c) false false) (by simp [results, Try.results68, go_sem, r0, r1, r2, q1]) rfl ⟨_, rfl, NH.out.fin hB⟩
end Go.Proofs.Yteaegmlnacnofaa
