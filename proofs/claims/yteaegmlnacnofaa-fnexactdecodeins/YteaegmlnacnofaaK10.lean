import Derived.Test.YteaegmlnacnofaaK8
import Derived.Maps.AppendAt
set_option linter.all false
set_option linter.unusedVariables false
namespace Go.Proofs.Yteaegmlnacnofaa
open Go.RowKit Go.Sort
set_option maxRecDepth 100000
def stepM (n : List Bool) (op : Int) : Option (List Bool) :=
  if n.isEmpty then none
  else if op = 2 ∨ op = 3 then some (n ++ [false])
  else if op = 4 then some (n ++ [true])
  else if op = 5 then (if n.getLast? = some true then some (n.dropLast ++ [false]) else none)
  else if op = 11 then some n.dropLast
  else some n
abbrev Bs (n : List Bool) : List Value := n.map Value.bool
theorem Try.info4 : (Try.prog.info? 4).map (fun i => (i.zero, i.size, i.bytes)) = some (some (.bool false), 1, 1) := by kernel_rfl
theorem oneV (b : Bool) : ∀ u ∈ [Value.bool b], u.oneCell' = true := by
  intro u hu; simp at hu; subst hu; rfl
theorem ownE_slice {w : World} {B e : Nat} {v : Value} {n : Nat} {zs : List Value} (h : w.ownsRow B e 1 v n zs) : ∃ a c, v = .slice a n c := by
  rcases h.2 with ⟨e, h0⟩ | ⟨g, cap, cur, hv, _⟩
  · rw [h0]; exact ⟨_, _, e⟩
  · exact ⟨_, _, hv⟩
theorem ownE_split {w : World} {B e : Nat} {v : Value} {n : Nat} {L : List Value} (h : w.ownsRow B e 1 v n L) (hn : 1 ≤ n) : ∃ g cap, v = .slice (some ⟨g, 0, none⟩) n cap ∧ B ≤ g ∧ g < w.heap.size ∧ n ≤ cap := by
  rcases h.2 with ⟨_, h0⟩ | ⟨g, cap, cur, hv, hB, hg, hc, _⟩
  · omega
  · exact ⟨g, cap, hv, hB, (Array.getElem?_eq_some_iff.1 hg).1, hc⟩
theorem ownE_take {w : World} {B e g cap n : Nat} {zs : List Value} (h : w.ownsRow B e 1 (.slice (some ⟨g, 0, none⟩) (n + 1) cap) (n + 1) zs) : w.ownsRow B e 1 (.slice (some ⟨g, 0, none⟩) n cap) n (zs.take n) := by
  rcases h.2 with ⟨h', _⟩ | ⟨g', cap', cur, h', hb, hg, hnc, hcm, hcs, htake⟩
  · simp at h'
  · simp only [Value.slice.injEq, Option.some.injEq, Addr.mk.injEq, and_true, true_and] at h'
    obtain ⟨rfl, rfl⟩ := h'
    have hl := h.1
    refine ⟨by simp; omega, .inr ⟨g, cap, cur, rfl, hb, hg, by omega, hcm, hcs, ?_⟩⟩
    rw [← htake, List.take_take]
    congr 1
    omega
theorem ownE_set {w : World} {B e : Nat} {v u : Value} {n b o : Nat} {zs : List Value} (h : w.ownsRow B e 1 v n zs) (hb : v.ownBlock ≠ some b) : (w.setCell ⟨b, o, none⟩ u).ownsRow B e 1 v n zs := by
  refine ⟨h.1, ?_⟩
  rcases h.2 with h0 | ⟨g', cap', cur, hv, hB, hh, r⟩
  · exact .inl h0
  · subst hv
    exact .inr ⟨g', cap', cur, rfl, hB, (Below.heap_setCell _ _ _ _ (fun e => hb (by simp [Value.ownBlock, e]))).trans hh, r⟩
theorem closed_c (a : Option Addr) (n c : Nat) (w : World) : Calls Try.prog 73 #[.slice a n c] w fun e w' => e = .returned (.bool (decide (n = 0))) ∧ w = w' := by
  by_cases h : n = 0
  · subst h
    go_enter Try.func73, Try.ntmps73
    go_wp2
    go_ret
    exact ⟨rfl, rfl⟩
  · have h1 : ((n : Int) == 0) = false := by simp; omega
    go_enter Try.func73, Try.ntmps73
    go_wp2
    go_ret
    exact ⟨by simp [h], rfl⟩
/-- The nest's cell g and its row. -/
structure Ne (B g : Nat) (v : Value) (n : List Bool) (w : World) : Prop where
  cell : w.cell? ⟨g, 0, none⟩ = some v
  froz : w.frozen? ⟨g, 0, none⟩ = false
  own : w.ownsRow B 4 1 v n.length (Bs n)
  ne : v.ownBlock ≠ some g
  ge : B ≤ g
  lt : g < w.heap.size
set_option maxHeartbeats 1000000 in
theorem step_nil (B g : Nat) (v : Value) (op : Int) (w : World) (h : Ne B g v [] w) : Calls Try.prog 72 #[.pointer (some ⟨g, 0, none⟩), .int .i64 op] w fun e w' => e = .returned (.bool false) ∧ Below B w w' := by
  obtain ⟨a, c, rfl⟩ := ownE_slice h.own
  have c0 := h.cell
  clear h
  have H := Hid.mk' (closed_c a 0 c)
  go_enter Try.func72, Try.ntmps72
  go_wp2_with (refine (H.out _).mono ?_; rintro e w1 ⟨rfl, rfl⟩)
  go_ret
  exact ⟨rfl, Below.refl _ _⟩
theorem Ne.pushed {B g : Nat} {v v' : Value} {n : List Bool} {z : Bool} {w w1 : World} {o : Obj} (h : Ne B g v n w) (ho : w1.ownsRow B 4 1 v' (n.length + 1) (Bs n ++ [.bool z])) (hg : (w.alloc o).grownBy w1 v.ownBlock) (hl : v'.ownBlock = v.ownBlock ∨ v'.ownBlock = some (w.alloc o).heap.size) :
    Ne B g v' (n ++ [z]) (w1.setCell ⟨g, 0, none⟩ v') ∧ Below B w (w1.setCell ⟨g, 0, none⟩ v') ∧ w1.cell? ⟨g, 0, none⟩ = some v ∧ w1.frozen? ⟨g, 0, none⟩ = false := by
  have lt := h.lt
  have hs := hg.size
  simp only [World.size_alloc] at hs
  have hb : w1.heap[g]? = w.heap[g]? := by
    rw [hg.block g (by simp; omega) (fun e => h.ne e.symm)]; exact heap_old w o g lt
  have c0 : w1.cell? ⟨g, 0, none⟩ = some v := (World.cell?_of_block hb).trans h.cell
  have f0 : w1.frozen? ⟨g, 0, none⟩ = false := (World.frozen?_of_block hb).trans h.froz
  have hne : v'.ownBlock ≠ some g := by
    rcases hl with e | e
    · rw [e]; exact h.ne
    · rw [e]; intro e'; injection e' with e'; simp at e'; omega
  refine ⟨⟨set_same c0, by rw [World.frozen?_setCell]; exact f0, ?_, hne, h.ge, by simp; omega⟩, ?_, c0, f0⟩
  · have : w1.ownsRow B 4 1 v' (n ++ [z]).length (Bs (n ++ [z])) := by simpa using ho
    exact ownE_set this hne
  · refine Below.setCell ?_ h.ge _
    refine (Below.alloc (Below.refl B w) (by have := h.ge; omega) o).grown hg (by have := h.ge; simp; omega) (fun j hj => (h.own.lt j hj).1)
set_option maxHeartbeats 2000000 in
theorem step_push (B g : Nat) (v : Value) (n : List Bool) (op : Int) (w : World) (h : Ne B g v n w) (hn : n ≠ []) (hl : n.length ≤ 4194304) (hop : op = 2 ∨ op = 3 ∨ op = 4) : Calls Try.prog 72 #[.pointer (some ⟨g, 0, none⟩), .int .i64 op] w fun e w' => ∃ v', e = .returned (.bool true) ∧ Ne B g v' (n ++ [op == 4]) w' ∧ Below B w w' := by
  obtain ⟨i0, hi, hz0, hz1, hz2⟩ := info_parts Try.info4
  have hpos : 0 < n.length := List.length_pos_iff.2 hn
  obtain ⟨a, c, rfl⟩ := ownE_slice h.own
  have c0 := h.cell
  have own := h.own
  have lt := h.lt
  have ge := h.ge
  have HN := Hid.mk' h
  have H := Hid.mk' (closed_c a n.length c)
  have hd : decide (n.length = 0) = false := by simp; omega
  rw [hd] at H
  clear h hd
  have hw : IntKind.i64.wrap ((n.length : Int) - 1) = (n.length : Int) - 1 := by rw [IntKind.wrap_i64]; omega
  rcases hop with rfl | rfl | rfl
  · go_enter Try.func72, Try.ntmps72
    go_wp2_with (first | (refine (H.out _).mono ?_; rintro e w1 ⟨rfl, rfl⟩) | (at_builtin; refine wpList_append_own_at _ rfl _ _ 116 rfl B 4 i0 (.bool false) 1 1 Try.underlying116 hi hz0 hz1 hz2 rfl (by decide) _ _ _ rfl (own.alloc _) ⟨w.heap.size, 0, none⟩ 1 1 [.bool false] rfl rfl (cell_one_new _ _ _) (oneV _) (by unfold maxLen; omega) (by omega) (by simp; omega) ?_; intro v' w2 hown' hgrow hnn hloc; have HO2 := Hid.mk' (HN.out.pushed hown' hgrow hloc); have d0 := HO2.out.2.2.1; have df := HO2.out.2.2.2; obtain ⟨va, vc, rfl⟩ := ownE_slice hown'; clear hown' hgrow hnn hloc own c0 HN))
    go_ret
    exact ⟨_, rfl, HO2.out.1, HO2.out.2.1⟩
  · go_enter Try.func72, Try.ntmps72
    go_wp2_with (first | (refine (H.out _).mono ?_; rintro e w1 ⟨rfl, rfl⟩) | (at_builtin; refine wpList_append_own_at _ rfl _ _ 116 rfl B 4 i0 (.bool false) 1 1 Try.underlying116 hi hz0 hz1 hz2 rfl (by decide) _ _ _ rfl (own.alloc _) ⟨w.heap.size, 0, none⟩ 1 1 [.bool false] rfl rfl (cell_one_new _ _ _) (oneV _) (by unfold maxLen; omega) (by omega) (by simp; omega) ?_; intro v' w2 hown' hgrow hnn hloc; have HO2 := Hid.mk' (HN.out.pushed hown' hgrow hloc); have d0 := HO2.out.2.2.1; have df := HO2.out.2.2.2; obtain ⟨va, vc, rfl⟩ := ownE_slice hown'; clear hown' hgrow hnn hloc own c0 HN))
    go_ret
    exact ⟨_, rfl, HO2.out.1, HO2.out.2.1⟩
  · go_enter Try.func72, Try.ntmps72
    go_wp2_with (first | (refine (H.out _).mono ?_; rintro e w1 ⟨rfl, rfl⟩) | (at_builtin; refine wpList_append_own_at _ rfl _ _ 116 rfl B 4 i0 (.bool false) 1 1 Try.underlying116 hi hz0 hz1 hz2 rfl (by decide) _ _ _ rfl (own.alloc _) ⟨w.heap.size, 0, none⟩ 1 1 [.bool true] rfl rfl (cell_one_new _ _ _) (oneV _) (by unfold maxLen; omega) (by omega) (by simp; omega) ?_; intro v' w2 hown' hgrow hnn hloc; have HO2 := Hid.mk' (HN.out.pushed hown' hgrow hloc); have d0 := HO2.out.2.2.1; have df := HO2.out.2.2.2; obtain ⟨va, vc, rfl⟩ := ownE_slice hown'; clear hown' hgrow hnn hloc own c0 HN))
    go_ret
    exact ⟨_, rfl, HO2.out.1, HO2.out.2.1⟩
theorem ne_facts {B g : Nat} {v : Value} {m : List Bool} {z : Bool} {w : World} (h : Ne B g v (m ++ [z]) w) : ∃ r cap, v = .slice (some ⟨r, 0, none⟩) (m.length + 1) cap ∧ B ≤ r ∧ r < w.heap.size ∧ m.length + 1 ≤ cap ∧ r ≠ g ∧ w.cell? ⟨r, m.length, none⟩ = some (.bool z) ∧ w.frozen? ⟨r, m.length, none⟩ = false ∧ w.cell? ⟨g, 0, none⟩ = some (.slice (some ⟨r, 0, none⟩) (m.length + 1) cap) ∧ w.frozen? ⟨g, 0, none⟩ = false ∧
    w.ownsRow B 4 1 (.slice (some ⟨r, 0, none⟩) (m.length + 1) cap) (m.length + 1) (Bs (m ++ [z])) := by
  have own := h.own
  rw [show (m ++ [z]).length = m.length + 1 by simp] at own
  obtain ⟨r, cap, rfl, h1, h2, h3⟩ := ownE_split own (by omega)
  refine ⟨r, cap, rfl, h1, h2, h3, fun e => h.ne (by simp [Value.ownBlock, e]), ?_, own.frozenAt _, h.cell, h.froz, own⟩
  rw [own.cellAt m.length (by omega)]
  simp
theorem Ne.set {B g : Nat} {v : Value} {m : List Bool} {z : Bool} {w : World} {r cap : Nat} (h : Ne B g v (m ++ [z]) w) (hv : v = .slice (some ⟨r, 0, none⟩) (m.length + 1) cap) (hrg : r ≠ g) (hr : B ≤ r) (z' : Bool) : Ne B g v (m ++ [z']) (w.setCell ⟨r, m.length, none⟩ (.bool z')) ∧ Below B w (w.setCell ⟨r, m.length, none⟩ (.bool z')) := by
  subst hv
  have own := h.own
  rw [show (m ++ [z]).length = m.length + 1 by simp] at own
  obtain ⟨s1, _⟩ := own.stored m.length (.bool z')
  refine ⟨⟨?_, by rw [World.frozen?_setCell]; exact h.froz, ?_, h.ne, h.ge, by simpa using h.lt⟩, (Below.refl _ _).setCell hr _⟩
  · rw [World.cell?_setCell_other _ _ _ _ (fun e => hrg (congrArg Addr.block e))]; exact h.cell
  · have e : (Bs (m ++ [z])).set m.length (.bool z') = Bs (m ++ [z']) := by
      simp only [Bs, List.map_append, List.map_cons, List.map_nil]
      rw [List.set_append_right _ _ (by simp)]; simp
    rw [e] at s1
    rw [show (m ++ [z']).length = m.length + 1 by simp]
    exact s1
theorem Ne.drop {B g : Nat} {v : Value} {m : List Bool} {z : Bool} {w : World} {r cap : Nat} (h : Ne B g v (m ++ [z]) w) (hv : v = .slice (some ⟨r, 0, none⟩) (m.length + 1) cap) (hrg : r ≠ g) (hr : B ≤ r) : Ne B g (.slice (some ⟨r, 0, none⟩) m.length cap) m (w.setCell ⟨g, 0, none⟩ (.slice (some ⟨r, 0, none⟩) m.length cap)) ∧ Below B w (w.setCell ⟨g, 0, none⟩ (.slice (some ⟨r, 0, none⟩) m.length cap)) := by
  subst hv
  have own := h.own
  rw [show (m ++ [z]).length = m.length + 1 by simp] at own
  have o2 := ownE_take own
  have e : (Bs (m ++ [z])).take m.length = Bs m := by simp [Bs]
  rw [e] at o2
  have hne : (Value.slice (some ⟨r, 0, none⟩) m.length cap).ownBlock ≠ some g := fun e => hrg (by simpa [Value.ownBlock] using e)
  exact ⟨⟨set_same h.cell, by rw [World.frozen?_setCell]; exact h.froz, ownE_set o2 hne, hne, h.ge, by simpa using h.lt⟩, (Below.refl _ _).setCell h.ge _⟩
set_option maxHeartbeats 2000000 in
theorem step_else (B g : Nat) (v : Value) (m : List Bool) (z : Bool) (w : World) (h : Ne B g v (m ++ [z]) w) (hl : m.length ≤ 4194304) : Calls Try.prog 72 #[.pointer (some ⟨g, 0, none⟩), .int .i64 5] w fun e w' => e = .returned (.bool z) ∧ (z = true → Ne B g v (m ++ [false]) w') ∧ Below B w w' := by
  obtain ⟨r, cap, hv, h1, h2, h3, h4, h5, h6, h7, h8, own⟩ := ne_facts h
  have HN := Hid.mk' (h.set hv h4 h1 false)
  have H := Hid.mk' (closed_c (some ⟨r, 0, none⟩) (m.length + 1) cap)
  have hd : decide (m.length + 1 = 0) = false := by simp
  rw [hd] at H
  clear h hd own
  have hw : IntKind.i64.wrap (((m.length + 1 : Nat) : Int) - 1) = m.length := by rw [IntKind.wrap_i64]; omega
  have q1 : (m.length : Int) < ((m.length + 1 : Nat) : Int) := by omega
  cases z
  · go_enter Try.func72, Try.ntmps72
    go_wp2_with (refine (H.out _).mono ?_; rintro e w1 ⟨rfl, rfl⟩)
    go_ret
    exact ⟨rfl, fun h => (by cases h), Below.refl _ _⟩
  · go_enter Try.func72, Try.ntmps72
    go_wp2_with (refine (H.out _).mono ?_; rintro e w1 ⟨rfl, rfl⟩)
    go_ret
    exact ⟨rfl, fun _ => HN.out.1, HN.out.2⟩
set_option maxHeartbeats 2000000 in
theorem step_end (B g : Nat) (v : Value) (m : List Bool) (z : Bool) (w : World) (h : Ne B g v (m ++ [z]) w) (hl : m.length ≤ 4194304) : Calls Try.prog 72 #[.pointer (some ⟨g, 0, none⟩), .int .i64 11] w fun e w' => ∃ v', e = .returned (.bool true) ∧ Ne B g v' m w' ∧ Below B w w' := by
  obtain ⟨r, cap, hv, h1, h2, h3, h4, h5, h6, h7, h8, own⟩ := ne_facts h
  have HN := Hid.mk' (h.drop hv h4 h1)
  have H := Hid.mk' (closed_c (some ⟨r, 0, none⟩) (m.length + 1) cap)
  have hd : decide (m.length + 1 = 0) = false := by simp
  rw [hd] at H
  clear h hd own
  have hw : IntKind.i64.wrap (((m.length + 1 : Nat) : Int) - 1) = m.length := by rw [IntKind.wrap_i64]; omega
  have q1 : m.length ≤ cap := by omega
  have q2 : (m.length : Int) ≤ (cap : Int) := by omega
  go_enter Try.func72, Try.ntmps72
  go_wp2_with (refine (H.out _).mono ?_; rintro e w1 ⟨rfl, rfl⟩)
  go_ret
  exact ⟨_, rfl, HN.out.1, HN.out.2⟩
set_option maxHeartbeats 2000000 in
theorem step_same (B g : Nat) (v : Value) (n : List Bool) (op : Int) (w : World) (h : Ne B g v n w) (hn : n ≠ []) (hl : n.length ≤ 4194304) (o1 : op ≠ 2) (o2 : op ≠ 3) (o3 : op ≠ 4) (o4 : op ≠ 5) (o5 : op ≠ 11) : Calls Try.prog 72 #[.pointer (some ⟨g, 0, none⟩), .int .i64 op] w fun e w' => e = .returned (.bool true) ∧ w = w' := by
  have hpos : 0 < n.length := List.length_pos_iff.2 hn
  obtain ⟨a, c, rfl⟩ := ownE_slice h.own
  have c0 := h.cell
  have H := Hid.mk' (closed_c a n.length c)
  have hd : decide (n.length = 0) = false := by simp; omega
  rw [hd] at H
  clear h hd
  have hw : IntKind.i64.wrap ((n.length : Int) - 1) = (n.length : Int) - 1 := by rw [IntKind.wrap_i64]; omega
  have p1 : (op == 2) = false := by simpa using o1
  have p2 : (op == 3) = false := by simpa using o2
  have p3 : (op == 4) = false := by simpa using o3
  have p4 : (op == 5) = false := by simpa using o4
  have p5 : (op == 11) = false := by simpa using o5
  go_enter Try.func72, Try.ntmps72
  go_wp2_with (refine (H.out _).mono ?_; rintro e w1 ⟨rfl, rfl⟩)
  go_ret
  exact ⟨rfl, rfl⟩
theorem step_c (B g : Nat) (v : Value) (n : List Bool) (op : Int) (w : World) (h : Ne B g v n w) (hl : n.length ≤ 4194304) : Calls Try.prog 72 #[.pointer (some ⟨g, 0, none⟩), .int .i64 op] w fun e w' => ∃ v', e = .returned (.bool (stepM n op).isSome) ∧ (∀ n', stepM n op = some n' → Ne B g v' n' w') ∧ Below B w w' := by
  by_cases hn : n = []
  · subst hn
    exact (step_nil B g v op w h).mono fun e w' ⟨a, b⟩ => ⟨v, a, fun n' e => by simp [stepM] at e, b⟩
  · have hne : n.isEmpty = false := by simpa using hn
    by_cases h1 : op = 2 ∨ op = 3
    · have e : stepM n op = some (n ++ [false]) := by simp [stepM, hn, h1]
      rw [e]
      have e4 : (op == 4) = false := by rcases h1 with rfl | rfl <;> rfl
      refine (step_push B g v n op w h hn hl (by omega)).mono fun e w' ⟨v', a, b, c⟩ => ⟨v', a, fun n' e => ?_, c⟩
      rw [e4] at b; cases e; exact b
    · by_cases h2 : op = 4
      · subst h2
        have e : stepM n 4 = some (n ++ [true]) := by simp [stepM, hn]
        rw [e]
        exact (step_push B g v n 4 w h hn hl (by omega)).mono fun e w' ⟨v', a, b, c⟩ => ⟨v', a, fun n' e => by cases e; exact b, c⟩
      · obtain ⟨m, z, rfl⟩ : ∃ m z, n = m ++ [z] := ⟨n.dropLast, n.getLast hn, (List.dropLast_concat_getLast hn).symm⟩
        have hl' : m.length ≤ 4194304 := by simp at hl; omega
        by_cases h3 : op = 5
        · subst h3
          have e : stepM (m ++ [z]) 5 = if z then some (m ++ [false]) else none := by cases z <;> simp [stepM]
          rw [e]
          refine (step_else B g v m z w h hl').mono fun e w' ⟨a, b, c⟩ => ⟨v, ?_, fun n' e => ?_, c⟩
          · rw [a]; cases z <;> rfl
          · cases z
            · cases e
            · cases e; exact b rfl
        · by_cases h4 : op = 11
          · subst h4
            have e : stepM (m ++ [z]) 11 = some m := by simp [stepM]
            rw [e]
            exact (step_end B g v m z w h hl').mono fun e w' ⟨v', a, b, c⟩ => ⟨v', a, fun n' e => by cases e; exact b, c⟩
          · have e : stepM (m ++ [z]) op = some (m ++ [z]) := by simp only [stepM, h1, h2, h3, h4, if_false]; simp
            rw [e]
            refine (step_same B g v (m ++ [z]) op w h hn hl (by omega) (by omega) h2 h3 h4).mono fun e w' ⟨a, b⟩ => ⟨v, a, fun n' e => ?_, ?_⟩
            · subst b; cases e; exact h
            · subst b; exact Below.refl _ _
end Go.Proofs.Yteaegmlnacnofaa
