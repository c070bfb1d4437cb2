import Derived.Test.YtfaajmhmcdoibaaWq13
import Derived.Test.YtfaajmhmcdoibaaMk12
import Derived.Test.YtfaajmhmcdoibaaTq4
import Derived.Deep.CutRange
set_option linter.all false
set_option linter.unusedVariables false
namespace Go.Proofs.Ytfaajmhmcdoibaa
open Go.RowKit Go.Sort
set_option maxRecDepth 100000
/-- A state's value, and what hangs on it. -/
def MV (w : World) (v : Value) (x : Sta) : Prop := ∃ a1 c1 a2 c2, v = .agg #[.int .i64 x.st, .int .i64 x.tr, .slice a1 x.stk.length c1, .slice a2 x.frs.length c2] ∧ Sta.Is 0 w x a1 a2
theorem MV.keep {w w1 : World} {v : Value} {x : Sta} (h : MV w v x) (hb : Below w.heap.size w w1) : MV w1 v x := by
  obtain ⟨a1, c1, a2, c2, e, hi⟩ := h
  exact ⟨a1, c1, a2, c2, e, hi.up (up_below hb)⟩
theorem eqMV_c (v v' : Value) (x : Sta) (w : World) (hl : Sta.LB 1048576 x) (h : MV w v x) (h' : MV w v' x) :
    Calls Try.prog 10 #[v, v'] w fun e w' => e = .returned (.bool true) ∧ Below w.heap.size w w' := by
  obtain ⟨a1, c1, a2, c2, rfl, hi⟩ := h
  obtain ⟨a1', c1', a2', c2', rfl, hi'⟩ := h'
  exact reSta_c x a1 c1 a2 c2 a1' c1' a2' c2' w hi hi' hl
theorem imgM_len (x : Sta) : (imgM x).length ≤ 1000002 := by
  unfold imgM
  split
  · rename_i h
    simp only [Bool.and_eq_true, decide_eq_true_eq] at h
    have := h.2
    unfold IM at this
    simp only [List.length_append, List.length_cons, List.length_nil]
    omega
  · exact Nat.zero_le _
/-- A row of bytes as a value, its block told by P. -/
def BR (V : World) (v : Value) (L : List Int) (P : Nat → Prop) : Prop := ∃ a c, v = .slice a L.length c ∧ (L = [] ∨ ∃ g, a = some ⟨g, 0, none⟩ ∧ P g ∧ g < V.heap.size ∧ ∀ i, i < L.length → V.cell? ⟨g, i, none⟩ = some (.int .u8 (L.getD i 0)))
theorem BR.has {V : World} {v : Value} {L : List Int} {P : Nat → Prop} (h : BR V v L P) : ∃ a c, v = .slice a L.length c ∧ By.Has V a L := by
  obtain ⟨a, c, e, h⟩ := h
  refine ⟨a, c, e, h.imp id ?_⟩
  rintro ⟨g, e, _, _, hc⟩
  exact ⟨g, 0, e, fun i hi => by rw [Nat.zero_add]; exact hc i hi⟩
theorem BR.keep {V V' : World} {v : Value} {L : List Int} {P : Nat → Prop} (h : BR V v L P) (hs : V.heap.size ≤ V'.heap.size) (hk : ∀ k, P k → k < V.heap.size → V'.heap[k]? = V.heap[k]?) : BR V' v L P := by
  obtain ⟨a, c, e, h⟩ := h
  refine ⟨a, c, e, h.imp id ?_⟩
  rintro ⟨g, e, hp, hg, hc⟩
  exact ⟨g, e, hp, Nat.lt_of_lt_of_le hg hs, fun i hi => (World.cell?_of_block (hk g hp hg)).trans (hc i hi)⟩
theorem BR.below {V V' : World} {v : Value} {L : List Int} {P : Nat → Prop} (h : BR V v L P) (hb : Below V.heap.size V V') : BR V' v L P := h.keep hb.size (fun k _ hk => hb.block k hk)
theorem own_br {V : World} {v : Value} {L : List Int} {B : Nat} (h : V.ownsRow B 5 1 v L.length (U L)) : BR V v L (fun k => B ≤ k ∧ k < V.heap.size) := by
  rcases h.2 with ⟨h0, h1⟩ | ⟨g, cap, cur, hv, hB, hh, _⟩
  · exact ⟨none, 0, by rw [h1]; exact h0, .inl (List.eq_nil_of_length_eq_zero h1)⟩
  · subst hv
    have hg := (h.lt g rfl).2
    refine ⟨_, cap, rfl, .inr ⟨g, rfl, ⟨hB, hg⟩, hg, fun i hi => ?_⟩⟩
    rw [h.cellAt i (by omega)]
    simp [U, List.getD, hi]
def ResE (w : World) (B : Nat) (v : Value) (M : List Int) : Prop := w.ownsRow B 5 1 v M.length (U M)
theorem ResE.blk {V V' : World} {B : Nat} {v : Value} {L : List Int} (h : ResE V B v L) (hk : ∀ k, v.ownBlock = some k → V'.heap[k]? = V.heap[k]?) : ResE V' B v L := by
  refine ⟨h.1, ?_⟩
  rcases h.2 with h0 | ⟨g, cap, cur, hv, hB, hh, r⟩
  · exact .inl h0
  · subst hv
    exact .inr ⟨g, cap, cur, rfl, hB, (hk g rfl).trans hh, r⟩
theorem ResE.lt {V : World} {B : Nat} {v : Value} {L : List Int} (h : ResE V B v L) : ∀ k, v.ownBlock = some k → B ≤ k ∧ k < V.heap.size := fun k hk => World.ownsRow.lt h k hk
theorem ResE.br {V : World} {B : Nat} {v : Value} {L : List Int} (h : ResE V B v L) : BR V v L (fun k => v.ownBlock = some k) := by
  obtain ⟨a, c, e, h'⟩ := own_br h
  refine ⟨a, c, e, h'.imp id ?_⟩
  rintro ⟨g, ea, _, hg, hc⟩
  exact ⟨g, ea, by subst e; subst ea; rfl, hg, hc⟩
set_option maxHeartbeats 400000 in
theorem markB_nil (a : Option Addr) (cap : Nat) (w : World) :
    Calls Try.prog 12 #[.slice a 0 cap, .int .i64 1] w fun e w' => e = .returned (.int .i64 1) ∧ w = w' := by
  go_enter Try.func12, Try.ntmps12
  go_wp2
  refine wp_loop_rounds 1 ?_
  rw [rounds_succ]
  go_wp2
  go_ret
  exact ⟨rfl, rfl⟩
theorem markRes (B : Nat) (v : Value) (L : List Int) (V : World) (hl : L.length ≤ 1099511627776) (h : ResE V B v L) :
    Calls Try.prog 12 #[v, .int .i64 1] V fun e V' => e = .returned (.int .i64 (1 + (L.length : Int))) ∧ BR V' v (By.marks 1 L.length) (fun k => v.ownBlock = some k) ∧ V.grownBy V' v.ownBlock := by
  by_cases h0 : L.length = 0
  · obtain ⟨a, c, e⟩ := ownE_slice h
    subst e
    have e0 : L = [] := List.eq_nil_of_length_eq_zero h0
    subst e0
    refine (markB_nil a c V).mono ?_
    rintro e V' ⟨rfl, rfl⟩
    exact ⟨rfl, ⟨a, c, rfl, .inl rfl⟩, World.grownBy.refl _ _⟩
  · obtain ⟨g, cap, rfl, hB, hg⟩ := By.own_split h (by omega)
    refine (By.mark_any B g L.length cap L V hl h).mono ?_
    rintro e V' ⟨he, ho, hgr⟩
    refine ⟨he, ?_, hgr⟩
    have ho2 : V'.ownsRow B 5 1 (.slice (some ⟨g, 0, none⟩) (By.marks 1 L.length).length cap) (By.marks 1 L.length).length (U (By.marks 1 L.length)) := by rw [By.marks_len]; exact ho
    obtain ⟨a, c, e, h'⟩ := own_br ho2
    rw [By.marks_len] at e
    refine ⟨a, c, by rw [By.marks_len]; exact e, h'.imp id ?_⟩
    rintro ⟨g2, ea, _, hg, hc⟩
    injection e with e1 e2 e3
    subst e1
    injection ea with ea
    injection ea with ea
    subst ea
    exact ⟨g, rfl, rfl, hg, hc⟩
theorem Bk.of {V : World} {g : Nat} {cs : List Value} (h : Bk V g cs) {V' : World} (hs : V.heap.size ≤ V'.heap.size) (hk : V'.heap[g]? = V.heap[g]?) : Bk V' g cs :=
  ⟨Nat.lt_of_lt_of_le h.1 hs, fun j v hv => (World.cell?_of_block hk).trans (h.2.1 j v hv), fun j => (World.frozen?_of_block hk).trans (h.2.2 j)⟩
theorem toNF_c (v : Value) (x : Sta) (w : World) (hl : Sta.LB 1048576 x) (h : MV w v x) :
    Calls Try.prog 7 #[v] w fun e w' => ∃ v', e = .returned v' ∧ (∃ ba1 bd1 ba2 bd2, v' = .agg #[.int .i64 x.st, .int .i64 x.tr, .slice ba1 x.stk.length bd1, .slice ba2 x.frs.length bd2] ∧ Sta.Is w.heap.size w' x ba1 ba2) ∧ NF.Below w.heap.size w w' := by
  obtain ⟨a1, c1, a2, c2, rfl, hi⟩ := h
  refine (NF.rtSta_c x a1 c1 a2 c2 w hi hl).mono ?_
  rintro e w' ⟨b1, b2, rfl, hi', hb⟩
  exact ⟨_, rfl, ⟨_, _, _, _, rfl, hi'⟩, hb⟩
theorem toMVn_c (v : Value) (x : Sta) (w : World) (hl : Sta.LB 1048576 x) (h : MV w v x) :
    Calls Try.prog 7 #[v] w fun e w' => ∃ v', e = .returned v' ∧ MV w' v' x ∧ Below w.heap.size w w' := by
  refine (toNF_c v x w hl h).mono ?_
  rintro e w' ⟨v', rfl, ⟨ba1, bd1, ba2, bd2, rfl, hi⟩, hb⟩
  exact ⟨_, rfl, ⟨_, _, _, _, rfl, hi.mono (Nat.zero_le _)⟩, hb.bw⟩
theorem sencMV_c (v : Value) (x : Sta) (w : World) (hl : Sta.LB 1048576 x) (hp : x.Vs) (hs : x.sz ≤ 1048576) (h : MV w v x) :
    Calls Try.prog 6 #[v] w fun e w' => ∃ u, e = .returned u ∧ w'.ownsRow w.heap.size 5 1 u (imgM x).length (U (imgM x)) ∧ Below w.heap.size w w' := by
  obtain ⟨a1, c1, a2, c2, rfl, hi⟩ := h
  exact sput_c x a1 c1 a2 c2 w hi hl (by omega) hp
theorem iencMV_c (v : Value) (x : Sta) (w : World) (hl : Sta.LB 1048576 x) (hp : x.Vs) (hs : x.sz ≤ 1048576) (h : MV w v x) :
    Calls Try.prog 8 #[v] w fun e w' => ∃ u, e = .returned u ∧ ResE w' w.heap.size u (imgM x) ∧ Below w.heap.size w w' := by
  obtain ⟨a1, c1, a2, c2, rfl, hi⟩ := h
  exact iput_c x a1 c1 a2 c2 w hi hl (by omega) hp
theorem eqBR_c (v v' : Value) (L : List Int) (P P' : Nat → Prop) (w : World) (hl : L.length ≤ 400000000000) (h : BR w v L P) (h' : BR w v' L P') :
    Calls Try.prog 9 #[v, v'] w fun e w' => e = .returned (.bool true) ∧ Below w.heap.size w w' := by
  obtain ⟨a, c, rfl, k⟩ := h.has
  obtain ⟨a', c', rfl, k'⟩ := h'.has
  refine (By.eq_any a a' c c' L w (by omega) k k').mono ?_
  rintro e w' ⟨rfl, n, rfl⟩
  exact ⟨rfl, below_drewN' (Below.refl _ _) n⟩
theorem heldBR_c (v : Value) (n : Nat) (P : Nat → Prop) (w : World) (hl : n ≤ 400000000000) (h : BR w v (By.marks 1 n) P) :
    Calls Try.prog 13 #[v, .int .i64 1] w fun e w' => e = .returned (.int .i64 (1 + (n : Int))) ∧ w = w' := by
  obtain ⟨a, c, rfl, k⟩ := h.has
  rw [By.marks_len]
  exact By.held_any a c n w (by omega) k
theorem mk_of {W3 W4 V : World} (h : NF.Below W3.heap.size W3 W4) (hb : Below W4.heap.size W4 V) : Mk W3.heap.size W4 V := by
  have K : ∀ b o v, W4.cell? ⟨b, o, none⟩ = some v → V.cell? ⟨b, o, none⟩ = some v := fun b o v hv => (hb.cell (p := ⟨b, o, none⟩) (World.block_lt_of_cell? W4 _ hv)).trans hv
  refine ⟨fun b o a n c hc => K _ _ _ hc, fun b o v hc => ⟨v, K _ _ _ hc⟩, fun b o hB hl => ?_, hb.size, h.size⟩
  rw [hb.frozen (p := ⟨b, o, none⟩) hl]
  cases hf : W4.frozen? ⟨b, o, none⟩ with
  | false => rfl
  | true =>
    have := h.nz _ hf
    have hn : W3.heap[b]? = none := Array.getElem?_eq_none hB
    simp [World.frozen?, hn] at this
set_option maxHeartbeats 16000000 in
theorem lawPut (x : Sta) (a1 : Option Addr) (c1 : Nat) (a2 : Option Addr) (c2 : Nat) (w : World) (hI : Sta.Is 0 w x a1 a2) (hl : Sta.LB 9223372036854775807 x) (hp : x.Vs) :
    Calls Try.prog 3 #[.agg #[.int .i64 x.st, .int .i64 x.tr, .slice a1 x.stk.length c1, .slice a2 x.frs.length c2]] w fun e w' => e = .returned (.bool true) ∧ Below w.heap.size w w' := by
  have hv : MV w (.agg #[.int .i64 x.st, .int .i64 x.tr, .slice a1 x.stk.length c1, .slice a2 x.frs.length c2]) x := ⟨_, _, _, _, rfl, hI⟩
  have HV := Hid.mk' hv
  have KZ := Hid.mk' (fun (V : World) (h : Below w.heap.size w V) => qzSta_c x a1 c1 a2 c2 1048576 V (by omega) (by omega) (hI.up (up_below h)) hl)
  have PP := Hid.mk' hp
  clear hI hl hp hv
  go_enter Try.func3, Try.ntmps3
  go_upto_region 1 with fail
  refine wp_gen (fun W => Bk W w.heap.size [.int .i64 x.st, .int .i64 x.tr, .slice a1 x.stk.length c1, .slice a2 x.frs.length c2] ∧ Below w.heap.size w W) ⟨Bk.new, (Below.refl _ _).alloc (Nat.le_refl _) _⟩ ?_
  rintro W0 ⟨bb, hb⟩
  have q0 : W0.cell? ⟨w.heap.size, 0, none⟩ = some (.int .i64 x.st) := bb.2.1 0 _ rfl
  have q1 : W0.cell? ⟨w.heap.size, 1, none⟩ = some (.int .i64 x.tr) := bb.2.1 1 _ rfl
  have q2 : W0.cell? ⟨w.heap.size, 2, none⟩ = some (.slice a1 x.stk.length c1) := bb.2.1 2 _ rfl
  have q3 : W0.cell? ⟨w.heap.size, 3, none⟩ = some (.slice a2 x.frs.length c2) := bb.2.1 3 _ rfl
  have KZ0 := Hid.mk' (KZ.out _ hb)
  go_wp2_with fail
  with_reducible refine KZ0.out.mono ?_
  rintro e W1 ⟨r, rfl, b1, hr⟩
  have hb1 := hb.trans (b1.mono hb.size)
  have bb1 := bb.keep b1
  clear KZ0 KZ b1 hb bb q0 q1 q2 q3
  rcases hr with rfl | ⟨r0, r1, hl⟩
  · clear bb1
    go_wp2
    go_ret
    exact ⟨rfl, hb1⟩
  have f : ¬ r < 0 := by omega
  have hs : x.sz ≤ 1048576 := by omega
  have KT := Hid.mk' (fun (V : World) (h : Below w.heap.size w V) => toNF_c _ x V hl (HV.out.keep h))
  have KT2 := Hid.mk' (fun (V : World) (h : Below w.heap.size w V) => toMVn_c _ x V hl (HV.out.keep h))
  have KS := Hid.mk' (fun (v : Value) (V : World) (h : MV V v x) => sencMV_c v x V hl PP.out hs h)
  have KI := Hid.mk' (fun (v : Value) (V : World) (h : MV V v x) => iencMV_c v x V hl PP.out hs h)
  have KE := Hid.mk' (fun (v v' : Value) (V : World) (h : MV V v x) (h' : MV V v' x) => eqMV_c v v' x V hl h h')
  have HSZ := Hid.mk' hs
  have hEl : (imgM x).length ≤ 400000000000 := by have := imgM_len x; omega
  clear hl PP hs
  generalize imgM x = E at *
  have BB := Hid.mk' bb1
  have hb := hb1
  have q0 : W1.cell? ⟨w.heap.size, 0, none⟩ = some (.int .i64 x.st) := bb1.2.1 0 _ rfl
  have q1 : W1.cell? ⟨w.heap.size, 1, none⟩ = some (.int .i64 x.tr) := bb1.2.1 1 _ rfl
  have q2 : W1.cell? ⟨w.heap.size, 2, none⟩ = some (.slice a1 x.stk.length c1) := bb1.2.1 2 _ rfl
  have q3 : W1.cell? ⟨w.heap.size, 3, none⟩ = some (.slice a2 x.frs.length c2) := bb1.2.1 3 _ rfl
  have KT0 := Hid.mk' (KT2.out _ hb)
  clear bb1 hb1
  go_wp2_with fail
  with_reducible refine KT0.out.mono ?_
  rintro e W2 ⟨v2, rfl, m2, b2⟩
  have hb2 := hb.trans (b2.mono hb.size)
  have bb2 := BB.out.keep b2
  have KS2 := Hid.mk' (KS.out _ _ m2)
  clear KT0 BB b2 hb q0 q1 q2 q3 m2 KS
  go_wp2_with fail
  with_reducible refine KS2.out.mono ?_
  rintro e W3 ⟨v3, rfl, ho3, b3⟩
  have hb3 := hb2.trans (b3.mono hb2.size)
  have bb3 := bb2.keep b3
  have R3 : Hid (BR W3 v3 E (fun k => k < W3.heap.size)) := by
    obtain ⟨a, c, e, h'⟩ := own_br ho3
    exact ⟨a, c, e, h'.imp id (fun ⟨g, h1, h2, h3, h4⟩ => ⟨g, h1, h3, h3, h4⟩)⟩
  clear KS2 b3 bb2 hb2 ho3
  have q0 : W3.cell? ⟨w.heap.size, 0, none⟩ = some (.int .i64 x.st) := bb3.2.1 0 _ rfl
  have q1 : W3.cell? ⟨w.heap.size, 1, none⟩ = some (.int .i64 x.tr) := bb3.2.1 1 _ rfl
  have q2 : W3.cell? ⟨w.heap.size, 2, none⟩ = some (.slice a1 x.stk.length c1) := bb3.2.1 2 _ rfl
  have q3 : W3.cell? ⟨w.heap.size, 3, none⟩ = some (.slice a2 x.frs.length c2) := bb3.2.1 3 _ rfl
  have KT0 := Hid.mk' (KT.out _ hb3)
  have BB := Hid.mk' bb3
  clear bb3
  go_wp2_with fail
  with_reducible refine KT0.out.mono ?_
  rintro e W4 ⟨v4, rfl, ⟨ba1, bd1, ba2, bd2, rfl, hi4⟩, n4⟩
  have b4' := n4.bw
  have hb4 := hb3.trans (b4'.mono hb3.size)
  have bb4 := BB.out.keep b4'
  have hz34 := n4.size
  have R4 : Hid (BR W4 v3 E (fun k => k < W3.heap.size)) := R3.out.keep hz34 (fun k hk _ => b4'.block k hk)
  have N4 := Hid.mk' n4
  have I4 := Hid.mk' hi4
  have hw3 : w.heap.size < W3.heap.size := BB.out.1
  clear KT0 BB b4' n4 hb3 q0 q1 q2 q3 R3
  obtain ⟨W5, hW5⟩ : ∃ W5, W5 = W4.alloc (.cells #[.int .i64 x.st, .int .i64 x.tr, .slice ba1 x.stk.length bd1, .slice ba2 x.frs.length bd2] 31) := ⟨_, rfl⟩
  obtain ⟨g5, hg5⟩ : ∃ g5, g5 = W4.heap.size := ⟨_, rfl⟩
  have b5 : Below W4.heap.size W4 W5 := by rw [hW5]; exact (Below.refl _ _).alloc (Nat.le_refl _) _
  have p5 : Bk W5 g5 [.int .i64 x.st, .int .i64 x.tr, .slice ba1 x.stk.length bd1, .slice ba2 x.frs.length bd2] := by rw [hW5, hg5]; exact Bk.new
  have m5 : MV W5 (.agg #[.int .i64 x.st, .int .i64 x.tr, .slice ba1 x.stk.length bd1, .slice ba2 x.frs.length bd2]) x := ⟨_, _, _, _, rfl, (hi4.mono (Nat.zero_le _)).up (up_below b5)⟩
  have hb5 := hb4.trans (b5.mono hb4.size)
  have hz5 : W5.heap.size = W4.heap.size + 1 := by rw [hW5]; simp
  have KI5 := Hid.mk' (KI.out _ _ m5)
  have HW5 := Hid.mk' hW5
  have HG5 := Hid.mk' hg5
  have M5 := Hid.mk' m5
  have P5 := Hid.mk' p5
  have BB5 := Hid.mk' (bb4.keep b5)
  have R5 := Hid.mk' (R4.out.below b5)
  have B45 := Hid.mk' b5
  have Z5 := Hid.mk' hz5
  clear hW5 hg5 m5 hi4 bb4 hb4 R4 b5 hz5
  go_upto_region 7 with fail
  rw [← HW5.out, ← HG5.out]
  clear HW5
  have s0 : W5.cell? ⟨g5, 0, none⟩ = some (.int .i64 x.st) := p5.2.1 0 _ rfl
  have s1 : W5.cell? ⟨g5, 1, none⟩ = some (.int .i64 x.tr) := p5.2.1 1 _ rfl
  have s2 : W5.cell? ⟨g5, 2, none⟩ = some (.slice ba1 x.stk.length bd1) := p5.2.1 2 _ rfl
  have s3 : W5.cell? ⟨g5, 3, none⟩ = some (.slice ba2 x.frs.length bd2) := p5.2.1 3 _ rfl
  clear p5
  go_wp2_with fail
  with_reducible refine KI5.out.mono ?_
  rintro e W6 ⟨v6, rfl, r6, b6⟩
  have hb6 := hb5.trans (b6.mono hb5.size)
  have M6 := Hid.mk' (M5.out.keep b6)
  have P6 := Hid.mk' (P5.out.keep b6)
  have BB6 := Hid.mk' (BB5.out.keep b6)
  have R36 := Hid.mk' (R5.out.below b6)
  have R66 := Hid.mk' r6
  have B46 := Hid.mk' (B45.out.trans (b6.mono B45.out.size))
  have KQ := Hid.mk' (eqBR_c v6 v3 E _ _ W6 hEl r6.br R36.out)
  clear KI5 M5 P5 BB5 b6 hb5 s0 s1 s2 s3 R5 B45 r6
  go_wp2_with fail
  with_reducible refine KQ.out.mono ?_
  rintro e W7 ⟨rfl, b7⟩
  have hb7 := hb6.trans (b7.mono hb6.size)
  have M7 := Hid.mk' (M6.out.keep b7)
  have P7 := Hid.mk' (P6.out.keep b7)
  have BB7 := Hid.mk' (BB6.out.keep b7)
  have R37 := Hid.mk' (R36.out.below b7)
  have R67 : Hid (ResE W7 W5.heap.size v6 E) := R66.out.blk (fun k hk => b7.block k (R66.out.lt k hk).2)
  have B47 := Hid.mk' (B46.out.trans (b7.mono B46.out.size))
  clear KQ M6 P6 BB6 R36 R66 B46 b7 hb6
  go_upto_region 10 with fail
  have bE : Below W7.heap.size W7 W7.drew := ⟨rfl, rfl, rfl, Nat.le_refl _, fun k hk => rfl⟩
  have bD : Below w.heap.size w W7.drew := ⟨hb7.os, hb7.tape, hb7.output, hb7.size, hb7.block⟩
  go_cut [31] from 27 to 31 (fun s V => s = .bool false ∧ Below W7.heap.size W7 V)
  case first =>
    have p6 := P7.out
    have bb := BB7.out
    have q0 : W7.cell? ⟨w.heap.size, 0, none⟩ = some (.int .i64 x.st) := bb.2.1 0 _ rfl
    have q1 : W7.cell? ⟨w.heap.size, 1, none⟩ = some (.int .i64 x.tr) := bb.2.1 1 _ rfl
    have q2 : W7.cell? ⟨w.heap.size, 2, none⟩ = some (.slice a1 x.stk.length c1) := bb.2.1 2 _ rfl
    have q3 : W7.cell? ⟨w.heap.size, 3, none⟩ = some (.slice a2 x.frs.length c2) := bb.2.1 3 _ rfl
    have s0 : W7.cell? ⟨g5, 0, none⟩ = some (.int .i64 x.st) := p6.2.1 0 _ rfl
    have s1 : W7.cell? ⟨g5, 1, none⟩ = some (.int .i64 x.tr) := p6.2.1 1 _ rfl
    have s2 : W7.cell? ⟨g5, 2, none⟩ = some (.slice ba1 x.stk.length bd1) := p6.2.1 2 _ rfl
    have s3 : W7.cell? ⟨g5, 3, none⟩ = some (.slice ba2 x.frs.length bd2) := p6.2.1 3 _ rfl
    clear p6 bb
    have KTD := Hid.mk' (KT2.out _ bD)
    have QB := Hid.mk' (fun V (h : Below W7.heap.size W7 V) => BB7.out.keep h)
    have QP := Hid.mk' (fun V (h : Below W7.heap.size W7 V) => P7.out.keep h)
    clear KT KT2
    go_region_with (first
      | (go_at_call 7; (with_reducible refine KTD.out.mono ?_); rintro e w7 ⟨v7, rfl, m7, bz7⟩; have ca : Below W7.heap.size W7 w7 := bE.trans (bz7.mono bE.size); have bq := QB.out _ ca; have pq := QP.out _ ca; have q0x : w7.cell? ⟨w.heap.size, 0, none⟩ = some (.int .i64 x.st) := bq.2.1 0 _ rfl; have q1x : w7.cell? ⟨w.heap.size, 1, none⟩ = some (.int .i64 x.tr) := bq.2.1 1 _ rfl; have q2x : w7.cell? ⟨w.heap.size, 2, none⟩ = some (.slice a1 x.stk.length c1) := bq.2.1 2 _ rfl; have q3x : w7.cell? ⟨w.heap.size, 3, none⟩ = some (.slice a2 x.frs.length c2) := bq.2.1 3 _ rfl; have s0x : w7.cell? ⟨g5, 0, none⟩ = some (.int .i64 x.st) := pq.2.1 0 _ rfl; have s1x : w7.cell? ⟨g5, 1, none⟩ = some (.int .i64 x.tr) := pq.2.1 1 _ rfl; have s2x : w7.cell? ⟨g5, 2, none⟩ = some (.slice ba1 x.stk.length bd1) := pq.2.1 2 _ rfl; have s3x : w7.cell? ⟨g5, 3, none⟩ = some (.slice ba2 x.frs.length bd2) := pq.2.1 3 _ rfl; clear bq pq)
      | (go_at_call 10; (with_reducible refine (KE.out _ _ _ ?hx ?hy).mono ?_); (case hx => exact M7.out.keep ca); (case hy => exact m7); rintro e w8 ⟨rfl, bz8⟩; have cc : Below W7.heap.size W7 w8 := ca.trans (bz8.mono ca.size)))
    all_goals
      go_wp2_with fail
      go_meet
      case rel => exact ⟨rfl, cc⟩
  case rest =>
    obtain ⟨rfl, b8⟩ := hcut
    have hb8 := hb7.trans (b8.mono hb7.size)
    have P8 := Hid.mk' (P7.out.keep b8)
    have BB8 := Hid.mk' (BB7.out.keep b8)
    have R38 := Hid.mk' (R37.out.below b8)
    have R68 : Hid (ResE wc W5.heap.size v6 E) := R67.out.blk (fun k hk => b8.block k (R67.out.lt k hk).2)
    have B48 := Hid.mk' (B47.out.trans (b8.mono B47.out.size))
    clear b8 bD bE hb7 M7 P7 BB7 R37 R67 B47 KE HV
    have KM := Hid.mk' (mkSta_c x ba1 bd1 ba2 bd2 W3.heap.size W4 wc I4.out (mk_of N4.out B48.out) HSZ.out)
    have p8 := P8.out
    have s0 : wc.cell? ⟨g5, 0, none⟩ = some (.int .i64 x.st) := p8.2.1 0 _ rfl
    have s1 : wc.cell? ⟨g5, 1, none⟩ = some (.int .i64 x.tr) := p8.2.1 1 _ rfl
    have s2 : wc.cell? ⟨g5, 2, none⟩ = some (.slice ba1 x.stk.length bd1) := p8.2.1 2 _ rfl
    have s3 : wc.cell? ⟨g5, 3, none⟩ = some (.slice ba2 x.frs.length bd2) := p8.2.1 3 _ rfl
    clear p8
    go_wp2_with fail
    with_reducible refine KM.out.mono ?_
    rintro e W9 ⟨kk, rfl, hkk, mb⟩
    have hkn : ¬ kk < 0 := by omega
    have bt := mb.bt
    have hb9 : Below w.heap.size w W9 := hb8.trans (bt.below.mono (by omega))
    have z8 : W4.heap.size ≤ wc.heap.size := B48.out.size
    have BB9 := Hid.mk' (BB8.out.of bt.size (bt.block _ (.inl hw3)))
    have R39 := Hid.mk' (R38.out.keep bt.size (fun k hk _ => bt.block k (.inl hk)))
    have R69 : Hid (ResE W9 W5.heap.size v6 E) := R68.out.blk (fun k hk => bt.block k (.inr ⟨by have := (R68.out.lt k hk).1; have := Z5.out; omega, (R68.out.lt k hk).2⟩))
    have KQ := Hid.mk' (eqBR_c v6 v3 E _ _ W9 hEl R69.out.br R39.out)
    clear KM mb bt hb8 BB8 R38 R68 B48 P8 s0 s1 s2 s3 I4 N4 hkk
    go_wp2_with fail
    with_reducible refine KQ.out.mono ?_
    rintro e W10 ⟨rfl, b10⟩
    have hb10 := hb9.trans (b10.mono hb9.size)
    have BB10 := Hid.mk' (BB9.out.keep b10)
    have R310 := Hid.mk' (R39.out.below b10)
    have R610 : Hid (ResE W10 W5.heap.size v6 E) := R69.out.blk (fun k hk => b10.block k (R69.out.lt k hk).2)
    have KK := Hid.mk' (markRes W5.heap.size v6 E W10 (by omega) R610.out)
    have L6 := Hid.mk' R610.out.lt
    clear KQ b10 hb9 BB9 R39 R69 R610
    go_wp2_with fail
    with_reducible refine KK.out.mono ?_
    rintro e W11 ⟨rfl, m11, gr⟩
    have blk : ∀ k, k < W5.heap.size → k < W10.heap.size → W11.heap[k]? = W10.heap[k]? := fun k hk hk2 => gr.block k hk2 (fun e => by have := (L6.out k e.symm).1; omega)
    have hz := Z5.out
    have hb11 : Below w.heap.size w W11 := hb10.grown gr hb10.size (fun k hk => by have := (L6.out k hk).1; omega)
    have BB11 := Hid.mk' (BB10.out.of gr.size (blk _ (by omega) BB10.out.1))
    have R311 := Hid.mk' (R310.out.keep gr.size (fun k hk hk2 => blk k (by omega) hk2))
    have MM11 := Hid.mk' m11
    have KH := Hid.mk' (heldBR_c v6 E.length _ W11 hEl m11)
    have hnn : ¬ (1 + (E.length : Int)) < 0 := by omega
    clear KK gr blk m11 hb10 BB10 R310 hz
    go_wp2_with fail
    with_reducible refine KH.out.mono ?_
    rintro e w12 ⟨rfl, rfl⟩
    have bb := BB11.out
    have q0 : W11.cell? ⟨w.heap.size, 0, none⟩ = some (.int .i64 x.st) := bb.2.1 0 _ rfl
    have q1 : W11.cell? ⟨w.heap.size, 1, none⟩ = some (.int .i64 x.tr) := bb.2.1 1 _ rfl
    have q2 : W11.cell? ⟨w.heap.size, 2, none⟩ = some (.slice a1 x.stk.length c1) := bb.2.1 2 _ rfl
    have q3 : W11.cell? ⟨w.heap.size, 3, none⟩ = some (.slice a2 x.frs.length c2) := bb.2.1 3 _ rfl
    have KT0 := Hid.mk' (KT2.out _ hb11)
    clear bb KH
    go_wp2_with fail
    with_reducible refine KT0.out.mono ?_
    rintro e W12 ⟨v12, rfl, m12, b12⟩
    have hb12 := hb11.trans (b12.mono hb11.size)
    have R312 := Hid.mk' (R311.out.below b12)
    have MM12 := Hid.mk' (MM11.out.below b12)
    have KI2 := Hid.mk' (KI.out _ _ m12)
    clear KT0 b12 hb11 R311 MM11 q0 q1 q2 q3 BB11 m12
    go_wp2_with fail
    with_reducible refine KI2.out.mono ?_
    rintro e W13 ⟨v13, rfl, r13, b13⟩
    have hb13 := hb12.trans (b13.mono hb12.size)
    have R313 := Hid.mk' (R312.out.below b13)
    have MM13 := Hid.mk' (MM12.out.below b13)
    have KQ := Hid.mk' (eqBR_c v13 v3 E _ _ W13 hEl r13.br R313.out)
    clear KI2 b13 hb12 R312 MM12 r13
    go_wp2_with fail
    with_reducible refine KQ.out.mono ?_
    rintro e W14 ⟨rfl, b14⟩
    have hb14 := hb13.trans (b14.mono hb13.size)
    have MM14 := Hid.mk' (MM13.out.below b14)
    have KH := Hid.mk' (heldBR_c v6 E.length _ W14 hEl MM14.out)
    clear KQ b14 hb13 MM13 R313
    go_wp2_with fail
    with_reducible refine KH.out.mono ?_
    rintro e w15 ⟨rfl, rfl⟩
    clear KH MM14
    go_wp2
    go_ret
    exact ⟨rfl, hb14⟩
end Go.Proofs.Ytfaajmhmcdoibaa
