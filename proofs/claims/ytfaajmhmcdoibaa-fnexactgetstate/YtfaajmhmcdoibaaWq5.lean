import Derived.Test.YtfaajmhmcdoibaaWq4
set_option linter.all false
set_option linter.unusedVariables false
namespace Go.Proofs.Ytfaajmhmcdoibaa
open Go.RowKit Go.Sort
set_option maxRecDepth 100000
theorem nilN (a : Addr) (w : World) : (nilAhead 251 60 (.pointer (some a)) "loop.example/s00119/impl.numbers").run Try.prog w = .ok (some false) w := by kernel_rfl
theorem metN (a : Addr) (w : World) : (method 251 60 (.pointer (some a)) "loop.example/s00119/impl.numbers").run Try.prog w = .ok (81, .pointer (some a)) w := by kernel_rfl
theorem nilM (a : Addr) (w : World) : (nilAhead 251 60 (.pointer (some a)) "loop.example/s00119/impl.mark").run Try.prog w = .ok (some false) w := by kernel_rfl
theorem metM (a : Addr) (w : World) : (method 251 60 (.pointer (some a)) "loop.example/s00119/impl.mark").run Try.prog w = .ok (80, .pointer (some a)) w := by kernel_rfl
theorem nilV (a : Addr) (w : World) : (nilAhead 251 60 (.pointer (some a)) "loop.example/s00119/impl.value").run Try.prog w = .ok (some false) w := by kernel_rfl
theorem metV (a : Addr) (w : World) : (method 251 60 (.pointer (some a)) "loop.example/s00119/impl.value").run Try.prog w = .ok (82, .pointer (some a)) w := by kernel_rfl
theorem nilS (a : Addr) (w : World) : (nilAhead 251 60 (.pointer (some a)) "loop.example/s00119/impl.stuck").run Try.prog w = .ok (some false) w := by kernel_rfl
theorem metS (a : Addr) (w : World) : (method 251 60 (.pointer (some a)) "loop.example/s00119/impl.stuck").run Try.prog w = .ok (28, .pointer (some a)) w := by kernel_rfl
theorem NP.trans {w w1 w2 : World} {p : Nat} {S : Nat → Prop} {xs xs1 : List Int} {b b1 o1 o2 : Bool} {ys1 ys2 : List Int} {c1 c2 : Nat} (hk : Kept S w w1) (hp : Wp xs b xs1 b1 o1 ys1 c1) (h2 : NP w1 p S xs1 b1 o2 ys2 c2 w2) : NP w p S xs b (o1 && o2) (ys1 ++ ys2) (c1 + c2) w2 := by
  obtain ⟨xs2, b2, h3, h4, h5⟩ := h2
  exact ⟨xs2, b2, h3, hk.trans h4, hp.trans h5⟩
/-- Behind what only made new blocks; the writer leaves these alone too. -/
theorem NP.back {w W w' : World} {p : Nat} {S : Nat → Prop} {xs : List Int} {b ok : Bool} {ys : List Int} {c : Nat} (hlt : ∀ k, S k → k < w.heap.size) (hb : Below w.heap.size w W) (h : NP W p (fun k => S k ∨ (w.heap.size ≤ k ∧ k < W.heap.size)) xs b ok ys c w') : NP w p S xs b ok ys c w' := by
  obtain ⟨xs2, b2, h3, h4, h5⟩ := h
  exact ⟨xs2, b2, h3.weak fun _ => .inl, (Kept.of_below hb hlt).trans (h4.weak fun _ => .inl), h5⟩
theorem NP.back' {w W w' : World} {p : Nat} {S : Nat → Prop} {xs : List Int} {b ok : Bool} {ys : List Int} {c : Nat} (hlt : ∀ k, S k → k < w.heap.size) (hb : Below w.heap.size w W) (h : NP W p S xs b ok ys c w') : NP w p S xs b ok ys c w' := by
  obtain ⟨xs2, b2, h3, h4, h5⟩ := h
  exact ⟨xs2, b2, h3, (Kept.of_below hb hlt).trans h4, h5⟩
theorem wlit_c (p : Nat) (S : Nat → Prop) (xs : List Int) (b : Bool) (ns : List Int) (w V : World) (hn : ns.length ≤ 3) (hl : xs.length ≤ 549755813888) (hb : Below w.heap.size w V) (hlt : w.heap.size < V.heap.size) (hP : ∀ i, i < ns.length → ∃ ab ao, V.cell? ⟨w.heap.size, i, none⟩ = some (.pointer (some ⟨ab, ao, none⟩)) ∧ S ab ∧ w.cell? ⟨ab, ao, none⟩ = some (.int .i64 (ns.getD i 0))) (hW : Wb w p S xs b) :
    Calls Try.prog 81 #[.pointer (some ⟨p, 0, none⟩), .slice (some ⟨w.heap.size, 0, none⟩) ns.length ns.length] V fun e w' => e = .returned (.tuple #[]) ∧ NP w p S xs b (numsO ns) (numsE ns) (10 * ns.length) w' := by
  refine (wnum_c p _ xs b w.heap.size ns.length ns V hn hl ⟨.inr ⟨Nat.le_refl _, hlt⟩, fun i hi => ?_⟩ (hW.on hb)).mono fun e w' ⟨h1, h2⟩ => ⟨h1, h2.back hW.lt hb⟩
  obtain ⟨ab, ao, h1, h2, h3⟩ := hP i hi
  exact ⟨ab, ao, h1, .inl h2, (hb.cell (p := ⟨ab, ao, none⟩) (World.block_lt_of_cell? w _ h3)).trans h3⟩
theorem one3 {P : Nat → Prop} (h0 : P 0) (h1 : P 1) (h2 : P 2) : ∀ i, i < 3 → P i := fun i hi => by
  rcases (by omega : i = 0 ∨ i = 1 ∨ i = 2) with rfl | rfl | rfl <;> assumption
theorem one2 {P : Nat → Prop} (h0 : P 0) (h1 : P 1) : ∀ i, i < 2 → P i := fun i hi => by
  rcases (by omega : i = 0 ∨ i = 1) with rfl | rfl <;> assumption
theorem one1 {P : Nat → Prop} (h0 : P 0) : ∀ i, i < 1 → P i := fun i hi => by
  rcases (by omega : i = 0) with rfl; assumption
theorem bel_lit (w : World) (o : Obj) : Below w.heap.size w (w.alloc o).drew := ((Below.refl _ _).alloc (Nat.le_refl _) _).drew
set_option maxHeartbeats 4000000 in
theorem ilab_c (p : Nat) (S : Nat → Prop) (xs : List Int) (b : Bool) (w0 w : World) (ab ao : Nat) (x : Lab) (hb0 : Below w0.heap.size w0 w) (hS : ∀ k, k < w0.heap.size → S k) (hl : xs.length ≤ 549755813000) (hx : Lab.At 0 w0 ab ao x) (hW : Wb w p S xs b) :
    Calls Try.prog 54 #[.iface 60 (.pointer (some ⟨p, 0, none⟩)), .pointer (some ⟨ab, ao, none⟩)] w fun e w' => e = .returned (.tuple #[]) ∧ NP w p S xs b (labO x) (labE x) (labC x) w' := by
  obtain ⟨⟨q0, q1, q2, q3⟩, -⟩ := hx
  have la : ab < w0.heap.size := World.block_lt_of_cell? w0 _ q0
  have hSa := hS ab la
  have e0 := (hb0.cell (p := ⟨ab, ao, none⟩) la).trans q0
  have e1 := (hb0.cell (p := ⟨ab, ao + 1, none⟩) la).trans q1
  have e2 := (hb0.cell (p := ⟨ab, ao + 2, none⟩) la).trans q2
  have e3 := (hb0.cell (p := ⟨ab, ao + 3, none⟩) la).trans q3
  have n1 := nilN ⟨p, 0, none⟩
  have n2 := metN ⟨p, 0, none⟩
  have n3 := nilM ⟨p, 0, none⟩
  have n4 := metM ⟨p, 0, none⟩
  have KN := Hid.mk' (wlit_c p S xs b [x.pc, x.ar, x.ht] w ((w.alloc (.cells #[.pointer (some ⟨ab, ao, none⟩), .pointer (some ⟨ab, ao + 1, none⟩), .pointer (some ⟨ab, ao + 2, none⟩)] 91)).drew) (by simp) (by omega) (bel_lit _ _) (by simp) (one3 ⟨ab, ao, cell_new rfl rfl, hSa, e0⟩ ⟨ab, ao + 1, cell_new rfl rfl, hSa, e1⟩ ⟨ab, ao + 2, cell_new rfl rfl, hSa, e2⟩) hW)
  have HS3 := Hid.mk' (fun w1 (hk : Kept S w w1) => (hk.cell (o := ao + 3) hSa).trans e3)
  clear q0 q1 q2 q3 e0 e1 e2 e3 hb0 hS hW
  go_enter Try.func54, Try.ntmps54
  go_wp2_with fail
  go_region_law (go_simp; refine KN.out.mono ?_; rintro e w2 ⟨rfl, hw2⟩; have HR := Hid.mk' hw2; clear hw2)
  all_goals
    obtain ⟨xs1, b1, hw1, hk1, hp1⟩ := HR.out
    have c3 := HS3.out _ hk1
    have hle := hp1.le
    have KM := Hid.mk' (wmark_c p S xs1 b1 ab (ao + 3) x.lp w2.drew (by simp only [List.length_cons, List.length_nil] at hle; omega) c3 (hw1.keep (Below.refl _ _).drew))
    have HF := Hid.mk' (fun w3 (h : NP w2.drew p S xs1 b1 true (flB x.lp) 1 w3) => NP.trans hk1 hp1 (h.back' hw1.lt (Below.refl _ _).drew))
    clear HR KN hw1 hk1 hp1 hle HS3
    go_simp
    go_wp2_with fail
    go_region_law (go_simp; refine KM.out.mono ?_; rintro e w3 ⟨rfl, hw3⟩; have HR := Hid.mk' (HF.out w3 hw3); clear hw3)
    all_goals
      go_simp
      go_wp2
      go_end0
      exact ⟨rfl, HR.out⟩
end Go.Proofs.Ytfaajmhmcdoibaa
