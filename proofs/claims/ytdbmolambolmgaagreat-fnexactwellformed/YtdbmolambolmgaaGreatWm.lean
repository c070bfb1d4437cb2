import Derived.Test.YtdbmolambolmgaaGreatW1
import Derived.Laws.StructEq
import Derived.Test.YtdbmolambolmgaaGreatW3
import Derived.Laws.AppendOwn
import Derived.Laws.OwnMore
import Derived.OwnWalk
import Derived.Deep.RegionLaw
import Derived.Test.YtdbmolambolmgaaGreatW6
set_option linter.all false
set_option linter.unusedVariables false
namespace Go.Proofs.YtdbmolambolmgaaGreat
open Go.RowKit Go.Sort
theorem eqLim (w : World) (a : Int) (b : Int) (h : Bool) : (binOp .eql 99 (.agg #[.int .i64 a, .int .i64 b, .bool h]) (.agg #[.int .i64 0, .int .i64 0, .bool false])).run Tryz.prog w = .ok (.bool (a == 0 && (b == 0 && h == false))) w := by
  have hF : (Tryz.prog.fieldsOf 99).toList.map (fun f => (f.type, f.offset, decide (f.name = "_"))) = [(2, 0, false), (2, 1, false), (4, 2, false)] := by kernel_rfl
  rw [run_eql_struct, show (10000 : Nat) = 9998 + 1 + 1 from rfl, run_equalIn_struct w (9998 + 1) _ _ _ (by kernel_rfl) (by kernel_rfl)]
  generalize (Tryz.prog.fieldsOf 99).toList = fs at hF
  obtain ⟨f0, r0, rfl, e0, h0⟩ := List.map_eq_cons_iff.1 hF
  obtain ⟨f1, r1, rfl, e1, h1⟩ := List.map_eq_cons_iff.1 h0
  obtain ⟨f2, r2, rfl, e2, h2⟩ := List.map_eq_cons_iff.1 h1
  obtain rfl := List.map_eq_nil_iff.1 h2
  simp only [Prod.mk.injEq, decide_eq_false_iff_not] at e0 e1 e2
  obtain ⟨t0, o0, n0⟩ := e0
  obtain ⟨t1, o1, n1⟩ := e1
  obtain ⟨t2, o2, n2⟩ := e2
  simp only [Op.eqFields, ne_eq, n0, n1, n2, not_false_eq_true, if_true, t0, o0, t1, o1, t2, o2, Sem.run_bind]
  have p0 : ∀ (x y z : Value), (part 2 #[x, y, z] 0).run Tryz.prog w = .ok x w := fun x y z => by simp [part, isAgg, run_underlying Tryz.underlying2]
  have p1 : ∀ (x y z : Value), (part 2 #[x, y, z] 1).run Tryz.prog w = .ok y w := fun x y z => by simp [part, isAgg, run_underlying Tryz.underlying2]
  have p2 : ∀ (x y z : Value), (part 4 #[x, y, z] 2).run Tryz.prog w = .ok z w := fun x y z => by simp [part, isAgg, run_underlying Tryz.underlying4]
  simp only [p0, p1, p2, Result.andThen_ok, run_equalIn_int w 9998 2 .i64 .i64 _ _ Tryz.underlying2, run_equalIn_bool' w 9998 4 _ _ Tryz.underlying4]
  by_cases ka : a = 0 <;> by_cases kb : b = 0 <;> cases h <;> simp [Sem.run_bind, p0, p1, p2, run_equalIn_int w 9998 2 .i64 .i64 _ _ Tryz.underlying2, run_equalIn_bool' w 9998 4 _ _ Tryz.underlying4, ka, kb]
theorem eqGty (w : World) (a : Int) (h : Bool) : (binOp .eql 101 (.agg #[.int .i64 a, .bool h]) (.agg #[.int .i64 0, .bool false])).run Tryz.prog w = .ok (.bool (a == 0 && h == false)) w := by
  have hF : (Tryz.prog.fieldsOf 101).toList.map (fun f => (f.type, f.offset, decide (f.name = "_"))) = [(2, 0, false), (4, 1, false)] := by kernel_rfl
  rw [run_eql_struct, show (10000 : Nat) = 9998 + 1 + 1 from rfl, run_equalIn_struct w (9998 + 1) _ _ _ (by kernel_rfl) (by kernel_rfl)]
  generalize (Tryz.prog.fieldsOf 101).toList = fs at hF
  obtain ⟨f0, r0, rfl, e0, h0⟩ := List.map_eq_cons_iff.1 hF
  obtain ⟨f1, r1, rfl, e1, h1⟩ := List.map_eq_cons_iff.1 h0
  obtain rfl := List.map_eq_nil_iff.1 h1
  simp only [Prod.mk.injEq, decide_eq_false_iff_not] at e0 e1
  obtain ⟨t0, o0, n0⟩ := e0
  obtain ⟨t1, o1, n1⟩ := e1
  simp only [Op.eqFields, ne_eq, n0, n1, not_false_eq_true, if_true, t0, o0, t1, o1, Sem.run_bind]
  have p0 : ∀ (x y : Value), (part 2 #[x, y] 0).run Tryz.prog w = .ok x w := fun x y => by simp [part, isAgg, run_underlying Tryz.underlying2]
  have p1 : ∀ (x y : Value), (part 4 #[x, y] 1).run Tryz.prog w = .ok y w := fun x y => by simp [part, isAgg, run_underlying Tryz.underlying4]
  simp only [p0, p1, Result.andThen_ok, run_equalIn_int w 9998 2 .i64 .i64 _ _ Tryz.underlying2, run_equalIn_bool' w 9998 4 _ _ Tryz.underlying4]
  by_cases ka : a = 0 <;> cases h <;> simp [Sem.run_bind, p0, p1, run_equalIn_int w 9998 2 .i64 .i64 _ _ Tryz.underlying2, run_equalIn_bool' w 9998 4 _ _ Tryz.underlying4, ka]
end Go.Proofs.YtdbmolambolmgaaGreat

set_option linter.unusedVariables false
namespace Go.Proofs.YtdbmolambolmgaaGreat
open Go.RowKit Go.Sort
set_option maxRecDepth 100000
def limZ (l : Limits) : Bool := l.min == 0 && (l.max == 0 && l.has == false)
def gtZ (g : GType) : Bool := g.ty == 0 && g.mu == false
def impK (x : Imp) : Bool := if x.kind = 0 then u32B x.ty && limZ x.lim && gtZ x.gl else if x.kind = 1 ∨ x.kind = 2 then x.ty == 0 && limB x.lim && gtZ x.gl else if x.kind = 3 then x.ty == 0 && limZ x.lim && tyB x.gl.ty else false
def impB (x : Imp) : Bool := nameB x.mod && nameB x.nm && impK x
theorem impK0 {x : Imp} (h : x.kind = 0) : impK x = (u32B x.ty && limZ x.lim && gtZ x.gl) := by simp [impK, h]
theorem impK1 {x : Imp} (h : x.kind = 1 ∨ x.kind = 2) : impK x = (x.ty == 0 && limB x.lim && gtZ x.gl) := by
  have : ¬ x.kind = 0 := by omega
  simp [impK, h, this]
theorem impK3 {x : Imp} (h : x.kind = 3) : impK x = (x.ty == 0 && limZ x.lim && tyB x.gl.ty) := by simp [impK, h]
theorem impK4 {x : Imp} (h0 : ¬ x.kind = 0) (h1 : ¬ x.kind = 1) (h2 : ¬ x.kind = 2) (h3 : ¬ x.kind = 3) : impK x = false := by simp [impK, h0, h1, h2, h3]
theorem eqLimZ (l : Limits) (w : World) : (binOp .eql 99 (.agg #[.int .i64 l.min, .int .i64 l.max, .bool l.has]) (.agg #[.int .i64 0, .int .i64 0, .bool false])).run Tryz.prog w = .ok (.bool (limZ l)) w := eqLim w _ _ _
theorem eqGtyZ (g : GType) (w : World) : (binOp .eql 101 (.agg #[.int .i64 g.ty, .bool g.mu]) (.agg #[.int .i64 0, .bool false])).run Tryz.prog w = .ok (.bool (gtZ g)) w := eqGty w _ _
attribute [-go_sem] run_eql_struct
set_option maxHeartbeats 4000000 in
theorem simp_c (x : Imp) (w : World) (hI : Imp.Is 0 w x) (hl : Imp.LB 1048576 x) :
    Calls Tryz.prog 109 #[.agg #[.string x.mod, .string x.nm, .int .i64 x.kind, .int .i64 x.ty, .int .i64 x.lim.min, .int .i64 x.lim.max, .bool x.lim.has, .int .i64 x.gl.ty, .bool x.gl.mu]] w fun e w' => e = .returned (.bool (impB x)) ∧ Below w.heap.size w w' := by
  obtain ⟨l0, l1⟩ := hl
  go_enter Tryz.func109, Tryz.ntmps109
  go_upto_region 1 with fail
  refine wp_gen (fun W => Bk W w.heap.size [.string x.mod, .string x.nm, .int .i64 x.kind, .int .i64 x.ty, .int .i64 x.lim.min, .int .i64 x.lim.max, .bool x.lim.has, .int .i64 x.gl.ty, .bool x.gl.mu] ∧ Below w.heap.size w W) ⟨Bk.new, (Below.refl _ _).alloc (Nat.le_refl _) _⟩ ?_
  rintro W ⟨bb, hb⟩
  have q0 : W.cell? ⟨w.heap.size, 0, none⟩ = some (.string x.mod) := bb.2.1 0 _ rfl
  have q1 : W.cell? ⟨w.heap.size, 1, none⟩ = some (.string x.nm) := bb.2.1 1 _ rfl
  have q2 : W.cell? ⟨w.heap.size, 2, none⟩ = some (.int .i64 x.kind) := bb.2.1 2 _ rfl
  have q3 : W.cell? ⟨w.heap.size, 3, none⟩ = some (.int .i64 x.ty) := bb.2.1 3 _ rfl
  have q4 : W.cell? ⟨w.heap.size, 4, none⟩ = some (.int .i64 x.lim.min) := bb.2.1 4 _ rfl
  have q5 : W.cell? ⟨w.heap.size, 5, none⟩ = some (.int .i64 x.lim.max) := bb.2.1 5 _ rfl
  have q6 : W.cell? ⟨w.heap.size, 6, none⟩ = some (.bool x.lim.has) := bb.2.1 6 _ rfl
  have q7 : W.cell? ⟨w.heap.size, 7, none⟩ = some (.int .i64 x.gl.ty) := bb.2.1 7 _ rfl
  have q8 : W.cell? ⟨w.heap.size, 8, none⟩ = some (.bool x.gl.mu) := bb.2.1 8 _ rfl
  have HC0 := Hid.mk' (sname_ok x.mod W l0)
  generalize ht0 : nameB x.mod = t0 at HC0
  cases t0
  · go_wp2_with fail
    refine HC0.out.mono ?_
    rintro e W1 ⟨rfl, hb0⟩
    have hb := hb.trans (hb0.mono hb.size)
    clear hb0 bb
    go_wp2
    go_ret
    exact ⟨by simp [impB, ht0], hb⟩
  go_wp2_with fail
  refine HC0.out.mono ?_
  rintro e W1 ⟨rfl, hb0⟩
  have bb := bb.keep hb0
  have hb := hb.trans (hb0.mono hb.size)
  clear hb0 HC0
  have q0 : W1.cell? ⟨w.heap.size, 0, none⟩ = some (.string x.mod) := bb.2.1 0 _ rfl
  have q1 : W1.cell? ⟨w.heap.size, 1, none⟩ = some (.string x.nm) := bb.2.1 1 _ rfl
  have q2 : W1.cell? ⟨w.heap.size, 2, none⟩ = some (.int .i64 x.kind) := bb.2.1 2 _ rfl
  have q3 : W1.cell? ⟨w.heap.size, 3, none⟩ = some (.int .i64 x.ty) := bb.2.1 3 _ rfl
  have q4 : W1.cell? ⟨w.heap.size, 4, none⟩ = some (.int .i64 x.lim.min) := bb.2.1 4 _ rfl
  have q5 : W1.cell? ⟨w.heap.size, 5, none⟩ = some (.int .i64 x.lim.max) := bb.2.1 5 _ rfl
  have q6 : W1.cell? ⟨w.heap.size, 6, none⟩ = some (.bool x.lim.has) := bb.2.1 6 _ rfl
  have q7 : W1.cell? ⟨w.heap.size, 7, none⟩ = some (.int .i64 x.gl.ty) := bb.2.1 7 _ rfl
  have q8 : W1.cell? ⟨w.heap.size, 8, none⟩ = some (.bool x.gl.mu) := bb.2.1 8 _ rfl
  have HC1 := Hid.mk' (sname_ok x.nm W1 l1)
  generalize ht1 : nameB x.nm = t1 at HC1
  cases t1
  · go_wp2_with fail
    refine HC1.out.mono ?_
    rintro e W2 ⟨rfl, hb1⟩
    have hb := hb.trans (hb1.mono hb.size)
    clear hb1 bb
    go_wp2
    go_ret
    exact ⟨by simp [impB, ht0, ht1], hb⟩
  go_wp2_with fail
  refine HC1.out.mono ?_
  rintro e W2 ⟨rfl, hb1⟩
  have bb := bb.keep hb1
  have hb := hb.trans (hb1.mono hb.size)
  clear hb1 HC1
  have q0 : W2.cell? ⟨w.heap.size, 0, none⟩ = some (.string x.mod) := bb.2.1 0 _ rfl
  have q1 : W2.cell? ⟨w.heap.size, 1, none⟩ = some (.string x.nm) := bb.2.1 1 _ rfl
  have q2 : W2.cell? ⟨w.heap.size, 2, none⟩ = some (.int .i64 x.kind) := bb.2.1 2 _ rfl
  have q3 : W2.cell? ⟨w.heap.size, 3, none⟩ = some (.int .i64 x.ty) := bb.2.1 3 _ rfl
  have q4 : W2.cell? ⟨w.heap.size, 4, none⟩ = some (.int .i64 x.lim.min) := bb.2.1 4 _ rfl
  have q5 : W2.cell? ⟨w.heap.size, 5, none⟩ = some (.int .i64 x.lim.max) := bb.2.1 5 _ rfl
  have q6 : W2.cell? ⟨w.heap.size, 6, none⟩ = some (.bool x.lim.has) := bb.2.1 6 _ rfl
  have q7 : W2.cell? ⟨w.heap.size, 7, none⟩ = some (.int .i64 x.gl.ty) := bb.2.1 7 _ rfl
  have q8 : W2.cell? ⟨w.heap.size, 8, none⟩ = some (.bool x.gl.mu) := bb.2.1 8 _ rfl
  have EL := eqLimZ x.lim
  have EG := eqGtyZ x.gl
  generalize hz1 : limZ x.lim = z1 at EL
  generalize hz2 : gtZ x.gl = z2 at EG
  by_cases k0 : x.kind = 0
  · have HK := Hid.mk' (u32_c x.ty W2)
    generalize hz3 : u32B x.ty = z3 at HK
    have HF : Hid (impB x = (z3 && z1 && z2)) := by simp [Hid, impB, ht0, ht1, impK0 k0, hz1, hz2, hz3]
    clear hz1 hz2 hz3 ht0 ht1 bb
    cases z1 <;> cases z2 <;> cases z3 <;>
    · go_wp2_with (refine HK.out.mono ?_; rintro e w1 ⟨rfl, rfl⟩)
      go_ret
      exact ⟨by rw [HF.out]; rfl, hb⟩
  by_cases k1 : x.kind = 1 ∨ x.kind = 2
  · have HK := Hid.mk' (slim_c x.lim W2)
    generalize hz3 : limB x.lim = z3 at HK
    have HF : Hid (impB x = (x.ty == 0 && z3 && z2)) := by simp [Hid, impB, ht0, ht1, impK1 k1, hz2, hz3]
    clear hz1 hz2 hz3 ht0 ht1
    by_cases h0 : x.ty = 0
    · have HF : Hid (impB x = (z3 && z2)) := by rw [Hid, HF.out]; simp [h0]
      rcases k1 with k1 | k1 <;> cases z2 <;> cases z3 <;>
      · go_wp2_with fail
        refine HK.out.mono ?_
        rintro e W3 ⟨rfl, hb3⟩
        have hb := hb.trans (hb3.mono hb.size)
        clear hb3 bb
        go_wp2
        go_ret
        exact ⟨by rw [HF.out]; rfl, hb⟩
    · have HF : Hid (impB x = false) := by rw [Hid, HF.out]; simp [h0]
      clear HK bb
      rcases k1 with k1 | k1 <;>
      · go_wp2
        go_ret
        exact ⟨by rw [HF.out]; rfl, hb⟩
  obtain ⟨k1, k2⟩ : ¬ x.kind = 1 ∧ ¬ x.kind = 2 := ⟨fun h => k1 (.inl h), fun h => k1 (.inr h)⟩
  by_cases k3 : x.kind = 3
  · have HK := Hid.mk' (ty_c x.gl.ty W2)
    generalize hz3 : tyB x.gl.ty = z3 at HK
    have HF : Hid (impB x = (x.ty == 0 && z1 && z3)) := by simp [Hid, impB, ht0, ht1, impK3 k3, hz1, hz3]
    clear hz1 hz2 hz3 ht0 ht1 bb
    by_cases h0 : x.ty = 0
    · have HF : Hid (impB x = (z1 && z3)) := by rw [Hid, HF.out]; simp [h0]
      cases z1 <;> cases z3 <;>
      · go_wp2_with (refine HK.out.mono ?_; rintro e w1 ⟨rfl, rfl⟩)
        go_ret
        exact ⟨by rw [HF.out]; rfl, hb⟩
    · have HF : Hid (impB x = false) := by rw [Hid, HF.out]; simp [h0]
      clear HK
      go_wp2
      go_ret
      exact ⟨by rw [HF.out]; rfl, hb⟩
  have HF : Hid (impB x = false) := by simp [Hid, impB, impK4 k0 k1 k2 k3]
  clear hz1 hz2 ht0 ht1 bb
  go_wp2
  go_ret
  exact ⟨by rw [HF.out]; rfl, hb⟩
end Go.Proofs.YtdbmolambolmgaaGreat

set_option linter.unusedVariables false
namespace Go.Proofs.YtdbmolambolmgaaGreat
open Go.RowKit Go.Sort
set_option maxRecDepth 100000
attribute [-go_sem] run_eql_struct
theorem Bk.drew {W : World} {g : Nat} {cs : List Value} (h : Bk W g cs) : Bk W.drew g cs := h
theorem kind_oth {x : Imp} (h : ¬ impK x = true) : impB x = false := by simp [impB, h]
set_option maxHeartbeats 4000000 in
theorem iimp0 (x : Imp) (w : World) (hl : Imp.LB 1048576 x) (k0 : x.kind = 0) :
    Calls Tryz.prog 50 #[.agg #[.string x.mod, .string x.nm, .int .i64 x.kind, .int .i64 x.ty, .int .i64 x.lim.min, .int .i64 x.lim.max, .bool x.lim.has, .int .i64 x.gl.ty, .bool x.gl.mu]] w fun e w' => e = .returned (.bool (impB x)) ∧ Below w.heap.size w w' := by
  obtain ⟨l0, l1⟩ := hl
  have KK := Hid.mk' k0
  clear k0
  go_enter Tryz.func50, Tryz.ntmps50
  go_upto_region 1 with fail
  refine wp_gen (fun W => Bk W w.heap.size [.string x.mod, .string x.nm, .int .i64 x.kind, .int .i64 x.ty, .int .i64 x.lim.min, .int .i64 x.lim.max, .bool x.lim.has, .int .i64 x.gl.ty, .bool x.gl.mu] ∧ Below w.heap.size w W ∧ W.heap.size = w.heap.size + 1) ⟨Bk.new, (Below.refl _ _).alloc (Nat.le_refl _) _, by simp⟩ ?_
  rintro W ⟨bb, hb, hs⟩
  have q0 : W.cell? ⟨w.heap.size, 0, none⟩ = some (.string x.mod) := bb.2.1 0 _ rfl
  have q1 : W.cell? ⟨w.heap.size, 1, none⟩ = some (.string x.nm) := bb.2.1 1 _ rfl
  have q2 : W.cell? ⟨w.heap.size, 2, none⟩ = some (.int .i64 x.kind) := bb.2.1 2 _ rfl
  have q3 : W.cell? ⟨w.heap.size, 3, none⟩ = some (.int .i64 x.ty) := bb.2.1 3 _ rfl
  have q4 : W.cell? ⟨w.heap.size, 4, none⟩ = some (.int .i64 x.lim.min) := bb.2.1 4 _ rfl
  have q5 : W.cell? ⟨w.heap.size, 5, none⟩ = some (.int .i64 x.lim.max) := bb.2.1 5 _ rfl
  have q6 : W.cell? ⟨w.heap.size, 6, none⟩ = some (.bool x.lim.has) := bb.2.1 6 _ rfl
  have q7 : W.cell? ⟨w.heap.size, 7, none⟩ = some (.int .i64 x.gl.ty) := bb.2.1 7 _ rfl
  have q8 : W.cell? ⟨w.heap.size, 8, none⟩ = some (.bool x.gl.mu) := bb.2.1 8 _ rfl
  go_region
  go_upto_region 2 with fail
  refine wp_gen (fun V => Bk V w.heap.size [.string x.mod, .string x.nm, .int .i64 x.kind, .int .i64 x.ty, .int .i64 x.lim.min, .int .i64 x.lim.max, .bool x.lim.has, .int .i64 x.gl.ty, .bool x.gl.mu] ∧ Bk V (w.heap.size + 1) [.string x.mod, .string x.nm, .int .i64 x.kind, .int .i64 x.ty, .int .i64 x.lim.min, .int .i64 x.lim.max, .bool x.lim.has, .int .i64 x.gl.ty, .bool x.gl.mu] ∧ Below w.heap.size w V) ⟨Bk.drew bb.past, by rw [← hs]; exact Bk.drew Bk.new, hb.trans ((((Below.refl _ W).alloc (Nat.le_refl _) _).drew).mono hb.size)⟩ ?_
  clear bb hb hs q0 q1 q2 q3 q4 q5 q6 q7 q8
  rintro V ⟨bb, bc, hb⟩
  have q0 : V.cell? ⟨w.heap.size, 0, none⟩ = some (.string x.mod) := bb.2.1 0 _ rfl
  have q1 : V.cell? ⟨w.heap.size, 1, none⟩ = some (.string x.nm) := bb.2.1 1 _ rfl
  have q2 : V.cell? ⟨w.heap.size, 2, none⟩ = some (.int .i64 x.kind) := bb.2.1 2 _ rfl
  have q3 : V.cell? ⟨w.heap.size, 3, none⟩ = some (.int .i64 x.ty) := bb.2.1 3 _ rfl
  have q4 : V.cell? ⟨w.heap.size, 4, none⟩ = some (.int .i64 x.lim.min) := bb.2.1 4 _ rfl
  have q5 : V.cell? ⟨w.heap.size, 5, none⟩ = some (.int .i64 x.lim.max) := bb.2.1 5 _ rfl
  have q6 : V.cell? ⟨w.heap.size, 6, none⟩ = some (.bool x.lim.has) := bb.2.1 6 _ rfl
  have q7 : V.cell? ⟨w.heap.size, 7, none⟩ = some (.int .i64 x.gl.ty) := bb.2.1 7 _ rfl
  have q8 : V.cell? ⟨w.heap.size, 8, none⟩ = some (.bool x.gl.mu) := bb.2.1 8 _ rfl
  have p0 : V.cell? ⟨w.heap.size + 1, 0, none⟩ = some (.string x.mod) := bc.2.1 0 _ rfl
  have p1 : V.cell? ⟨w.heap.size + 1, 1, none⟩ = some (.string x.nm) := bc.2.1 1 _ rfl
  have p2 : V.cell? ⟨w.heap.size + 1, 2, none⟩ = some (.int .i64 x.kind) := bc.2.1 2 _ rfl
  have p3 : V.cell? ⟨w.heap.size + 1, 3, none⟩ = some (.int .i64 x.ty) := bc.2.1 3 _ rfl
  have p4 : V.cell? ⟨w.heap.size + 1, 4, none⟩ = some (.int .i64 x.lim.min) := bc.2.1 4 _ rfl
  have p5 : V.cell? ⟨w.heap.size + 1, 5, none⟩ = some (.int .i64 x.lim.max) := bc.2.1 5 _ rfl
  have p6 : V.cell? ⟨w.heap.size + 1, 6, none⟩ = some (.bool x.lim.has) := bc.2.1 6 _ rfl
  have p7 : V.cell? ⟨w.heap.size + 1, 7, none⟩ = some (.int .i64 x.gl.ty) := bc.2.1 7 _ rfl
  have p8 : V.cell? ⟨w.heap.size + 1, 8, none⟩ = some (.bool x.gl.mu) := bc.2.1 8 _ rfl
  have EL := eqLimZ x.lim
  have EG := eqGtyZ x.gl
  have EL0 : ∀ w, (binOp .eql 99 (.agg #[.int .i64 0, .int .i64 0, .bool false]) (.agg #[.int .i64 0, .int .i64 0, .bool false])).run Tryz.prog w = .ok (.bool true) w := fun w => eqLim w 0 0 false
  have EG0 : ∀ w, (binOp .eql 101 (.agg #[.int .i64 0, .bool false]) (.agg #[.int .i64 0, .bool false])).run Tryz.prog w = .ok (.bool true) w := fun w => eqGty w 0 false
  generalize hz1 : limZ x.lim = z1 at EL
  generalize hz2 : gtZ x.gl = z2 at EG
  have k0 := KK.out
  have HK := Hid.mk' (same_below (iu32_c x.ty V))
  generalize hz3 : u32B x.ty = z3 at HK
  have HF : Hid (impK x = (z3 && z1 && z2)) := by simp [Hid, impK0 k0, hz1, hz2, hz3]
  clear hz1 hz2 hz3
  go_wp2_with fail
  refine HK.out.mono ?_
  rintro e V1 ⟨rfl, hv⟩
  have bb := bb.keep hv
  have bc := bc.keep hv
  have hb := hb.trans (hv.mono hb.size)
  clear hv HK q0 q1 q2 q3 q4 q5 q6 q7 q8 p0 p1 p2 p3 p4 p5 p6 p7 p8
  have ne : w.heap.size + 1 ≠ w.heap.size := by omega
  have q0 : V1.cell? ⟨w.heap.size, 0, none⟩ = some (.string x.mod) := bb.2.1 0 _ rfl
  have q1 : V1.cell? ⟨w.heap.size, 1, none⟩ = some (.string x.nm) := bb.2.1 1 _ rfl
  have q2 : V1.cell? ⟨w.heap.size, 2, none⟩ = some (.int .i64 x.kind) := bb.2.1 2 _ rfl
  have q3 : V1.cell? ⟨w.heap.size, 3, none⟩ = some (.int .i64 x.ty) := bb.2.1 3 _ rfl
  have q4 : V1.cell? ⟨w.heap.size, 4, none⟩ = some (.int .i64 x.lim.min) := bb.2.1 4 _ rfl
  have q5 : V1.cell? ⟨w.heap.size, 5, none⟩ = some (.int .i64 x.lim.max) := bb.2.1 5 _ rfl
  have q6 : V1.cell? ⟨w.heap.size, 6, none⟩ = some (.bool x.lim.has) := bb.2.1 6 _ rfl
  have q7 : V1.cell? ⟨w.heap.size, 7, none⟩ = some (.int .i64 x.gl.ty) := bb.2.1 7 _ rfl
  have q8 : V1.cell? ⟨w.heap.size, 8, none⟩ = some (.bool x.gl.mu) := bb.2.1 8 _ rfl
  have p0 : V1.cell? ⟨w.heap.size + 1, 0, none⟩ = some (.string x.mod) := bc.2.1 0 _ rfl
  have p1 : V1.cell? ⟨w.heap.size + 1, 1, none⟩ = some (.string x.nm) := bc.2.1 1 _ rfl
  have p2 : V1.cell? ⟨w.heap.size + 1, 2, none⟩ = some (.int .i64 x.kind) := bc.2.1 2 _ rfl
  have p3 : V1.cell? ⟨w.heap.size + 1, 3, none⟩ = some (.int .i64 x.ty) := bc.2.1 3 _ rfl
  have p4 : V1.cell? ⟨w.heap.size + 1, 4, none⟩ = some (.int .i64 x.lim.min) := bc.2.1 4 _ rfl
  have p5 : V1.cell? ⟨w.heap.size + 1, 5, none⟩ = some (.int .i64 x.lim.max) := bc.2.1 5 _ rfl
  have p6 : V1.cell? ⟨w.heap.size + 1, 6, none⟩ = some (.bool x.lim.has) := bc.2.1 6 _ rfl
  have p7 : V1.cell? ⟨w.heap.size + 1, 7, none⟩ = some (.int .i64 x.gl.ty) := bc.2.1 7 _ rfl
  have p8 : V1.cell? ⟨w.heap.size + 1, 8, none⟩ = some (.bool x.gl.mu) := bc.2.1 8 _ rfl
  have fz : ∀ j, V1.frozen? ⟨w.heap.size + 1, j, none⟩ = false := bc.2.2
  go_upto_region 10 with fail
  refine wp_gen (fun V' => Bk V' w.heap.size [.string x.mod, .string x.nm, .int .i64 x.kind, .int .i64 x.ty, .int .i64 x.lim.min, .int .i64 x.lim.max, .bool x.lim.has, .int .i64 x.gl.ty, .bool x.gl.mu] ∧ Bk V' (w.heap.size + 1) [.string x.mod, .string x.nm, .int .i64 x.kind, .int .i64 0, .int .i64 x.lim.min, .int .i64 x.lim.max, .bool x.lim.has, .int .i64 x.gl.ty, .bool x.gl.mu] ∧ Below w.heap.size w V') ⟨(bb.other ne), bc.set, (hb.setCell (Nat.le_succ _) _)⟩ ?_
  clear bb bc hb fz q0 q1 q2 q3 q4 q5 q6 q7 q8 p0 p1 p2 p3 p4 p5 p6 p7 p8
  rintro V ⟨bb, bc, hb⟩
  have q0 : V.cell? ⟨w.heap.size, 0, none⟩ = some (.string x.mod) := bb.2.1 0 _ rfl
  have q1 : V.cell? ⟨w.heap.size, 1, none⟩ = some (.string x.nm) := bb.2.1 1 _ rfl
  have q2 : V.cell? ⟨w.heap.size, 2, none⟩ = some (.int .i64 x.kind) := bb.2.1 2 _ rfl
  have q3 : V.cell? ⟨w.heap.size, 3, none⟩ = some (.int .i64 x.ty) := bb.2.1 3 _ rfl
  have q4 : V.cell? ⟨w.heap.size, 4, none⟩ = some (.int .i64 x.lim.min) := bb.2.1 4 _ rfl
  have q5 : V.cell? ⟨w.heap.size, 5, none⟩ = some (.int .i64 x.lim.max) := bb.2.1 5 _ rfl
  have q6 : V.cell? ⟨w.heap.size, 6, none⟩ = some (.bool x.lim.has) := bb.2.1 6 _ rfl
  have q7 : V.cell? ⟨w.heap.size, 7, none⟩ = some (.int .i64 x.gl.ty) := bb.2.1 7 _ rfl
  have q8 : V.cell? ⟨w.heap.size, 8, none⟩ = some (.bool x.gl.mu) := bb.2.1 8 _ rfl
  have p0 : V.cell? ⟨w.heap.size + 1, 0, none⟩ = some (.string x.mod) := bc.2.1 0 _ rfl
  have p1 : V.cell? ⟨w.heap.size + 1, 1, none⟩ = some (.string x.nm) := bc.2.1 1 _ rfl
  have p2 : V.cell? ⟨w.heap.size + 1, 2, none⟩ = some (.int .i64 x.kind) := bc.2.1 2 _ rfl
  have p3 : V.cell? ⟨w.heap.size + 1, 3, none⟩ = some (.int .i64 0) := bc.2.1 3 _ rfl
  have p4 : V.cell? ⟨w.heap.size + 1, 4, none⟩ = some (.int .i64 x.lim.min) := bc.2.1 4 _ rfl
  have p5 : V.cell? ⟨w.heap.size + 1, 5, none⟩ = some (.int .i64 x.lim.max) := bc.2.1 5 _ rfl
  have p6 : V.cell? ⟨w.heap.size + 1, 6, none⟩ = some (.bool x.lim.has) := bc.2.1 6 _ rfl
  have p7 : V.cell? ⟨w.heap.size + 1, 7, none⟩ = some (.int .i64 x.gl.ty) := bc.2.1 7 _ rfl
  have p8 : V.cell? ⟨w.heap.size + 1, 8, none⟩ = some (.bool x.gl.mu) := bc.2.1 8 _ rfl
  by_cases hall : (z1 && z2 && z3) = true
  · have HF : Hid (impK x = true) := by rw [Hid, HF.out]; revert hall; cases z1 <;> cases z2 <;> cases z3 <;> simp
    simp only [Bool.and_eq_true] at hall
    obtain ⟨⟨rfl, rfl⟩, rfl⟩ := hall
    clear bc
    have HC0 := Hid.mk' (iname_ok x.mod V l0)
    generalize ht0 : nameB x.mod = t0 at HC0
    cases t0
    · go_wp2_with fail
      refine HC0.out.mono ?_
      rintro e W1 ⟨rfl, hb0⟩
      have hb := hb.trans (hb0.mono hb.size)
      clear hb0 bb
      go_wp2
      go_ret
      exact ⟨by simp [impB, ht0], hb⟩
    go_wp2_with fail
    refine HC0.out.mono ?_
    rintro e W1 ⟨rfl, hb0⟩
    have bb := bb.keep hb0
    have hb := hb.trans (hb0.mono hb.size)
    clear hb0 HC0
    have q0 : W1.cell? ⟨w.heap.size, 0, none⟩ = some (.string x.mod) := bb.2.1 0 _ rfl
    have q1 : W1.cell? ⟨w.heap.size, 1, none⟩ = some (.string x.nm) := bb.2.1 1 _ rfl
    have q2 : W1.cell? ⟨w.heap.size, 2, none⟩ = some (.int .i64 x.kind) := bb.2.1 2 _ rfl
    have q3 : W1.cell? ⟨w.heap.size, 3, none⟩ = some (.int .i64 x.ty) := bb.2.1 3 _ rfl
    have q4 : W1.cell? ⟨w.heap.size, 4, none⟩ = some (.int .i64 x.lim.min) := bb.2.1 4 _ rfl
    have q5 : W1.cell? ⟨w.heap.size, 5, none⟩ = some (.int .i64 x.lim.max) := bb.2.1 5 _ rfl
    have q6 : W1.cell? ⟨w.heap.size, 6, none⟩ = some (.bool x.lim.has) := bb.2.1 6 _ rfl
    have q7 : W1.cell? ⟨w.heap.size, 7, none⟩ = some (.int .i64 x.gl.ty) := bb.2.1 7 _ rfl
    have q8 : W1.cell? ⟨w.heap.size, 8, none⟩ = some (.bool x.gl.mu) := bb.2.1 8 _ rfl
    have HC1 := Hid.mk' (iname_ok x.nm W1 l1)
    generalize ht1 : nameB x.nm = t1 at HC1
    cases t1 <;>
    · go_wp2_with fail
      refine HC1.out.mono ?_
      rintro e W2 ⟨rfl, hb1⟩
      have hb := hb.trans (hb1.mono hb.size)
      clear hb1 bb
      go_wp2
      go_ret
      exact ⟨by simp [impB, ht0, ht1, HF.out], hb⟩
  · have HF2 : Hid (impB x = false) := kind_oth (by rw [HF.out]; revert hall; cases z1 <;> cases z2 <;> cases z3 <;> simp)
    clear HF bb bc
    cases z1 <;> cases z2 <;> cases z3 <;> first
    | (exact absurd rfl hall)
    | (clear hall
       go_wp2
       go_ret
       exact ⟨by rw [HF2.out]; rfl, hb⟩)
set_option maxHeartbeats 4000000 in
theorem iimp1 (x : Imp) (w : World) (hl : Imp.LB 1048576 x) (k0 : x.kind = 1) :
    Calls Tryz.prog 50 #[.agg #[.string x.mod, .string x.nm, .int .i64 x.kind, .int .i64 x.ty, .int .i64 x.lim.min, .int .i64 x.lim.max, .bool x.lim.has, .int .i64 x.gl.ty, .bool x.gl.mu]] w fun e w' => e = .returned (.bool (impB x)) ∧ Below w.heap.size w w' := by
  obtain ⟨l0, l1⟩ := hl
  have KK := Hid.mk' k0
  clear k0
  go_enter Tryz.func50, Tryz.ntmps50
  go_upto_region 1 with fail
  refine wp_gen (fun W => Bk W w.heap.size [.string x.mod, .string x.nm, .int .i64 x.kind, .int .i64 x.ty, .int .i64 x.lim.min, .int .i64 x.lim.max, .bool x.lim.has, .int .i64 x.gl.ty, .bool x.gl.mu] ∧ Below w.heap.size w W ∧ W.heap.size = w.heap.size + 1) ⟨Bk.new, (Below.refl _ _).alloc (Nat.le_refl _) _, by simp⟩ ?_
  rintro W ⟨bb, hb, hs⟩
  have q0 : W.cell? ⟨w.heap.size, 0, none⟩ = some (.string x.mod) := bb.2.1 0 _ rfl
  have q1 : W.cell? ⟨w.heap.size, 1, none⟩ = some (.string x.nm) := bb.2.1 1 _ rfl
  have q2 : W.cell? ⟨w.heap.size, 2, none⟩ = some (.int .i64 x.kind) := bb.2.1 2 _ rfl
  have q3 : W.cell? ⟨w.heap.size, 3, none⟩ = some (.int .i64 x.ty) := bb.2.1 3 _ rfl
  have q4 : W.cell? ⟨w.heap.size, 4, none⟩ = some (.int .i64 x.lim.min) := bb.2.1 4 _ rfl
  have q5 : W.cell? ⟨w.heap.size, 5, none⟩ = some (.int .i64 x.lim.max) := bb.2.1 5 _ rfl
  have q6 : W.cell? ⟨w.heap.size, 6, none⟩ = some (.bool x.lim.has) := bb.2.1 6 _ rfl
  have q7 : W.cell? ⟨w.heap.size, 7, none⟩ = some (.int .i64 x.gl.ty) := bb.2.1 7 _ rfl
  have q8 : W.cell? ⟨w.heap.size, 8, none⟩ = some (.bool x.gl.mu) := bb.2.1 8 _ rfl
  go_region
  go_upto_region 2 with fail
  refine wp_gen (fun V => Bk V w.heap.size [.string x.mod, .string x.nm, .int .i64 x.kind, .int .i64 x.ty, .int .i64 x.lim.min, .int .i64 x.lim.max, .bool x.lim.has, .int .i64 x.gl.ty, .bool x.gl.mu] ∧ Bk V (w.heap.size + 1) [.string x.mod, .string x.nm, .int .i64 x.kind, .int .i64 x.ty, .int .i64 x.lim.min, .int .i64 x.lim.max, .bool x.lim.has, .int .i64 x.gl.ty, .bool x.gl.mu] ∧ Below w.heap.size w V) ⟨Bk.drew bb.past, by rw [← hs]; exact Bk.drew Bk.new, hb.trans ((((Below.refl _ W).alloc (Nat.le_refl _) _).drew).mono hb.size)⟩ ?_
  clear bb hb hs q0 q1 q2 q3 q4 q5 q6 q7 q8
  rintro V ⟨bb, bc, hb⟩
  have q0 : V.cell? ⟨w.heap.size, 0, none⟩ = some (.string x.mod) := bb.2.1 0 _ rfl
  have q1 : V.cell? ⟨w.heap.size, 1, none⟩ = some (.string x.nm) := bb.2.1 1 _ rfl
  have q2 : V.cell? ⟨w.heap.size, 2, none⟩ = some (.int .i64 x.kind) := bb.2.1 2 _ rfl
  have q3 : V.cell? ⟨w.heap.size, 3, none⟩ = some (.int .i64 x.ty) := bb.2.1 3 _ rfl
  have q4 : V.cell? ⟨w.heap.size, 4, none⟩ = some (.int .i64 x.lim.min) := bb.2.1 4 _ rfl
  have q5 : V.cell? ⟨w.heap.size, 5, none⟩ = some (.int .i64 x.lim.max) := bb.2.1 5 _ rfl
  have q6 : V.cell? ⟨w.heap.size, 6, none⟩ = some (.bool x.lim.has) := bb.2.1 6 _ rfl
  have q7 : V.cell? ⟨w.heap.size, 7, none⟩ = some (.int .i64 x.gl.ty) := bb.2.1 7 _ rfl
  have q8 : V.cell? ⟨w.heap.size, 8, none⟩ = some (.bool x.gl.mu) := bb.2.1 8 _ rfl
  have p0 : V.cell? ⟨w.heap.size + 1, 0, none⟩ = some (.string x.mod) := bc.2.1 0 _ rfl
  have p1 : V.cell? ⟨w.heap.size + 1, 1, none⟩ = some (.string x.nm) := bc.2.1 1 _ rfl
  have p2 : V.cell? ⟨w.heap.size + 1, 2, none⟩ = some (.int .i64 x.kind) := bc.2.1 2 _ rfl
  have p3 : V.cell? ⟨w.heap.size + 1, 3, none⟩ = some (.int .i64 x.ty) := bc.2.1 3 _ rfl
  have p4 : V.cell? ⟨w.heap.size + 1, 4, none⟩ = some (.int .i64 x.lim.min) := bc.2.1 4 _ rfl
  have p5 : V.cell? ⟨w.heap.size + 1, 5, none⟩ = some (.int .i64 x.lim.max) := bc.2.1 5 _ rfl
  have p6 : V.cell? ⟨w.heap.size + 1, 6, none⟩ = some (.bool x.lim.has) := bc.2.1 6 _ rfl
  have p7 : V.cell? ⟨w.heap.size + 1, 7, none⟩ = some (.int .i64 x.gl.ty) := bc.2.1 7 _ rfl
  have p8 : V.cell? ⟨w.heap.size + 1, 8, none⟩ = some (.bool x.gl.mu) := bc.2.1 8 _ rfl
  have EL := eqLimZ x.lim
  have EG := eqGtyZ x.gl
  have EL0 : ∀ w, (binOp .eql 99 (.agg #[.int .i64 0, .int .i64 0, .bool false]) (.agg #[.int .i64 0, .int .i64 0, .bool false])).run Tryz.prog w = .ok (.bool true) w := fun w => eqLim w 0 0 false
  have EG0 : ∀ w, (binOp .eql 101 (.agg #[.int .i64 0, .bool false]) (.agg #[.int .i64 0, .bool false])).run Tryz.prog w = .ok (.bool true) w := fun w => eqGty w 0 false
  generalize hz1 : limZ x.lim = z1 at EL
  generalize hz2 : gtZ x.gl = z2 at EG
  have k0 := KK.out
  have HK := Hid.mk' (ilim_c x.lim V)
  generalize hz3 : limB x.lim = z3 at HK
  have HF : Hid (impK x = (x.ty == 0 && z3 && z2)) := by simp [Hid, impK1 (.inl k0), hz1, hz2, hz3]
  clear hz1 hz2 hz3
  go_wp2_with fail
  refine HK.out.mono ?_
  rintro e V1 ⟨rfl, hv⟩
  have bb := bb.keep hv
  have bc := bc.keep hv
  have hb := hb.trans (hv.mono hb.size)
  clear hv HK q0 q1 q2 q3 q4 q5 q6 q7 q8 p0 p1 p2 p3 p4 p5 p6 p7 p8
  have ne : w.heap.size + 1 ≠ w.heap.size := by omega
  have q0 : V1.cell? ⟨w.heap.size, 0, none⟩ = some (.string x.mod) := bb.2.1 0 _ rfl
  have q1 : V1.cell? ⟨w.heap.size, 1, none⟩ = some (.string x.nm) := bb.2.1 1 _ rfl
  have q2 : V1.cell? ⟨w.heap.size, 2, none⟩ = some (.int .i64 x.kind) := bb.2.1 2 _ rfl
  have q3 : V1.cell? ⟨w.heap.size, 3, none⟩ = some (.int .i64 x.ty) := bb.2.1 3 _ rfl
  have q4 : V1.cell? ⟨w.heap.size, 4, none⟩ = some (.int .i64 x.lim.min) := bb.2.1 4 _ rfl
  have q5 : V1.cell? ⟨w.heap.size, 5, none⟩ = some (.int .i64 x.lim.max) := bb.2.1 5 _ rfl
  have q6 : V1.cell? ⟨w.heap.size, 6, none⟩ = some (.bool x.lim.has) := bb.2.1 6 _ rfl
  have q7 : V1.cell? ⟨w.heap.size, 7, none⟩ = some (.int .i64 x.gl.ty) := bb.2.1 7 _ rfl
  have q8 : V1.cell? ⟨w.heap.size, 8, none⟩ = some (.bool x.gl.mu) := bb.2.1 8 _ rfl
  have p0 : V1.cell? ⟨w.heap.size + 1, 0, none⟩ = some (.string x.mod) := bc.2.1 0 _ rfl
  have p1 : V1.cell? ⟨w.heap.size + 1, 1, none⟩ = some (.string x.nm) := bc.2.1 1 _ rfl
  have p2 : V1.cell? ⟨w.heap.size + 1, 2, none⟩ = some (.int .i64 x.kind) := bc.2.1 2 _ rfl
  have p3 : V1.cell? ⟨w.heap.size + 1, 3, none⟩ = some (.int .i64 x.ty) := bc.2.1 3 _ rfl
  have p4 : V1.cell? ⟨w.heap.size + 1, 4, none⟩ = some (.int .i64 x.lim.min) := bc.2.1 4 _ rfl
  have p5 : V1.cell? ⟨w.heap.size + 1, 5, none⟩ = some (.int .i64 x.lim.max) := bc.2.1 5 _ rfl
  have p6 : V1.cell? ⟨w.heap.size + 1, 6, none⟩ = some (.bool x.lim.has) := bc.2.1 6 _ rfl
  have p7 : V1.cell? ⟨w.heap.size + 1, 7, none⟩ = some (.int .i64 x.gl.ty) := bc.2.1 7 _ rfl
  have p8 : V1.cell? ⟨w.heap.size + 1, 8, none⟩ = some (.bool x.gl.mu) := bc.2.1 8 _ rfl
  have fz : ∀ j, V1.frozen? ⟨w.heap.size + 1, j, none⟩ = false := bc.2.2
  go_upto_region 10 with fail
  refine wp_gen (fun V' => Bk V' w.heap.size [.string x.mod, .string x.nm, .int .i64 x.kind, .int .i64 x.ty, .int .i64 x.lim.min, .int .i64 x.lim.max, .bool x.lim.has, .int .i64 x.gl.ty, .bool x.gl.mu] ∧ Bk V' (w.heap.size + 1) [.string x.mod, .string x.nm, .int .i64 x.kind, .int .i64 x.ty, .int .i64 0, .int .i64 0, .bool false, .int .i64 x.gl.ty, .bool x.gl.mu] ∧ Below w.heap.size w V') ⟨(((bb.other ne).other ne).other ne), bc.set.set.set, (((hb.setCell (Nat.le_succ _) _).setCell (Nat.le_succ _) _).setCell (Nat.le_succ _) _)⟩ ?_
  clear bb bc hb fz q0 q1 q2 q3 q4 q5 q6 q7 q8 p0 p1 p2 p3 p4 p5 p6 p7 p8
  rintro V ⟨bb, bc, hb⟩
  have q0 : V.cell? ⟨w.heap.size, 0, none⟩ = some (.string x.mod) := bb.2.1 0 _ rfl
  have q1 : V.cell? ⟨w.heap.size, 1, none⟩ = some (.string x.nm) := bb.2.1 1 _ rfl
  have q2 : V.cell? ⟨w.heap.size, 2, none⟩ = some (.int .i64 x.kind) := bb.2.1 2 _ rfl
  have q3 : V.cell? ⟨w.heap.size, 3, none⟩ = some (.int .i64 x.ty) := bb.2.1 3 _ rfl
  have q4 : V.cell? ⟨w.heap.size, 4, none⟩ = some (.int .i64 x.lim.min) := bb.2.1 4 _ rfl
  have q5 : V.cell? ⟨w.heap.size, 5, none⟩ = some (.int .i64 x.lim.max) := bb.2.1 5 _ rfl
  have q6 : V.cell? ⟨w.heap.size, 6, none⟩ = some (.bool x.lim.has) := bb.2.1 6 _ rfl
  have q7 : V.cell? ⟨w.heap.size, 7, none⟩ = some (.int .i64 x.gl.ty) := bb.2.1 7 _ rfl
  have q8 : V.cell? ⟨w.heap.size, 8, none⟩ = some (.bool x.gl.mu) := bb.2.1 8 _ rfl
  have p0 : V.cell? ⟨w.heap.size + 1, 0, none⟩ = some (.string x.mod) := bc.2.1 0 _ rfl
  have p1 : V.cell? ⟨w.heap.size + 1, 1, none⟩ = some (.string x.nm) := bc.2.1 1 _ rfl
  have p2 : V.cell? ⟨w.heap.size + 1, 2, none⟩ = some (.int .i64 x.kind) := bc.2.1 2 _ rfl
  have p3 : V.cell? ⟨w.heap.size + 1, 3, none⟩ = some (.int .i64 x.ty) := bc.2.1 3 _ rfl
  have p4 : V.cell? ⟨w.heap.size + 1, 4, none⟩ = some (.int .i64 0) := bc.2.1 4 _ rfl
  have p5 : V.cell? ⟨w.heap.size + 1, 5, none⟩ = some (.int .i64 0) := bc.2.1 5 _ rfl
  have p6 : V.cell? ⟨w.heap.size + 1, 6, none⟩ = some (.bool false) := bc.2.1 6 _ rfl
  have p7 : V.cell? ⟨w.heap.size + 1, 7, none⟩ = some (.int .i64 x.gl.ty) := bc.2.1 7 _ rfl
  have p8 : V.cell? ⟨w.heap.size + 1, 8, none⟩ = some (.bool x.gl.mu) := bc.2.1 8 _ rfl
  by_cases ht : x.ty = 0
  case neg =>
    have HF2 : Hid (impB x = false) := kind_oth (by rw [HF.out]; simp [ht])
    clear HF bb bc
    cases z3 <;>
    · go_wp2
      go_ret
      exact ⟨by rw [HF2.out]; rfl, hb⟩
  have HF : Hid (impK x = (z3 && z2)) := by rw [Hid, HF.out]; simp [ht]
  by_cases hall : (z2 && z3) = true
  · have HF : Hid (impK x = true) := by rw [Hid, HF.out]; revert hall; cases z2 <;> cases z3 <;> simp
    simp only [Bool.and_eq_true] at hall
    obtain ⟨rfl, rfl⟩ := hall
    clear bc
    have HC0 := Hid.mk' (iname_ok x.mod V l0)
    generalize ht0 : nameB x.mod = t0 at HC0
    cases t0
    · go_wp2_with fail
      refine HC0.out.mono ?_
      rintro e W1 ⟨rfl, hb0⟩
      have hb := hb.trans (hb0.mono hb.size)
      clear hb0 bb
      go_wp2
      go_ret
      exact ⟨by simp [impB, ht0], hb⟩
    go_wp2_with fail
    refine HC0.out.mono ?_
    rintro e W1 ⟨rfl, hb0⟩
    have bb := bb.keep hb0
    have hb := hb.trans (hb0.mono hb.size)
    clear hb0 HC0
    have q0 : W1.cell? ⟨w.heap.size, 0, none⟩ = some (.string x.mod) := bb.2.1 0 _ rfl
    have q1 : W1.cell? ⟨w.heap.size, 1, none⟩ = some (.string x.nm) := bb.2.1 1 _ rfl
    have q2 : W1.cell? ⟨w.heap.size, 2, none⟩ = some (.int .i64 x.kind) := bb.2.1 2 _ rfl
    have q3 : W1.cell? ⟨w.heap.size, 3, none⟩ = some (.int .i64 x.ty) := bb.2.1 3 _ rfl
    have q4 : W1.cell? ⟨w.heap.size, 4, none⟩ = some (.int .i64 x.lim.min) := bb.2.1 4 _ rfl
    have q5 : W1.cell? ⟨w.heap.size, 5, none⟩ = some (.int .i64 x.lim.max) := bb.2.1 5 _ rfl
    have q6 : W1.cell? ⟨w.heap.size, 6, none⟩ = some (.bool x.lim.has) := bb.2.1 6 _ rfl
    have q7 : W1.cell? ⟨w.heap.size, 7, none⟩ = some (.int .i64 x.gl.ty) := bb.2.1 7 _ rfl
    have q8 : W1.cell? ⟨w.heap.size, 8, none⟩ = some (.bool x.gl.mu) := bb.2.1 8 _ rfl
    have HC1 := Hid.mk' (iname_ok x.nm W1 l1)
    generalize ht1 : nameB x.nm = t1 at HC1
    cases t1 <;>
    · go_wp2_with fail
      refine HC1.out.mono ?_
      rintro e W2 ⟨rfl, hb1⟩
      have hb := hb.trans (hb1.mono hb.size)
      clear hb1 bb
      go_wp2
      go_ret
      exact ⟨by simp [impB, ht0, ht1, HF.out], hb⟩
  · have HF2 : Hid (impB x = false) := kind_oth (by rw [HF.out]; revert hall; cases z2 <;> cases z3 <;> simp)
    clear HF bb bc
    cases z2 <;> cases z3 <;> first
    | (exact absurd rfl hall)
    | (clear hall
       go_wp2
       go_ret
       exact ⟨by rw [HF2.out]; rfl, hb⟩)
set_option maxHeartbeats 4000000 in
theorem iimp2 (x : Imp) (w : World) (hl : Imp.LB 1048576 x) (k0 : x.kind = 2) :
    Calls Tryz.prog 50 #[.agg #[.string x.mod, .string x.nm, .int .i64 x.kind, .int .i64 x.ty, .int .i64 x.lim.min, .int .i64 x.lim.max, .bool x.lim.has, .int .i64 x.gl.ty, .bool x.gl.mu]] w fun e w' => e = .returned (.bool (impB x)) ∧ Below w.heap.size w w' := by
  obtain ⟨l0, l1⟩ := hl
  have KK := Hid.mk' k0
  clear k0
  go_enter Tryz.func50, Tryz.ntmps50
  go_upto_region 1 with fail
  refine wp_gen (fun W => Bk W w.heap.size [.string x.mod, .string x.nm, .int .i64 x.kind, .int .i64 x.ty, .int .i64 x.lim.min, .int .i64 x.lim.max, .bool x.lim.has, .int .i64 x.gl.ty, .bool x.gl.mu] ∧ Below w.heap.size w W ∧ W.heap.size = w.heap.size + 1) ⟨Bk.new, (Below.refl _ _).alloc (Nat.le_refl _) _, by simp⟩ ?_
  rintro W ⟨bb, hb, hs⟩
  have q0 : W.cell? ⟨w.heap.size, 0, none⟩ = some (.string x.mod) := bb.2.1 0 _ rfl
  have q1 : W.cell? ⟨w.heap.size, 1, none⟩ = some (.string x.nm) := bb.2.1 1 _ rfl
  have q2 : W.cell? ⟨w.heap.size, 2, none⟩ = some (.int .i64 x.kind) := bb.2.1 2 _ rfl
  have q3 : W.cell? ⟨w.heap.size, 3, none⟩ = some (.int .i64 x.ty) := bb.2.1 3 _ rfl
  have q4 : W.cell? ⟨w.heap.size, 4, none⟩ = some (.int .i64 x.lim.min) := bb.2.1 4 _ rfl
  have q5 : W.cell? ⟨w.heap.size, 5, none⟩ = some (.int .i64 x.lim.max) := bb.2.1 5 _ rfl
  have q6 : W.cell? ⟨w.heap.size, 6, none⟩ = some (.bool x.lim.has) := bb.2.1 6 _ rfl
  have q7 : W.cell? ⟨w.heap.size, 7, none⟩ = some (.int .i64 x.gl.ty) := bb.2.1 7 _ rfl
  have q8 : W.cell? ⟨w.heap.size, 8, none⟩ = some (.bool x.gl.mu) := bb.2.1 8 _ rfl
  go_region
  go_upto_region 2 with fail
  refine wp_gen (fun V => Bk V w.heap.size [.string x.mod, .string x.nm, .int .i64 x.kind, .int .i64 x.ty, .int .i64 x.lim.min, .int .i64 x.lim.max, .bool x.lim.has, .int .i64 x.gl.ty, .bool x.gl.mu] ∧ Bk V (w.heap.size + 1) [.string x.mod, .string x.nm, .int .i64 x.kind, .int .i64 x.ty, .int .i64 x.lim.min, .int .i64 x.lim.max, .bool x.lim.has, .int .i64 x.gl.ty, .bool x.gl.mu] ∧ Below w.heap.size w V) ⟨Bk.drew bb.past, by rw [← hs]; exact Bk.drew Bk.new, hb.trans ((((Below.refl _ W).alloc (Nat.le_refl _) _).drew).mono hb.size)⟩ ?_
  clear bb hb hs q0 q1 q2 q3 q4 q5 q6 q7 q8
  rintro V ⟨bb, bc, hb⟩
  have q0 : V.cell? ⟨w.heap.size, 0, none⟩ = some (.string x.mod) := bb.2.1 0 _ rfl
  have q1 : V.cell? ⟨w.heap.size, 1, none⟩ = some (.string x.nm) := bb.2.1 1 _ rfl
  have q2 : V.cell? ⟨w.heap.size, 2, none⟩ = some (.int .i64 x.kind) := bb.2.1 2 _ rfl
  have q3 : V.cell? ⟨w.heap.size, 3, none⟩ = some (.int .i64 x.ty) := bb.2.1 3 _ rfl
  have q4 : V.cell? ⟨w.heap.size, 4, none⟩ = some (.int .i64 x.lim.min) := bb.2.1 4 _ rfl
  have q5 : V.cell? ⟨w.heap.size, 5, none⟩ = some (.int .i64 x.lim.max) := bb.2.1 5 _ rfl
  have q6 : V.cell? ⟨w.heap.size, 6, none⟩ = some (.bool x.lim.has) := bb.2.1 6 _ rfl
  have q7 : V.cell? ⟨w.heap.size, 7, none⟩ = some (.int .i64 x.gl.ty) := bb.2.1 7 _ rfl
  have q8 : V.cell? ⟨w.heap.size, 8, none⟩ = some (.bool x.gl.mu) := bb.2.1 8 _ rfl
  have p0 : V.cell? ⟨w.heap.size + 1, 0, none⟩ = some (.string x.mod) := bc.2.1 0 _ rfl
  have p1 : V.cell? ⟨w.heap.size + 1, 1, none⟩ = some (.string x.nm) := bc.2.1 1 _ rfl
  have p2 : V.cell? ⟨w.heap.size + 1, 2, none⟩ = some (.int .i64 x.kind) := bc.2.1 2 _ rfl
  have p3 : V.cell? ⟨w.heap.size + 1, 3, none⟩ = some (.int .i64 x.ty) := bc.2.1 3 _ rfl
  have p4 : V.cell? ⟨w.heap.size + 1, 4, none⟩ = some (.int .i64 x.lim.min) := bc.2.1 4 _ rfl
  have p5 : V.cell? ⟨w.heap.size + 1, 5, none⟩ = some (.int .i64 x.lim.max) := bc.2.1 5 _ rfl
  have p6 : V.cell? ⟨w.heap.size + 1, 6, none⟩ = some (.bool x.lim.has) := bc.2.1 6 _ rfl
  have p7 : V.cell? ⟨w.heap.size + 1, 7, none⟩ = some (.int .i64 x.gl.ty) := bc.2.1 7 _ rfl
  have p8 : V.cell? ⟨w.heap.size + 1, 8, none⟩ = some (.bool x.gl.mu) := bc.2.1 8 _ rfl
  have EL := eqLimZ x.lim
  have EG := eqGtyZ x.gl
  have EL0 : ∀ w, (binOp .eql 99 (.agg #[.int .i64 0, .int .i64 0, .bool false]) (.agg #[.int .i64 0, .int .i64 0, .bool false])).run Tryz.prog w = .ok (.bool true) w := fun w => eqLim w 0 0 false
  have EG0 : ∀ w, (binOp .eql 101 (.agg #[.int .i64 0, .bool false]) (.agg #[.int .i64 0, .bool false])).run Tryz.prog w = .ok (.bool true) w := fun w => eqGty w 0 false
  generalize hz1 : limZ x.lim = z1 at EL
  generalize hz2 : gtZ x.gl = z2 at EG
  have k0 := KK.out
  have HK := Hid.mk' (ilim_c x.lim V)
  generalize hz3 : limB x.lim = z3 at HK
  have HF : Hid (impK x = (x.ty == 0 && z3 && z2)) := by simp [Hid, impK1 (.inr k0), hz1, hz2, hz3]
  clear hz1 hz2 hz3
  go_wp2_with fail
  refine HK.out.mono ?_
  rintro e V1 ⟨rfl, hv⟩
  have bb := bb.keep hv
  have bc := bc.keep hv
  have hb := hb.trans (hv.mono hb.size)
  clear hv HK q0 q1 q2 q3 q4 q5 q6 q7 q8 p0 p1 p2 p3 p4 p5 p6 p7 p8
  have ne : w.heap.size + 1 ≠ w.heap.size := by omega
  have q0 : V1.cell? ⟨w.heap.size, 0, none⟩ = some (.string x.mod) := bb.2.1 0 _ rfl
  have q1 : V1.cell? ⟨w.heap.size, 1, none⟩ = some (.string x.nm) := bb.2.1 1 _ rfl
  have q2 : V1.cell? ⟨w.heap.size, 2, none⟩ = some (.int .i64 x.kind) := bb.2.1 2 _ rfl
  have q3 : V1.cell? ⟨w.heap.size, 3, none⟩ = some (.int .i64 x.ty) := bb.2.1 3 _ rfl
  have q4 : V1.cell? ⟨w.heap.size, 4, none⟩ = some (.int .i64 x.lim.min) := bb.2.1 4 _ rfl
  have q5 : V1.cell? ⟨w.heap.size, 5, none⟩ = some (.int .i64 x.lim.max) := bb.2.1 5 _ rfl
  have q6 : V1.cell? ⟨w.heap.size, 6, none⟩ = some (.bool x.lim.has) := bb.2.1 6 _ rfl
  have q7 : V1.cell? ⟨w.heap.size, 7, none⟩ = some (.int .i64 x.gl.ty) := bb.2.1 7 _ rfl
  have q8 : V1.cell? ⟨w.heap.size, 8, none⟩ = some (.bool x.gl.mu) := bb.2.1 8 _ rfl
  have p0 : V1.cell? ⟨w.heap.size + 1, 0, none⟩ = some (.string x.mod) := bc.2.1 0 _ rfl
  have p1 : V1.cell? ⟨w.heap.size + 1, 1, none⟩ = some (.string x.nm) := bc.2.1 1 _ rfl
  have p2 : V1.cell? ⟨w.heap.size + 1, 2, none⟩ = some (.int .i64 x.kind) := bc.2.1 2 _ rfl
  have p3 : V1.cell? ⟨w.heap.size + 1, 3, none⟩ = some (.int .i64 x.ty) := bc.2.1 3 _ rfl
  have p4 : V1.cell? ⟨w.heap.size + 1, 4, none⟩ = some (.int .i64 x.lim.min) := bc.2.1 4 _ rfl
  have p5 : V1.cell? ⟨w.heap.size + 1, 5, none⟩ = some (.int .i64 x.lim.max) := bc.2.1 5 _ rfl
  have p6 : V1.cell? ⟨w.heap.size + 1, 6, none⟩ = some (.bool x.lim.has) := bc.2.1 6 _ rfl
  have p7 : V1.cell? ⟨w.heap.size + 1, 7, none⟩ = some (.int .i64 x.gl.ty) := bc.2.1 7 _ rfl
  have p8 : V1.cell? ⟨w.heap.size + 1, 8, none⟩ = some (.bool x.gl.mu) := bc.2.1 8 _ rfl
  have fz : ∀ j, V1.frozen? ⟨w.heap.size + 1, j, none⟩ = false := bc.2.2
  go_upto_region 10 with fail
  refine wp_gen (fun V' => Bk V' w.heap.size [.string x.mod, .string x.nm, .int .i64 x.kind, .int .i64 x.ty, .int .i64 x.lim.min, .int .i64 x.lim.max, .bool x.lim.has, .int .i64 x.gl.ty, .bool x.gl.mu] ∧ Bk V' (w.heap.size + 1) [.string x.mod, .string x.nm, .int .i64 x.kind, .int .i64 x.ty, .int .i64 0, .int .i64 0, .bool false, .int .i64 x.gl.ty, .bool x.gl.mu] ∧ Below w.heap.size w V') ⟨(((bb.other ne).other ne).other ne), bc.set.set.set, (((hb.setCell (Nat.le_succ _) _).setCell (Nat.le_succ _) _).setCell (Nat.le_succ _) _)⟩ ?_
  clear bb bc hb fz q0 q1 q2 q3 q4 q5 q6 q7 q8 p0 p1 p2 p3 p4 p5 p6 p7 p8
  rintro V ⟨bb, bc, hb⟩
  have q0 : V.cell? ⟨w.heap.size, 0, none⟩ = some (.string x.mod) := bb.2.1 0 _ rfl
  have q1 : V.cell? ⟨w.heap.size, 1, none⟩ = some (.string x.nm) := bb.2.1 1 _ rfl
  have q2 : V.cell? ⟨w.heap.size, 2, none⟩ = some (.int .i64 x.kind) := bb.2.1 2 _ rfl
  have q3 : V.cell? ⟨w.heap.size, 3, none⟩ = some (.int .i64 x.ty) := bb.2.1 3 _ rfl
  have q4 : V.cell? ⟨w.heap.size, 4, none⟩ = some (.int .i64 x.lim.min) := bb.2.1 4 _ rfl
  have q5 : V.cell? ⟨w.heap.size, 5, none⟩ = some (.int .i64 x.lim.max) := bb.2.1 5 _ rfl
  have q6 : V.cell? ⟨w.heap.size, 6, none⟩ = some (.bool x.lim.has) := bb.2.1 6 _ rfl
  have q7 : V.cell? ⟨w.heap.size, 7, none⟩ = some (.int .i64 x.gl.ty) := bb.2.1 7 _ rfl
  have q8 : V.cell? ⟨w.heap.size, 8, none⟩ = some (.bool x.gl.mu) := bb.2.1 8 _ rfl
  have p0 : V.cell? ⟨w.heap.size + 1, 0, none⟩ = some (.string x.mod) := bc.2.1 0 _ rfl
  have p1 : V.cell? ⟨w.heap.size + 1, 1, none⟩ = some (.string x.nm) := bc.2.1 1 _ rfl
  have p2 : V.cell? ⟨w.heap.size + 1, 2, none⟩ = some (.int .i64 x.kind) := bc.2.1 2 _ rfl
  have p3 : V.cell? ⟨w.heap.size + 1, 3, none⟩ = some (.int .i64 x.ty) := bc.2.1 3 _ rfl
  have p4 : V.cell? ⟨w.heap.size + 1, 4, none⟩ = some (.int .i64 0) := bc.2.1 4 _ rfl
  have p5 : V.cell? ⟨w.heap.size + 1, 5, none⟩ = some (.int .i64 0) := bc.2.1 5 _ rfl
  have p6 : V.cell? ⟨w.heap.size + 1, 6, none⟩ = some (.bool false) := bc.2.1 6 _ rfl
  have p7 : V.cell? ⟨w.heap.size + 1, 7, none⟩ = some (.int .i64 x.gl.ty) := bc.2.1 7 _ rfl
  have p8 : V.cell? ⟨w.heap.size + 1, 8, none⟩ = some (.bool x.gl.mu) := bc.2.1 8 _ rfl
  by_cases ht : x.ty = 0
  case neg =>
    have HF2 : Hid (impB x = false) := kind_oth (by rw [HF.out]; simp [ht])
    clear HF bb bc
    cases z3 <;>
    · go_wp2
      go_ret
      exact ⟨by rw [HF2.out]; rfl, hb⟩
  have HF : Hid (impK x = (z3 && z2)) := by rw [Hid, HF.out]; simp [ht]
  by_cases hall : (z2 && z3) = true
  · have HF : Hid (impK x = true) := by rw [Hid, HF.out]; revert hall; cases z2 <;> cases z3 <;> simp
    simp only [Bool.and_eq_true] at hall
    obtain ⟨rfl, rfl⟩ := hall
    clear bc
    have HC0 := Hid.mk' (iname_ok x.mod V l0)
    generalize ht0 : nameB x.mod = t0 at HC0
    cases t0
    · go_wp2_with fail
      refine HC0.out.mono ?_
      rintro e W1 ⟨rfl, hb0⟩
      have hb := hb.trans (hb0.mono hb.size)
      clear hb0 bb
      go_wp2
      go_ret
      exact ⟨by simp [impB, ht0], hb⟩
    go_wp2_with fail
    refine HC0.out.mono ?_
    rintro e W1 ⟨rfl, hb0⟩
    have bb := bb.keep hb0
    have hb := hb.trans (hb0.mono hb.size)
    clear hb0 HC0
    have q0 : W1.cell? ⟨w.heap.size, 0, none⟩ = some (.string x.mod) := bb.2.1 0 _ rfl
    have q1 : W1.cell? ⟨w.heap.size, 1, none⟩ = some (.string x.nm) := bb.2.1 1 _ rfl
    have q2 : W1.cell? ⟨w.heap.size, 2, none⟩ = some (.int .i64 x.kind) := bb.2.1 2 _ rfl
    have q3 : W1.cell? ⟨w.heap.size, 3, none⟩ = some (.int .i64 x.ty) := bb.2.1 3 _ rfl
    have q4 : W1.cell? ⟨w.heap.size, 4, none⟩ = some (.int .i64 x.lim.min) := bb.2.1 4 _ rfl
    have q5 : W1.cell? ⟨w.heap.size, 5, none⟩ = some (.int .i64 x.lim.max) := bb.2.1 5 _ rfl
    have q6 : W1.cell? ⟨w.heap.size, 6, none⟩ = some (.bool x.lim.has) := bb.2.1 6 _ rfl
    have q7 : W1.cell? ⟨w.heap.size, 7, none⟩ = some (.int .i64 x.gl.ty) := bb.2.1 7 _ rfl
    have q8 : W1.cell? ⟨w.heap.size, 8, none⟩ = some (.bool x.gl.mu) := bb.2.1 8 _ rfl
    have HC1 := Hid.mk' (iname_ok x.nm W1 l1)
    generalize ht1 : nameB x.nm = t1 at HC1
    cases t1 <;>
    · go_wp2_with fail
      refine HC1.out.mono ?_
      rintro e W2 ⟨rfl, hb1⟩
      have hb := hb.trans (hb1.mono hb.size)
      clear hb1 bb
      go_wp2
      go_ret
      exact ⟨by simp [impB, ht0, ht1, HF.out], hb⟩
  · have HF2 : Hid (impB x = false) := kind_oth (by rw [HF.out]; revert hall; cases z2 <;> cases z3 <;> simp)
    clear HF bb bc
    cases z2 <;> cases z3 <;> first
    | (exact absurd rfl hall)
    | (clear hall
       go_wp2
       go_ret
       exact ⟨by rw [HF2.out]; rfl, hb⟩)
set_option maxHeartbeats 4000000 in
theorem iimp3 (x : Imp) (w : World) (hl : Imp.LB 1048576 x) (k0 : x.kind = 3) :
    Calls Tryz.prog 50 #[.agg #[.string x.mod, .string x.nm, .int .i64 x.kind, .int .i64 x.ty, .int .i64 x.lim.min, .int .i64 x.lim.max, .bool x.lim.has, .int .i64 x.gl.ty, .bool x.gl.mu]] w fun e w' => e = .returned (.bool (impB x)) ∧ Below w.heap.size w w' := by
  obtain ⟨l0, l1⟩ := hl
  have KK := Hid.mk' k0
  clear k0
  go_enter Tryz.func50, Tryz.ntmps50
  go_upto_region 1 with fail
  refine wp_gen (fun W => Bk W w.heap.size [.string x.mod, .string x.nm, .int .i64 x.kind, .int .i64 x.ty, .int .i64 x.lim.min, .int .i64 x.lim.max, .bool x.lim.has, .int .i64 x.gl.ty, .bool x.gl.mu] ∧ Below w.heap.size w W ∧ W.heap.size = w.heap.size + 1) ⟨Bk.new, (Below.refl _ _).alloc (Nat.le_refl _) _, by simp⟩ ?_
  rintro W ⟨bb, hb, hs⟩
  have q0 : W.cell? ⟨w.heap.size, 0, none⟩ = some (.string x.mod) := bb.2.1 0 _ rfl
  have q1 : W.cell? ⟨w.heap.size, 1, none⟩ = some (.string x.nm) := bb.2.1 1 _ rfl
  have q2 : W.cell? ⟨w.heap.size, 2, none⟩ = some (.int .i64 x.kind) := bb.2.1 2 _ rfl
  have q3 : W.cell? ⟨w.heap.size, 3, none⟩ = some (.int .i64 x.ty) := bb.2.1 3 _ rfl
  have q4 : W.cell? ⟨w.heap.size, 4, none⟩ = some (.int .i64 x.lim.min) := bb.2.1 4 _ rfl
  have q5 : W.cell? ⟨w.heap.size, 5, none⟩ = some (.int .i64 x.lim.max) := bb.2.1 5 _ rfl
  have q6 : W.cell? ⟨w.heap.size, 6, none⟩ = some (.bool x.lim.has) := bb.2.1 6 _ rfl
  have q7 : W.cell? ⟨w.heap.size, 7, none⟩ = some (.int .i64 x.gl.ty) := bb.2.1 7 _ rfl
  have q8 : W.cell? ⟨w.heap.size, 8, none⟩ = some (.bool x.gl.mu) := bb.2.1 8 _ rfl
  go_region
  go_upto_region 2 with fail
  refine wp_gen (fun V => Bk V w.heap.size [.string x.mod, .string x.nm, .int .i64 x.kind, .int .i64 x.ty, .int .i64 x.lim.min, .int .i64 x.lim.max, .bool x.lim.has, .int .i64 x.gl.ty, .bool x.gl.mu] ∧ Bk V (w.heap.size + 1) [.string x.mod, .string x.nm, .int .i64 x.kind, .int .i64 x.ty, .int .i64 x.lim.min, .int .i64 x.lim.max, .bool x.lim.has, .int .i64 x.gl.ty, .bool x.gl.mu] ∧ Below w.heap.size w V) ⟨Bk.drew bb.past, by rw [← hs]; exact Bk.drew Bk.new, hb.trans ((((Below.refl _ W).alloc (Nat.le_refl _) _).drew).mono hb.size)⟩ ?_
  clear bb hb hs q0 q1 q2 q3 q4 q5 q6 q7 q8
  rintro V ⟨bb, bc, hb⟩
  have q0 : V.cell? ⟨w.heap.size, 0, none⟩ = some (.string x.mod) := bb.2.1 0 _ rfl
  have q1 : V.cell? ⟨w.heap.size, 1, none⟩ = some (.string x.nm) := bb.2.1 1 _ rfl
  have q2 : V.cell? ⟨w.heap.size, 2, none⟩ = some (.int .i64 x.kind) := bb.2.1 2 _ rfl
  have q3 : V.cell? ⟨w.heap.size, 3, none⟩ = some (.int .i64 x.ty) := bb.2.1 3 _ rfl
  have q4 : V.cell? ⟨w.heap.size, 4, none⟩ = some (.int .i64 x.lim.min) := bb.2.1 4 _ rfl
  have q5 : V.cell? ⟨w.heap.size, 5, none⟩ = some (.int .i64 x.lim.max) := bb.2.1 5 _ rfl
  have q6 : V.cell? ⟨w.heap.size, 6, none⟩ = some (.bool x.lim.has) := bb.2.1 6 _ rfl
  have q7 : V.cell? ⟨w.heap.size, 7, none⟩ = some (.int .i64 x.gl.ty) := bb.2.1 7 _ rfl
  have q8 : V.cell? ⟨w.heap.size, 8, none⟩ = some (.bool x.gl.mu) := bb.2.1 8 _ rfl
  have p0 : V.cell? ⟨w.heap.size + 1, 0, none⟩ = some (.string x.mod) := bc.2.1 0 _ rfl
  have p1 : V.cell? ⟨w.heap.size + 1, 1, none⟩ = some (.string x.nm) := bc.2.1 1 _ rfl
  have p2 : V.cell? ⟨w.heap.size + 1, 2, none⟩ = some (.int .i64 x.kind) := bc.2.1 2 _ rfl
  have p3 : V.cell? ⟨w.heap.size + 1, 3, none⟩ = some (.int .i64 x.ty) := bc.2.1 3 _ rfl
  have p4 : V.cell? ⟨w.heap.size + 1, 4, none⟩ = some (.int .i64 x.lim.min) := bc.2.1 4 _ rfl
  have p5 : V.cell? ⟨w.heap.size + 1, 5, none⟩ = some (.int .i64 x.lim.max) := bc.2.1 5 _ rfl
  have p6 : V.cell? ⟨w.heap.size + 1, 6, none⟩ = some (.bool x.lim.has) := bc.2.1 6 _ rfl
  have p7 : V.cell? ⟨w.heap.size + 1, 7, none⟩ = some (.int .i64 x.gl.ty) := bc.2.1 7 _ rfl
  have p8 : V.cell? ⟨w.heap.size + 1, 8, none⟩ = some (.bool x.gl.mu) := bc.2.1 8 _ rfl
  have EL := eqLimZ x.lim
  have EG := eqGtyZ x.gl
  have EL0 : ∀ w, (binOp .eql 99 (.agg #[.int .i64 0, .int .i64 0, .bool false]) (.agg #[.int .i64 0, .int .i64 0, .bool false])).run Tryz.prog w = .ok (.bool true) w := fun w => eqLim w 0 0 false
  have EG0 : ∀ w, (binOp .eql 101 (.agg #[.int .i64 0, .bool false]) (.agg #[.int .i64 0, .bool false])).run Tryz.prog w = .ok (.bool true) w := fun w => eqGty w 0 false
  generalize hz1 : limZ x.lim = z1 at EL
  generalize hz2 : gtZ x.gl = z2 at EG
  have k0 := KK.out
  have HK := Hid.mk' (igt_c x.gl V)
  generalize hz3 : tyB x.gl.ty = z3 at HK
  have HF : Hid (impK x = (x.ty == 0 && z1 && z3)) := by simp [Hid, impK3 k0, hz1, hz2, hz3]
  clear hz1 hz2 hz3
  go_wp2_with fail
  refine HK.out.mono ?_
  rintro e V1 ⟨rfl, hv⟩
  have bb := bb.keep hv
  have bc := bc.keep hv
  have hb := hb.trans (hv.mono hb.size)
  clear hv HK q0 q1 q2 q3 q4 q5 q6 q7 q8 p0 p1 p2 p3 p4 p5 p6 p7 p8
  have ne : w.heap.size + 1 ≠ w.heap.size := by omega
  have q0 : V1.cell? ⟨w.heap.size, 0, none⟩ = some (.string x.mod) := bb.2.1 0 _ rfl
  have q1 : V1.cell? ⟨w.heap.size, 1, none⟩ = some (.string x.nm) := bb.2.1 1 _ rfl
  have q2 : V1.cell? ⟨w.heap.size, 2, none⟩ = some (.int .i64 x.kind) := bb.2.1 2 _ rfl
  have q3 : V1.cell? ⟨w.heap.size, 3, none⟩ = some (.int .i64 x.ty) := bb.2.1 3 _ rfl
  have q4 : V1.cell? ⟨w.heap.size, 4, none⟩ = some (.int .i64 x.lim.min) := bb.2.1 4 _ rfl
  have q5 : V1.cell? ⟨w.heap.size, 5, none⟩ = some (.int .i64 x.lim.max) := bb.2.1 5 _ rfl
  have q6 : V1.cell? ⟨w.heap.size, 6, none⟩ = some (.bool x.lim.has) := bb.2.1 6 _ rfl
  have q7 : V1.cell? ⟨w.heap.size, 7, none⟩ = some (.int .i64 x.gl.ty) := bb.2.1 7 _ rfl
  have q8 : V1.cell? ⟨w.heap.size, 8, none⟩ = some (.bool x.gl.mu) := bb.2.1 8 _ rfl
  have p0 : V1.cell? ⟨w.heap.size + 1, 0, none⟩ = some (.string x.mod) := bc.2.1 0 _ rfl
  have p1 : V1.cell? ⟨w.heap.size + 1, 1, none⟩ = some (.string x.nm) := bc.2.1 1 _ rfl
  have p2 : V1.cell? ⟨w.heap.size + 1, 2, none⟩ = some (.int .i64 x.kind) := bc.2.1 2 _ rfl
  have p3 : V1.cell? ⟨w.heap.size + 1, 3, none⟩ = some (.int .i64 x.ty) := bc.2.1 3 _ rfl
  have p4 : V1.cell? ⟨w.heap.size + 1, 4, none⟩ = some (.int .i64 x.lim.min) := bc.2.1 4 _ rfl
  have p5 : V1.cell? ⟨w.heap.size + 1, 5, none⟩ = some (.int .i64 x.lim.max) := bc.2.1 5 _ rfl
  have p6 : V1.cell? ⟨w.heap.size + 1, 6, none⟩ = some (.bool x.lim.has) := bc.2.1 6 _ rfl
  have p7 : V1.cell? ⟨w.heap.size + 1, 7, none⟩ = some (.int .i64 x.gl.ty) := bc.2.1 7 _ rfl
  have p8 : V1.cell? ⟨w.heap.size + 1, 8, none⟩ = some (.bool x.gl.mu) := bc.2.1 8 _ rfl
  have fz : ∀ j, V1.frozen? ⟨w.heap.size + 1, j, none⟩ = false := bc.2.2
  go_upto_region 10 with fail
  refine wp_gen (fun V' => Bk V' w.heap.size [.string x.mod, .string x.nm, .int .i64 x.kind, .int .i64 x.ty, .int .i64 x.lim.min, .int .i64 x.lim.max, .bool x.lim.has, .int .i64 x.gl.ty, .bool x.gl.mu] ∧ Bk V' (w.heap.size + 1) [.string x.mod, .string x.nm, .int .i64 x.kind, .int .i64 x.ty, .int .i64 x.lim.min, .int .i64 x.lim.max, .bool x.lim.has, .int .i64 0, .bool false] ∧ Below w.heap.size w V') ⟨((bb.other ne).other ne), bc.set.set, ((hb.setCell (Nat.le_succ _) _).setCell (Nat.le_succ _) _)⟩ ?_
  clear bb bc hb fz q0 q1 q2 q3 q4 q5 q6 q7 q8 p0 p1 p2 p3 p4 p5 p6 p7 p8
  rintro V ⟨bb, bc, hb⟩
  have q0 : V.cell? ⟨w.heap.size, 0, none⟩ = some (.string x.mod) := bb.2.1 0 _ rfl
  have q1 : V.cell? ⟨w.heap.size, 1, none⟩ = some (.string x.nm) := bb.2.1 1 _ rfl
  have q2 : V.cell? ⟨w.heap.size, 2, none⟩ = some (.int .i64 x.kind) := bb.2.1 2 _ rfl
  have q3 : V.cell? ⟨w.heap.size, 3, none⟩ = some (.int .i64 x.ty) := bb.2.1 3 _ rfl
  have q4 : V.cell? ⟨w.heap.size, 4, none⟩ = some (.int .i64 x.lim.min) := bb.2.1 4 _ rfl
  have q5 : V.cell? ⟨w.heap.size, 5, none⟩ = some (.int .i64 x.lim.max) := bb.2.1 5 _ rfl
  have q6 : V.cell? ⟨w.heap.size, 6, none⟩ = some (.bool x.lim.has) := bb.2.1 6 _ rfl
  have q7 : V.cell? ⟨w.heap.size, 7, none⟩ = some (.int .i64 x.gl.ty) := bb.2.1 7 _ rfl
  have q8 : V.cell? ⟨w.heap.size, 8, none⟩ = some (.bool x.gl.mu) := bb.2.1 8 _ rfl
  have p0 : V.cell? ⟨w.heap.size + 1, 0, none⟩ = some (.string x.mod) := bc.2.1 0 _ rfl
  have p1 : V.cell? ⟨w.heap.size + 1, 1, none⟩ = some (.string x.nm) := bc.2.1 1 _ rfl
  have p2 : V.cell? ⟨w.heap.size + 1, 2, none⟩ = some (.int .i64 x.kind) := bc.2.1 2 _ rfl
  have p3 : V.cell? ⟨w.heap.size + 1, 3, none⟩ = some (.int .i64 x.ty) := bc.2.1 3 _ rfl
  have p4 : V.cell? ⟨w.heap.size + 1, 4, none⟩ = some (.int .i64 x.lim.min) := bc.2.1 4 _ rfl
  have p5 : V.cell? ⟨w.heap.size + 1, 5, none⟩ = some (.int .i64 x.lim.max) := bc.2.1 5 _ rfl
  have p6 : V.cell? ⟨w.heap.size + 1, 6, none⟩ = some (.bool x.lim.has) := bc.2.1 6 _ rfl
  have p7 : V.cell? ⟨w.heap.size + 1, 7, none⟩ = some (.int .i64 0) := bc.2.1 7 _ rfl
  have p8 : V.cell? ⟨w.heap.size + 1, 8, none⟩ = some (.bool false) := bc.2.1 8 _ rfl
  by_cases ht : x.ty = 0
  case neg =>
    have HF2 : Hid (impB x = false) := kind_oth (by rw [HF.out]; simp [ht])
    clear HF bb bc
    cases z3 <;>
    · go_wp2
      go_ret
      exact ⟨by rw [HF2.out]; rfl, hb⟩
  have HF : Hid (impK x = (z1 && z3)) := by rw [Hid, HF.out]; simp [ht]
  by_cases hall : (z1 && z3) = true
  · have HF : Hid (impK x = true) := by rw [Hid, HF.out]; revert hall; cases z1 <;> cases z3 <;> simp
    simp only [Bool.and_eq_true] at hall
    obtain ⟨rfl, rfl⟩ := hall
    clear bc
    have HC0 := Hid.mk' (iname_ok x.mod V l0)
    generalize ht0 : nameB x.mod = t0 at HC0
    cases t0
    · go_wp2_with fail
      refine HC0.out.mono ?_
      rintro e W1 ⟨rfl, hb0⟩
      have hb := hb.trans (hb0.mono hb.size)
      clear hb0 bb
      go_wp2
      go_ret
      exact ⟨by simp [impB, ht0], hb⟩
    go_wp2_with fail
    refine HC0.out.mono ?_
    rintro e W1 ⟨rfl, hb0⟩
    have bb := bb.keep hb0
    have hb := hb.trans (hb0.mono hb.size)
    clear hb0 HC0
    have q0 : W1.cell? ⟨w.heap.size, 0, none⟩ = some (.string x.mod) := bb.2.1 0 _ rfl
    have q1 : W1.cell? ⟨w.heap.size, 1, none⟩ = some (.string x.nm) := bb.2.1 1 _ rfl
    have q2 : W1.cell? ⟨w.heap.size, 2, none⟩ = some (.int .i64 x.kind) := bb.2.1 2 _ rfl
    have q3 : W1.cell? ⟨w.heap.size, 3, none⟩ = some (.int .i64 x.ty) := bb.2.1 3 _ rfl
    have q4 : W1.cell? ⟨w.heap.size, 4, none⟩ = some (.int .i64 x.lim.min) := bb.2.1 4 _ rfl
    have q5 : W1.cell? ⟨w.heap.size, 5, none⟩ = some (.int .i64 x.lim.max) := bb.2.1 5 _ rfl
    have q6 : W1.cell? ⟨w.heap.size, 6, none⟩ = some (.bool x.lim.has) := bb.2.1 6 _ rfl
    have q7 : W1.cell? ⟨w.heap.size, 7, none⟩ = some (.int .i64 x.gl.ty) := bb.2.1 7 _ rfl
    have q8 : W1.cell? ⟨w.heap.size, 8, none⟩ = some (.bool x.gl.mu) := bb.2.1 8 _ rfl
    have HC1 := Hid.mk' (iname_ok x.nm W1 l1)
    generalize ht1 : nameB x.nm = t1 at HC1
    cases t1 <;>
    · go_wp2_with fail
      refine HC1.out.mono ?_
      rintro e W2 ⟨rfl, hb1⟩
      have hb := hb.trans (hb1.mono hb.size)
      clear hb1 bb
      go_wp2
      go_ret
      exact ⟨by simp [impB, ht0, ht1, HF.out], hb⟩
  · have HF2 : Hid (impB x = false) := kind_oth (by rw [HF.out]; revert hall; cases z1 <;> cases z3 <;> simp)
    clear HF bb bc
    cases z1 <;> cases z3 <;> first
    | (exact absurd rfl hall)
    | (clear hall
       go_wp2
       go_ret
       exact ⟨by rw [HF2.out]; rfl, hb⟩)
set_option maxHeartbeats 4000000 in
theorem iimp4 (x : Imp) (w : World) (hl : Imp.LB 1048576 x) (k0 : ¬ x.kind = 0 ∧ ¬ x.kind = 1 ∧ ¬ x.kind = 2 ∧ ¬ x.kind = 3) :
    Calls Tryz.prog 50 #[.agg #[.string x.mod, .string x.nm, .int .i64 x.kind, .int .i64 x.ty, .int .i64 x.lim.min, .int .i64 x.lim.max, .bool x.lim.has, .int .i64 x.gl.ty, .bool x.gl.mu]] w fun e w' => e = .returned (.bool (impB x)) ∧ Below w.heap.size w w' := by
  obtain ⟨l0, l1⟩ := hl
  have KK := Hid.mk' k0
  clear k0
  go_enter Tryz.func50, Tryz.ntmps50
  go_upto_region 1 with fail
  refine wp_gen (fun W => Bk W w.heap.size [.string x.mod, .string x.nm, .int .i64 x.kind, .int .i64 x.ty, .int .i64 x.lim.min, .int .i64 x.lim.max, .bool x.lim.has, .int .i64 x.gl.ty, .bool x.gl.mu] ∧ Below w.heap.size w W ∧ W.heap.size = w.heap.size + 1) ⟨Bk.new, (Below.refl _ _).alloc (Nat.le_refl _) _, by simp⟩ ?_
  rintro W ⟨bb, hb, hs⟩
  have q0 : W.cell? ⟨w.heap.size, 0, none⟩ = some (.string x.mod) := bb.2.1 0 _ rfl
  have q1 : W.cell? ⟨w.heap.size, 1, none⟩ = some (.string x.nm) := bb.2.1 1 _ rfl
  have q2 : W.cell? ⟨w.heap.size, 2, none⟩ = some (.int .i64 x.kind) := bb.2.1 2 _ rfl
  have q3 : W.cell? ⟨w.heap.size, 3, none⟩ = some (.int .i64 x.ty) := bb.2.1 3 _ rfl
  have q4 : W.cell? ⟨w.heap.size, 4, none⟩ = some (.int .i64 x.lim.min) := bb.2.1 4 _ rfl
  have q5 : W.cell? ⟨w.heap.size, 5, none⟩ = some (.int .i64 x.lim.max) := bb.2.1 5 _ rfl
  have q6 : W.cell? ⟨w.heap.size, 6, none⟩ = some (.bool x.lim.has) := bb.2.1 6 _ rfl
  have q7 : W.cell? ⟨w.heap.size, 7, none⟩ = some (.int .i64 x.gl.ty) := bb.2.1 7 _ rfl
  have q8 : W.cell? ⟨w.heap.size, 8, none⟩ = some (.bool x.gl.mu) := bb.2.1 8 _ rfl
  go_region
  go_upto_region 2 with fail
  refine wp_gen (fun V => Bk V w.heap.size [.string x.mod, .string x.nm, .int .i64 x.kind, .int .i64 x.ty, .int .i64 x.lim.min, .int .i64 x.lim.max, .bool x.lim.has, .int .i64 x.gl.ty, .bool x.gl.mu] ∧ Bk V (w.heap.size + 1) [.string x.mod, .string x.nm, .int .i64 x.kind, .int .i64 x.ty, .int .i64 x.lim.min, .int .i64 x.lim.max, .bool x.lim.has, .int .i64 x.gl.ty, .bool x.gl.mu] ∧ Below w.heap.size w V) ⟨Bk.drew bb.past, by rw [← hs]; exact Bk.drew Bk.new, hb.trans ((((Below.refl _ W).alloc (Nat.le_refl _) _).drew).mono hb.size)⟩ ?_
  clear bb hb hs q0 q1 q2 q3 q4 q5 q6 q7 q8
  rintro V ⟨bb, bc, hb⟩
  have q0 : V.cell? ⟨w.heap.size, 0, none⟩ = some (.string x.mod) := bb.2.1 0 _ rfl
  have q1 : V.cell? ⟨w.heap.size, 1, none⟩ = some (.string x.nm) := bb.2.1 1 _ rfl
  have q2 : V.cell? ⟨w.heap.size, 2, none⟩ = some (.int .i64 x.kind) := bb.2.1 2 _ rfl
  have q3 : V.cell? ⟨w.heap.size, 3, none⟩ = some (.int .i64 x.ty) := bb.2.1 3 _ rfl
  have q4 : V.cell? ⟨w.heap.size, 4, none⟩ = some (.int .i64 x.lim.min) := bb.2.1 4 _ rfl
  have q5 : V.cell? ⟨w.heap.size, 5, none⟩ = some (.int .i64 x.lim.max) := bb.2.1 5 _ rfl
  have q6 : V.cell? ⟨w.heap.size, 6, none⟩ = some (.bool x.lim.has) := bb.2.1 6 _ rfl
  have q7 : V.cell? ⟨w.heap.size, 7, none⟩ = some (.int .i64 x.gl.ty) := bb.2.1 7 _ rfl
  have q8 : V.cell? ⟨w.heap.size, 8, none⟩ = some (.bool x.gl.mu) := bb.2.1 8 _ rfl
  have p0 : V.cell? ⟨w.heap.size + 1, 0, none⟩ = some (.string x.mod) := bc.2.1 0 _ rfl
  have p1 : V.cell? ⟨w.heap.size + 1, 1, none⟩ = some (.string x.nm) := bc.2.1 1 _ rfl
  have p2 : V.cell? ⟨w.heap.size + 1, 2, none⟩ = some (.int .i64 x.kind) := bc.2.1 2 _ rfl
  have p3 : V.cell? ⟨w.heap.size + 1, 3, none⟩ = some (.int .i64 x.ty) := bc.2.1 3 _ rfl
  have p4 : V.cell? ⟨w.heap.size + 1, 4, none⟩ = some (.int .i64 x.lim.min) := bc.2.1 4 _ rfl
  have p5 : V.cell? ⟨w.heap.size + 1, 5, none⟩ = some (.int .i64 x.lim.max) := bc.2.1 5 _ rfl
  have p6 : V.cell? ⟨w.heap.size + 1, 6, none⟩ = some (.bool x.lim.has) := bc.2.1 6 _ rfl
  have p7 : V.cell? ⟨w.heap.size + 1, 7, none⟩ = some (.int .i64 x.gl.ty) := bc.2.1 7 _ rfl
  have p8 : V.cell? ⟨w.heap.size + 1, 8, none⟩ = some (.bool x.gl.mu) := bc.2.1 8 _ rfl
  have EL := eqLimZ x.lim
  have EG := eqGtyZ x.gl
  have EL0 : ∀ w, (binOp .eql 99 (.agg #[.int .i64 0, .int .i64 0, .bool false]) (.agg #[.int .i64 0, .int .i64 0, .bool false])).run Tryz.prog w = .ok (.bool true) w := fun w => eqLim w 0 0 false
  have EG0 : ∀ w, (binOp .eql 101 (.agg #[.int .i64 0, .bool false]) (.agg #[.int .i64 0, .bool false])).run Tryz.prog w = .ok (.bool true) w := fun w => eqGty w 0 false
  generalize hz1 : limZ x.lim = z1 at EL
  generalize hz2 : gtZ x.gl = z2 at EG
  obtain ⟨k0, k1, k2, k3⟩ := KK.out
  have HF2 : Hid (impB x = false) := kind_oth (by rw [impK4 k0 k1 k2 k3]; simp)
  clear hz1 hz2 bb bc
  by_cases ht : x.ty = 0 <;> cases z1 <;> cases z2 <;>
  · go_wp2
    go_ret
    exact ⟨by rw [HF2.out]; rfl, hb⟩
theorem iimp_c (x : Imp) (w : World) (hI : Imp.Is 0 w x) (hl : Imp.LB 1048576 x) :
    Calls Tryz.prog 50 #[.agg #[.string x.mod, .string x.nm, .int .i64 x.kind, .int .i64 x.ty, .int .i64 x.lim.min, .int .i64 x.lim.max, .bool x.lim.has, .int .i64 x.gl.ty, .bool x.gl.mu]] w fun e w' => e = .returned (.bool (impB x)) ∧ Below w.heap.size w w' := by
  by_cases k0 : x.kind = 0
  · exact iimp0 x w hl k0
  by_cases k1 : x.kind = 1
  · exact iimp1 x w hl k1
  by_cases k2 : x.kind = 2
  · exact iimp2 x w hl k2
  by_cases k3 : x.kind = 3
  · exact iimp3 x w hl k3
  exact iimp4 x w hl ⟨k0, k1, k2, k3⟩
end Go.Proofs.YtdbmolambolmgaaGreat

set_option linter.unusedVariables false
namespace Go.Proofs.YtdbmolambolmgaaGreat
open Go.RowKit Go.Sort
set_option maxRecDepth 100000
def szs (x : Mod) : List Int := [0, x.types.length, x.imps.length, x.funcs.length, x.tabs.length, x.mems.length, x.globs.length, x.exps.length, (if x.hasS then 1 else 0), x.elems.length, x.codes.length, x.datas.length]
def writ (x : Mod) (n : Int) : Bool := decide (0 ≤ n ∧ n < 12) && decide (0 < (szs x).getD n.toNat 0)
def Mod.Ln (x : Mod) : Prop := x.types.length ≤ 1048576 ∧ x.imps.length ≤ 1048576 ∧ x.funcs.length ≤ 1048576 ∧ x.tabs.length ≤ 1048576 ∧ x.mems.length ≤ 1048576 ∧ x.globs.length ≤ 1048576 ∧ x.exps.length ≤ 1048576 ∧ x.elems.length ≤ 1048576 ∧ x.codes.length ≤ 1048576 ∧ x.datas.length ≤ 1048576 ∧ x.customs.length ≤ 1048576
theorem writ8 (x : Mod) : writ x 8 = x.hasS := by
  cases h : x.hasS <;> simp [writ, szs, h]
theorem writ_out {x : Mod} {n : Int} (h : ¬ (0 ≤ n ∧ n < 12)) : writ x n = false := by simp [writ, h]
/-- How many entries a section has. -/
def szN (x : Mod) (n : Int) : Int := if 0 ≤ n ∧ n < 12 then (szs x).getD n.toNat 0 else 0
theorem szN_writ (x : Mod) (n : Int) : decide (0 < szN x n) = writ x n := by
  unfold szN writ
  by_cases h : 0 ≤ n ∧ n < 12
  · simp [h]
  · simp [h]
theorem hidx_c (a : Option Addr) (n : Int) (w : World) : Calls Tryz.prog 186 #[.slice a 12 12, .int .i64 n] w fun e w' => e = .returned (.bool (decide (0 ≤ n ∧ n < 12))) ∧ w = w' := by
  by_cases h0 : 0 ≤ n
  · by_cases h1 : n < 12
    · have hd : decide (0 ≤ n ∧ n < 12) = true := by simp [h0, h1]
      rw [hd]
      clear hd
      go_enter Tryz.func186, Tryz.ntmps186
      go_wp2
      go_ret
      exact ⟨rfl, rfl⟩
    · have hd : decide (0 ≤ n ∧ n < 12) = false := by simp [h1]
      rw [hd]
      clear hd
      go_enter Tryz.func186, Tryz.ntmps186
      go_wp2
      go_ret
      exact ⟨rfl, rfl⟩
  · have hd : decide (0 ≤ n ∧ n < 12) = false := by simp [h0]
    rw [hd]
    clear hd
    go_enter Tryz.func186, Tryz.ntmps186
    go_wp2
    go_ret
    exact ⟨rfl, rfl⟩
set_option maxHeartbeats 8000000 in
theorem isz_false (x : Mod) (a1 : Option Addr) (c1 : Nat) (a2 : Option Addr) (c2 : Nat) (a3 : Option Addr) (c3 : Nat) (a4 : Option Addr) (c4 : Nat) (a5 : Option Addr) (c5 : Nat) (a6 : Option Addr) (c6 : Nat) (a7 : Option Addr) (c7 : Nat) (a8 : Option Addr) (c8 : Nat) (a9 : Option Addr) (c9 : Nat) (a10 : Option Addr) (c10 : Nat) (a11 : Option Addr) (c11 : Nat) (n : Int) (w : World) (hl : x.Ln) (hS : x.hasS = false) :
    Calls Tryz.prog 146 #[.agg #[.slice a1 x.types.length c1, .slice a2 x.imps.length c2, .slice a3 x.funcs.length c3, .slice a4 x.tabs.length c4, .slice a5 x.mems.length c5, .slice a6 x.globs.length c6, .slice a7 x.exps.length c7, .bool x.hasS, .int .i64 x.start, .slice a8 x.elems.length c8, .slice a9 x.codes.length c9, .slice a10 x.datas.length c10, .slice a11 x.customs.length c11], .int .i64 n] w fun e w' => e = .returned (.int .i64 (szN x n)) ∧ Below w.heap.size w w' := by
  obtain ⟨l1, l2, l3, l4, l5, l6, l7, l8, l9, l10, l11⟩ := hl
  have KH := Hid.mk' (fun a w => hidx_c a n w)
  have HS0 := Hid.mk' hS
  clear hS
  go_enter Tryz.func146, Tryz.ntmps146
  go_upto_region 1 with fail
  refine wp_gen (fun W => Bk W w.heap.size [.slice a1 x.types.length c1, .slice a2 x.imps.length c2, .slice a3 x.funcs.length c3, .slice a4 x.tabs.length c4, .slice a5 x.mems.length c5, .slice a6 x.globs.length c6, .slice a7 x.exps.length c7, .bool x.hasS, .int .i64 x.start, .slice a8 x.elems.length c8, .slice a9 x.codes.length c9, .slice a10 x.datas.length c10, .slice a11 x.customs.length c11] ∧ Below w.heap.size w W ∧ W.heap.size = w.heap.size + 1) ⟨Bk.new, (Below.refl _ _).alloc (Nat.le_refl _) _, by simp⟩ ?_
  rintro W ⟨bb, hb, hs⟩
  have q0 : W.cell? ⟨w.heap.size, 0, none⟩ = some (.slice a1 x.types.length c1) := bb.2.1 0 _ rfl
  have q1 : W.cell? ⟨w.heap.size, 1, none⟩ = some (.slice a2 x.imps.length c2) := bb.2.1 1 _ rfl
  have q2 : W.cell? ⟨w.heap.size, 2, none⟩ = some (.slice a3 x.funcs.length c3) := bb.2.1 2 _ rfl
  have q3 : W.cell? ⟨w.heap.size, 3, none⟩ = some (.slice a4 x.tabs.length c4) := bb.2.1 3 _ rfl
  have q4 : W.cell? ⟨w.heap.size, 4, none⟩ = some (.slice a5 x.mems.length c5) := bb.2.1 4 _ rfl
  have q5 : W.cell? ⟨w.heap.size, 5, none⟩ = some (.slice a6 x.globs.length c6) := bb.2.1 5 _ rfl
  have q6 : W.cell? ⟨w.heap.size, 6, none⟩ = some (.slice a7 x.exps.length c7) := bb.2.1 6 _ rfl
  have q7 : W.cell? ⟨w.heap.size, 7, none⟩ = some (.bool x.hasS) := bb.2.1 7 _ rfl
  have q8 : W.cell? ⟨w.heap.size, 8, none⟩ = some (.int .i64 x.start) := bb.2.1 8 _ rfl
  have q9 : W.cell? ⟨w.heap.size, 9, none⟩ = some (.slice a8 x.elems.length c8) := bb.2.1 9 _ rfl
  have q10 : W.cell? ⟨w.heap.size, 10, none⟩ = some (.slice a9 x.codes.length c9) := bb.2.1 10 _ rfl
  have q11 : W.cell? ⟨w.heap.size, 11, none⟩ = some (.slice a10 x.datas.length c10) := bb.2.1 11 _ rfl
  have q12 : W.cell? ⟨w.heap.size, 12, none⟩ = some (.slice a11 x.customs.length c11) := bb.2.1 12 _ rfl
  rw [HS0.out] at q7
  have HS := Hid.mk' hs
  clear hs
  go_upto_region 5 with fail
  refine wp_gen (fun V => Bk V W.heap.size [.int .i64 0, .int .i64 x.types.length, .int .i64 x.imps.length, .int .i64 x.funcs.length, .int .i64 x.tabs.length, .int .i64 x.mems.length, .int .i64 x.globs.length, .int .i64 x.exps.length, .int .i64 0, .int .i64 x.elems.length, .int .i64 x.codes.length, .int .i64 x.datas.length] ∧ Below w.heap.size w V) ⟨Bk.new, hb.trans (((Below.refl _ W).alloc (Nat.le_refl _) _).mono hb.size)⟩ ?_
  clear bb hb q0 q1 q2 q3 q4 q5 q6 q7 q8 q9 q10 q11 q12
  rintro V ⟨bb, hb⟩
  have p0 : V.cell? ⟨W.heap.size, 0, none⟩ = some (.int .i64 0) := bb.2.1 0 _ rfl
  have p1 : V.cell? ⟨W.heap.size, 1, none⟩ = some (.int .i64 x.types.length) := bb.2.1 1 _ rfl
  have p2 : V.cell? ⟨W.heap.size, 2, none⟩ = some (.int .i64 x.imps.length) := bb.2.1 2 _ rfl
  have p3 : V.cell? ⟨W.heap.size, 3, none⟩ = some (.int .i64 x.funcs.length) := bb.2.1 3 _ rfl
  have p4 : V.cell? ⟨W.heap.size, 4, none⟩ = some (.int .i64 x.tabs.length) := bb.2.1 4 _ rfl
  have p5 : V.cell? ⟨W.heap.size, 5, none⟩ = some (.int .i64 x.mems.length) := bb.2.1 5 _ rfl
  have p6 : V.cell? ⟨W.heap.size, 6, none⟩ = some (.int .i64 x.globs.length) := bb.2.1 6 _ rfl
  have p7 : V.cell? ⟨W.heap.size, 7, none⟩ = some (.int .i64 x.exps.length) := bb.2.1 7 _ rfl
  have p8 : V.cell? ⟨W.heap.size, 8, none⟩ = some (.int .i64 0) := bb.2.1 8 _ rfl
  have p9 : V.cell? ⟨W.heap.size, 9, none⟩ = some (.int .i64 x.elems.length) := bb.2.1 9 _ rfl
  have p10 : V.cell? ⟨W.heap.size, 10, none⟩ = some (.int .i64 x.codes.length) := bb.2.1 10 _ rfl
  have p11 : V.cell? ⟨W.heap.size, 11, none⟩ = some (.int .i64 x.datas.length) := bb.2.1 11 _ rfl
  clear bb
  by_cases hr : 0 ≤ n ∧ n < 12
  · have h12 : n = 0 ∨ n = 1 ∨ n = 2 ∨ n = 3 ∨ n = 4 ∨ n = 5 ∨ n = 6 ∨ n = 7 ∨ n = 8 ∨ n = 9 ∨ n = 10 ∨ n = 11 := by omega
    rw [decide_eq_true hr] at KH
    clear hr
    rcases h12 with rfl | rfl | rfl | rfl | rfl | rfl | rfl | rfl | rfl | rfl | rfl | rfl
    all_goals
      go_wp2_with (go_at_call 186; refine (KH.out _ _).mono ?_; rintro e w2 ⟨rfl, rfl⟩)
      go_ret
      refine ⟨?_, hb⟩
      have h0 := HS0.out
      simp [szN, szs, h0]
  · have HF : Hid (szN x n = 0) := by show _ = _; simp [szN, hr]
    rw [decide_eq_false hr] at KH
    clear hr
    go_wp2_with (go_at_call 186; refine (KH.out _ _).mono ?_; rintro e w2 ⟨rfl, rfl⟩)
    go_ret
    exact ⟨by rw [HF.out]; rfl, hb⟩
set_option maxHeartbeats 8000000 in
theorem isz_true (x : Mod) (a1 : Option Addr) (c1 : Nat) (a2 : Option Addr) (c2 : Nat) (a3 : Option Addr) (c3 : Nat) (a4 : Option Addr) (c4 : Nat) (a5 : Option Addr) (c5 : Nat) (a6 : Option Addr) (c6 : Nat) (a7 : Option Addr) (c7 : Nat) (a8 : Option Addr) (c8 : Nat) (a9 : Option Addr) (c9 : Nat) (a10 : Option Addr) (c10 : Nat) (a11 : Option Addr) (c11 : Nat) (n : Int) (w : World) (hl : x.Ln) (hS : x.hasS = true) :
    Calls Tryz.prog 146 #[.agg #[.slice a1 x.types.length c1, .slice a2 x.imps.length c2, .slice a3 x.funcs.length c3, .slice a4 x.tabs.length c4, .slice a5 x.mems.length c5, .slice a6 x.globs.length c6, .slice a7 x.exps.length c7, .bool x.hasS, .int .i64 x.start, .slice a8 x.elems.length c8, .slice a9 x.codes.length c9, .slice a10 x.datas.length c10, .slice a11 x.customs.length c11], .int .i64 n] w fun e w' => e = .returned (.int .i64 (szN x n)) ∧ Below w.heap.size w w' := by
  obtain ⟨l1, l2, l3, l4, l5, l6, l7, l8, l9, l10, l11⟩ := hl
  have KH := Hid.mk' (fun a w => hidx_c a n w)
  have HS0 := Hid.mk' hS
  clear hS
  go_enter Tryz.func146, Tryz.ntmps146
  go_upto_region 1 with fail
  refine wp_gen (fun W => Bk W w.heap.size [.slice a1 x.types.length c1, .slice a2 x.imps.length c2, .slice a3 x.funcs.length c3, .slice a4 x.tabs.length c4, .slice a5 x.mems.length c5, .slice a6 x.globs.length c6, .slice a7 x.exps.length c7, .bool x.hasS, .int .i64 x.start, .slice a8 x.elems.length c8, .slice a9 x.codes.length c9, .slice a10 x.datas.length c10, .slice a11 x.customs.length c11] ∧ Below w.heap.size w W ∧ W.heap.size = w.heap.size + 1) ⟨Bk.new, (Below.refl _ _).alloc (Nat.le_refl _) _, by simp⟩ ?_
  rintro W ⟨bb, hb, hs⟩
  have q0 : W.cell? ⟨w.heap.size, 0, none⟩ = some (.slice a1 x.types.length c1) := bb.2.1 0 _ rfl
  have q1 : W.cell? ⟨w.heap.size, 1, none⟩ = some (.slice a2 x.imps.length c2) := bb.2.1 1 _ rfl
  have q2 : W.cell? ⟨w.heap.size, 2, none⟩ = some (.slice a3 x.funcs.length c3) := bb.2.1 2 _ rfl
  have q3 : W.cell? ⟨w.heap.size, 3, none⟩ = some (.slice a4 x.tabs.length c4) := bb.2.1 3 _ rfl
  have q4 : W.cell? ⟨w.heap.size, 4, none⟩ = some (.slice a5 x.mems.length c5) := bb.2.1 4 _ rfl
  have q5 : W.cell? ⟨w.heap.size, 5, none⟩ = some (.slice a6 x.globs.length c6) := bb.2.1 5 _ rfl
  have q6 : W.cell? ⟨w.heap.size, 6, none⟩ = some (.slice a7 x.exps.length c7) := bb.2.1 6 _ rfl
  have q7 : W.cell? ⟨w.heap.size, 7, none⟩ = some (.bool x.hasS) := bb.2.1 7 _ rfl
  have q8 : W.cell? ⟨w.heap.size, 8, none⟩ = some (.int .i64 x.start) := bb.2.1 8 _ rfl
  have q9 : W.cell? ⟨w.heap.size, 9, none⟩ = some (.slice a8 x.elems.length c8) := bb.2.1 9 _ rfl
  have q10 : W.cell? ⟨w.heap.size, 10, none⟩ = some (.slice a9 x.codes.length c9) := bb.2.1 10 _ rfl
  have q11 : W.cell? ⟨w.heap.size, 11, none⟩ = some (.slice a10 x.datas.length c10) := bb.2.1 11 _ rfl
  have q12 : W.cell? ⟨w.heap.size, 12, none⟩ = some (.slice a11 x.customs.length c11) := bb.2.1 12 _ rfl
  rw [HS0.out] at q7
  have HS := Hid.mk' hs
  clear hs
  go_upto_region 5 with fail
  refine wp_gen (fun V => Bk V W.heap.size [.int .i64 0, .int .i64 x.types.length, .int .i64 x.imps.length, .int .i64 x.funcs.length, .int .i64 x.tabs.length, .int .i64 x.mems.length, .int .i64 x.globs.length, .int .i64 x.exps.length, .int .i64 1, .int .i64 x.elems.length, .int .i64 x.codes.length, .int .i64 x.datas.length] ∧ Below w.heap.size w V) ⟨Bk.new, hb.trans (((Below.refl _ W).alloc (Nat.le_refl _) _).mono hb.size)⟩ ?_
  clear bb hb q0 q1 q2 q3 q4 q5 q6 q7 q8 q9 q10 q11 q12
  rintro V ⟨bb, hb⟩
  have p0 : V.cell? ⟨W.heap.size, 0, none⟩ = some (.int .i64 0) := bb.2.1 0 _ rfl
  have p1 : V.cell? ⟨W.heap.size, 1, none⟩ = some (.int .i64 x.types.length) := bb.2.1 1 _ rfl
  have p2 : V.cell? ⟨W.heap.size, 2, none⟩ = some (.int .i64 x.imps.length) := bb.2.1 2 _ rfl
  have p3 : V.cell? ⟨W.heap.size, 3, none⟩ = some (.int .i64 x.funcs.length) := bb.2.1 3 _ rfl
  have p4 : V.cell? ⟨W.heap.size, 4, none⟩ = some (.int .i64 x.tabs.length) := bb.2.1 4 _ rfl
  have p5 : V.cell? ⟨W.heap.size, 5, none⟩ = some (.int .i64 x.mems.length) := bb.2.1 5 _ rfl
  have p6 : V.cell? ⟨W.heap.size, 6, none⟩ = some (.int .i64 x.globs.length) := bb.2.1 6 _ rfl
  have p7 : V.cell? ⟨W.heap.size, 7, none⟩ = some (.int .i64 x.exps.length) := bb.2.1 7 _ rfl
  have p8 : V.cell? ⟨W.heap.size, 8, none⟩ = some (.int .i64 1) := bb.2.1 8 _ rfl
  have p9 : V.cell? ⟨W.heap.size, 9, none⟩ = some (.int .i64 x.elems.length) := bb.2.1 9 _ rfl
  have p10 : V.cell? ⟨W.heap.size, 10, none⟩ = some (.int .i64 x.codes.length) := bb.2.1 10 _ rfl
  have p11 : V.cell? ⟨W.heap.size, 11, none⟩ = some (.int .i64 x.datas.length) := bb.2.1 11 _ rfl
  clear bb
  by_cases hr : 0 ≤ n ∧ n < 12
  · have h12 : n = 0 ∨ n = 1 ∨ n = 2 ∨ n = 3 ∨ n = 4 ∨ n = 5 ∨ n = 6 ∨ n = 7 ∨ n = 8 ∨ n = 9 ∨ n = 10 ∨ n = 11 := by omega
    rw [decide_eq_true hr] at KH
    clear hr
    rcases h12 with rfl | rfl | rfl | rfl | rfl | rfl | rfl | rfl | rfl | rfl | rfl | rfl
    all_goals
      go_wp2_with (go_at_call 186; refine (KH.out _ _).mono ?_; rintro e w2 ⟨rfl, rfl⟩)
      go_ret
      refine ⟨?_, hb⟩
      have h0 := HS0.out
      simp [szN, szs, h0]
  · have HF : Hid (szN x n = 0) := by show _ = _; simp [szN, hr]
    rw [decide_eq_false hr] at KH
    clear hr
    go_wp2_with (go_at_call 186; refine (KH.out _ _).mono ?_; rintro e w2 ⟨rfl, rfl⟩)
    go_ret
    exact ⟨by rw [HF.out]; rfl, hb⟩
theorem isz_c (x : Mod) (a1 : Option Addr) (c1 : Nat) (a2 : Option Addr) (c2 : Nat) (a3 : Option Addr) (c3 : Nat) (a4 : Option Addr) (c4 : Nat) (a5 : Option Addr) (c5 : Nat) (a6 : Option Addr) (c6 : Nat) (a7 : Option Addr) (c7 : Nat) (a8 : Option Addr) (c8 : Nat) (a9 : Option Addr) (c9 : Nat) (a10 : Option Addr) (c10 : Nat) (a11 : Option Addr) (c11 : Nat) (n : Int) (w : World) (hl : x.Ln) :
    Calls Tryz.prog 146 #[.agg #[.slice a1 x.types.length c1, .slice a2 x.imps.length c2, .slice a3 x.funcs.length c3, .slice a4 x.tabs.length c4, .slice a5 x.mems.length c5, .slice a6 x.globs.length c6, .slice a7 x.exps.length c7, .bool x.hasS, .int .i64 x.start, .slice a8 x.elems.length c8, .slice a9 x.codes.length c9, .slice a10 x.datas.length c10, .slice a11 x.customs.length c11], .int .i64 n] w fun e w' => e = .returned (.int .i64 (szN x n)) ∧ Below w.heap.size w w' := by
  cases h : x.hasS
  · have := isz_false x a1 c1 a2 c2 a3 c3 a4 c4 a5 c5 a6 c6 a7 c7 a8 c8 a9 c9 a10 c10 a11 c11 n w hl h; rw [h] at this; exact this
  · have := isz_true x a1 c1 a2 c2 a3 c3 a4 c4 a5 c5 a6 c6 a7 c7 a8 c8 a9 c9 a10 c10 a11 c11 n w hl h; rw [h] at this; exact this
set_option maxHeartbeats 8000000 in
theorem isec_c (x : Mod) (a1 : Option Addr) (c1 : Nat) (a2 : Option Addr) (c2 : Nat) (a3 : Option Addr) (c3 : Nat) (a4 : Option Addr) (c4 : Nat) (a5 : Option Addr) (c5 : Nat) (a6 : Option Addr) (c6 : Nat) (a7 : Option Addr) (c7 : Nat) (a8 : Option Addr) (c8 : Nat) (a9 : Option Addr) (c9 : Nat) (a10 : Option Addr) (c10 : Nat) (a11 : Option Addr) (c11 : Nat) (n : Int) (w : World) (hl : x.Ln) :
    Calls Tryz.prog 81 #[.agg #[.slice a1 x.types.length c1, .slice a2 x.imps.length c2, .slice a3 x.funcs.length c3, .slice a4 x.tabs.length c4, .slice a5 x.mems.length c5, .slice a6 x.globs.length c6, .slice a7 x.exps.length c7, .bool x.hasS, .int .i64 x.start, .slice a8 x.elems.length c8, .slice a9 x.codes.length c9, .slice a10 x.datas.length c10, .slice a11 x.customs.length c11], .int .i64 n] w fun e w' => e = .returned (.bool (writ x n)) ∧ Below w.heap.size w w' := by
  have KZ := Hid.mk' (fun (w : World) => isz_c x a1 c1 a2 c2 a3 c3 a4 c4 a5 c5 a6 c6 a7 c7 a8 c8 a9 c9 a10 c10 a11 c11 n w hl)
  have HW := Hid.mk' (szN_writ x n)
  generalize szN x n = z at *
  go_enter Tryz.func81, Tryz.ntmps81
  go_upto_region 1 with fail
  refine wp_gen (fun W => Bk W w.heap.size [.slice a1 x.types.length c1, .slice a2 x.imps.length c2, .slice a3 x.funcs.length c3, .slice a4 x.tabs.length c4, .slice a5 x.mems.length c5, .slice a6 x.globs.length c6, .slice a7 x.exps.length c7, .bool x.hasS, .int .i64 x.start, .slice a8 x.elems.length c8, .slice a9 x.codes.length c9, .slice a10 x.datas.length c10, .slice a11 x.customs.length c11] ∧ Below w.heap.size w W ∧ W.heap.size = w.heap.size + 1) ⟨Bk.new, (Below.refl _ _).alloc (Nat.le_refl _) _, by simp⟩ ?_
  rintro W ⟨bb, hb, hs⟩
  have q0 : W.cell? ⟨w.heap.size, 0, none⟩ = some (.slice a1 x.types.length c1) := bb.2.1 0 _ rfl
  have q1 : W.cell? ⟨w.heap.size, 1, none⟩ = some (.slice a2 x.imps.length c2) := bb.2.1 1 _ rfl
  have q2 : W.cell? ⟨w.heap.size, 2, none⟩ = some (.slice a3 x.funcs.length c3) := bb.2.1 2 _ rfl
  have q3 : W.cell? ⟨w.heap.size, 3, none⟩ = some (.slice a4 x.tabs.length c4) := bb.2.1 3 _ rfl
  have q4 : W.cell? ⟨w.heap.size, 4, none⟩ = some (.slice a5 x.mems.length c5) := bb.2.1 4 _ rfl
  have q5 : W.cell? ⟨w.heap.size, 5, none⟩ = some (.slice a6 x.globs.length c6) := bb.2.1 5 _ rfl
  have q6 : W.cell? ⟨w.heap.size, 6, none⟩ = some (.slice a7 x.exps.length c7) := bb.2.1 6 _ rfl
  have q7 : W.cell? ⟨w.heap.size, 7, none⟩ = some (.bool x.hasS) := bb.2.1 7 _ rfl
  have q8 : W.cell? ⟨w.heap.size, 8, none⟩ = some (.int .i64 x.start) := bb.2.1 8 _ rfl
  have q9 : W.cell? ⟨w.heap.size, 9, none⟩ = some (.slice a8 x.elems.length c8) := bb.2.1 9 _ rfl
  have q10 : W.cell? ⟨w.heap.size, 10, none⟩ = some (.slice a9 x.codes.length c9) := bb.2.1 10 _ rfl
  have q11 : W.cell? ⟨w.heap.size, 11, none⟩ = some (.slice a10 x.datas.length c10) := bb.2.1 11 _ rfl
  have q12 : W.cell? ⟨w.heap.size, 12, none⟩ = some (.slice a11 x.customs.length c11) := bb.2.1 12 _ rfl
  have HB := Hid.mk' hb
  clear bb hb hs
  go_wp2_with fail
  refine (KZ.out _).mono ?_
  rintro e w2 ⟨rfl, hb2⟩
  have HB2 := Hid.mk' (HB.out.trans (hb2.mono HB.out.size))
  clear hb2 q0 q1 q2 q3 q4 q5 q6 q7 q8 q9 q10 q11 q12
  go_wp2
  go_ret
  exact ⟨by rw [← HW.out]; rfl, HB2.out⟩
end Go.Proofs.YtdbmolambolmgaaGreat

set_option linter.unusedVariables false
namespace Go.Proofs.YtdbmolambolmgaaGreat
open Go.RowKit Go.Sort
set_option maxRecDepth 100000
set_option maxHeartbeats 1000000 in
theorem sall_c (a : Option Addr) (c : Nat) (l : List Int) (w : World) (hn : l.length ≤ 1099511627776) (hH : Has w a l) : Calls Tryz.prog 30 #[.slice a l.length c] w fun e w' => e = .returned (.bool (l.all u32B)) ∧ w = w' := by
  have HH := Hid.mk' hH
  clear hH
  go_enter Tryz.func30, Tryz.ntmps30
  go_wp2_with fail
  go_loop [3] (fun i => ∃ k : Nat, k ≤ l.length ∧ i = .int .i64 k ∧ ∀ j, j < k → u32B (l.getD j 0) = true) (fun i => l.length - (intOf i).toNat)
  case atStart => exact ⟨0, Nat.zero_le _, rfl, fun j h => by omega⟩
  case round =>
    obtain ⟨k, hk, rfl, hall⟩ := hrel
    by_cases hlt : k < l.length
    · have hki : (k : Int) < (l.length : Int) := by omega
      rcases HH.out with hx | ⟨b1, o1, ea, hc⟩
      · subst hx; simp at hlt
      have d := hc k hlt
      subst ea
      have HK := Hid.mk' (u32_c (l.getD k 0))
      generalize hy : l.getD k 0 = y at *
      generalize hz : u32B y = z at *
      cases z
      · have HFIN := Hid.mk' (alls_f u32B l 0 k hlt (by rw [hy]; exact hz))
        clear hall hc hy hz HH
        go_wp2_with (refine (HK.out _).mono ?_; rintro e w1 ⟨rfl, rfl⟩)
        go_ret
        exact ⟨by rw [HFIN.out]; rfl, rfl⟩
      · have HA2 : Hid (∀ j, j < k + 1 → u32B (l.getD j 0) = true) := fun j hj => by
          rcases (by omega : j < k ∨ j = k) with h | h
          · exact hall j h
          · subst h; rw [hy]; exact hz
        clear hall hc hy hz HH
        go_wp2_with (refine (HK.out _).mono ?_; rintro e w1 ⟨rfl, rfl⟩)
        go_round
        case rel => exact ⟨k + 1, by omega, by go_num, HA2.out⟩
        case measure => simp [intOf]; omega
    · have e : k = l.length := by omega
      subst e
      have HFIN := Hid.mk' (alls_t u32B l 0 hall)
      clear hall HH
      go_wp2
      go_ret
      exact ⟨by rw [HFIN.out]; rfl, rfl⟩
set_option maxHeartbeats 4000000 in
theorem ssz_c (x : Mod) (a1 : Option Addr) (c1 : Nat) (a2 : Option Addr) (c2 : Nat) (a3 : Option Addr) (c3 : Nat) (a4 : Option Addr) (c4 : Nat) (a5 : Option Addr) (c5 : Nat) (a6 : Option Addr) (c6 : Nat) (a7 : Option Addr) (c7 : Nat) (a8 : Option Addr) (c8 : Nat) (a9 : Option Addr) (c9 : Nat) (a10 : Option Addr) (c10 : Nat) (a11 : Option Addr) (c11 : Nat) (w : World) (hl : x.Ln) (s : Int) (hs0 : (if x.hasS then 1 else 0 : Int) = s) :
    Calls Tryz.prog 34 #[.agg #[.slice a1 x.types.length c1, .slice a2 x.imps.length c2, .slice a3 x.funcs.length c3, .slice a4 x.tabs.length c4, .slice a5 x.mems.length c5, .slice a6 x.globs.length c6, .slice a7 x.exps.length c7, .bool x.hasS, .int .i64 x.start, .slice a8 x.elems.length c8, .slice a9 x.codes.length c9, .slice a10 x.datas.length c10, .slice a11 x.customs.length c11]] w fun e w' => ∃ g, e = .returned (.slice (some ⟨g, 0, none⟩) 12 12) ∧ w.heap.size ≤ g ∧ Bk w' g [.int .i64 0, .int .i64 x.types.length, .int .i64 x.imps.length, .int .i64 x.funcs.length, .int .i64 x.tabs.length, .int .i64 x.mems.length, .int .i64 x.globs.length, .int .i64 x.exps.length, .int .i64 s, .int .i64 x.elems.length, .int .i64 x.codes.length, .int .i64 x.datas.length] ∧ Below w.heap.size w w' := by
  obtain ⟨l1, l2, l3, l4, l5, l6, l7, l8, l9, l10, l11⟩ := hl
  go_enter Tryz.func34, Tryz.ntmps34
  go_upto_region 1 with fail
  refine wp_gen (fun W => Bk W w.heap.size [.slice a1 x.types.length c1, .slice a2 x.imps.length c2, .slice a3 x.funcs.length c3, .slice a4 x.tabs.length c4, .slice a5 x.mems.length c5, .slice a6 x.globs.length c6, .slice a7 x.exps.length c7, .bool x.hasS, .int .i64 x.start, .slice a8 x.elems.length c8, .slice a9 x.codes.length c9, .slice a10 x.datas.length c10, .slice a11 x.customs.length c11] ∧ Below w.heap.size w W) ⟨Bk.new, (Below.refl _ _).alloc (Nat.le_refl _) _⟩ ?_
  rintro W ⟨bb, hb⟩
  have q0 : W.cell? ⟨w.heap.size, 0, none⟩ = some (.slice a1 x.types.length c1) := bb.2.1 0 _ rfl
  have q1 : W.cell? ⟨w.heap.size, 1, none⟩ = some (.slice a2 x.imps.length c2) := bb.2.1 1 _ rfl
  have q2 : W.cell? ⟨w.heap.size, 2, none⟩ = some (.slice a3 x.funcs.length c3) := bb.2.1 2 _ rfl
  have q3 : W.cell? ⟨w.heap.size, 3, none⟩ = some (.slice a4 x.tabs.length c4) := bb.2.1 3 _ rfl
  have q4 : W.cell? ⟨w.heap.size, 4, none⟩ = some (.slice a5 x.mems.length c5) := bb.2.1 4 _ rfl
  have q5 : W.cell? ⟨w.heap.size, 5, none⟩ = some (.slice a6 x.globs.length c6) := bb.2.1 5 _ rfl
  have q6 : W.cell? ⟨w.heap.size, 6, none⟩ = some (.slice a7 x.exps.length c7) := bb.2.1 6 _ rfl
  have q7 : W.cell? ⟨w.heap.size, 7, none⟩ = some (.bool x.hasS) := bb.2.1 7 _ rfl
  have q8 : W.cell? ⟨w.heap.size, 8, none⟩ = some (.int .i64 x.start) := bb.2.1 8 _ rfl
  have q9 : W.cell? ⟨w.heap.size, 9, none⟩ = some (.slice a8 x.elems.length c8) := bb.2.1 9 _ rfl
  have q10 : W.cell? ⟨w.heap.size, 10, none⟩ = some (.slice a9 x.codes.length c9) := bb.2.1 10 _ rfl
  have q11 : W.cell? ⟨w.heap.size, 11, none⟩ = some (.slice a10 x.datas.length c10) := bb.2.1 11 _ rfl
  have q12 : W.cell? ⟨w.heap.size, 12, none⟩ = some (.slice a11 x.customs.length c11) := bb.2.1 12 _ rfl
  have HS := Hid.mk' hs0
  clear hs0
  generalize x.hasS = hs at *
  cases hs
  · have e : Hid (s = 0) := by show s = _; have := HS.out; simpa using this.symm
    clear HS
    go_wp2
    go_ret
    rw [e.out]
    exact ⟨W.heap.size, rfl, hb.size, Bk.new, hb.trans (((Below.refl _ W).alloc (Nat.le_refl _) _).mono hb.size)⟩
  · have e : Hid (s = 1) := by show s = _; have := HS.out; simpa using this.symm
    clear HS
    go_wp2
    go_ret
    rw [e.out]
    exact ⟨W.heap.size, rfl, hb.size, Bk.new, hb.trans (((Below.refl _ W).alloc (Nat.le_refl _) _).mono hb.size)⟩
end Go.Proofs.YtdbmolambolmgaaGreat

set_option linter.unusedVariables false
namespace Go.Proofs.YtdbmolambolmgaaGreat
open Go.RowKit Go.Sort
set_option maxRecDepth 100000
def SrcC (w : World) (a0 : Option Addr) (cs : List Value) : Prop := (a0 = none ∧ cs = []) ∨ ∃ ad, a0 = some ad ∧ ∀ j u, cs[j]? = some u → w.cell? (ad.add j) = some u
theorem SrcC.on {W w1 : World} {a0 : Option Addr} {cs : List Value} (h : SrcC W a0 cs) (hb : Below W.heap.size W w1) : SrcC w1 a0 cs := by
  rcases h with h | ⟨ad, e, h⟩
  · exact .inl h
  · refine .inr ⟨ad, e, fun j u hu => ?_⟩
    have := h j u hu
    rw [hb.cell (World.block_lt_of_cell? W _ this)]
    exact this
theorem run_append_none_any {P : Program} {w : World} (base : Nat) (t ty e : TypeId) (i : TypeInfo) (size : Nat) (ht : P.underlying t = some (.slice e)) (hi : P.info? e = some i)
    (v : Value) (n : Nat) (xs : List Value) (hown : w.ownsRow base e size v n xs) (c : Nat) :
    (Builtin.append_ #[t, t] ty #[v, .slice none 0 c]).run P w = .ok v w := by
  rcases hown.2 with ⟨rfl, rfl⟩ | ⟨g, cap, cur, rfl, _, _, hnc, _⟩
  · simp [Builtin.append_, run_underlying ht, sizeOf, typeInfo, hi, Builtin.lenOf, Builtin.firstCells]
  · simp [Builtin.append_, run_underlying ht, sizeOf, typeInfo, hi, Builtin.lenOf, Builtin.firstCells, hnc, storeCells]
/-- append of whatever slice (nil too) onto a row of the call's own, at a step of a region that draws. -/
theorem step_append_own {P : Program} {w : World} {ops : Array Oper} {o : Oper} {a : Act} {K : Act → World → Prop} {Q : Exit → Act → World → Prop} {E : Prop} (hgd : o.guard = none) (s x : Operand) (t : TypeId)
    (ho : o.op = .call { callee := .builtin .append, args := #[s, x], argTypes := #[t, t] })
    (base : Nat) (e : TypeId) (i : TypeInfo) (z : Value) (size bytes : Nat) (ht : P.underlying t = some (.slice e)) (hi : P.info? e = some i) (hz : i.zero = some z)
    (hsize : i.size = size) (hby : i.bytes = bytes) (hzs : z.cells.size = size) (hsz : 0 < size)
    (v : Value) (n : Nat) (xs : List Value) (hs : a.eval s = v) (hown : w.ownsRow base e size v n xs)
    (a0 : Option Addr) (m c : Nat) (news : List Value) (hx : a.eval x = .slice a0 m c) (hl : news.length = m * size) (hnews : SrcC w a0 news) (h1 : ∀ u ∈ news, u.oneCell' = true)
    (h63 : n + m ≤ maxLen) (hbytes : (n + m) * bytes ≤ 140737488355328) (hbase : base ≤ w.heap.size)
    (h : ∀ v' w', w'.ownsRow base e size v' (n + m) (xs ++ news) → w.grownBy w' v.ownBlock → K (a.put o.dst v') w') :
    if Region.wanted o (yielded ops a.tmps) = true then Oper.wp P o a w K Q else E := by
  have hw : Region.wanted o (yielded ops a.tmps) = true := by simp [Region.wanted, hgd]
  rw [if_pos hw]
  rcases hnews with ⟨rfl, rfl⟩ | ⟨ad, rfl, hn⟩
  · have hm : m = 0 := by
      rcases Nat.mul_eq_zero.1 hl.symm with h | h
      · exact h
      · omega
    subst hm
    have hrun := run_append_none_any (P := P) (w := w) base t o.type e i size ht hi v n xs hown c
    have := h v w (by simpa using hown) (World.grownBy.refl _ _)
    unfold Oper.wp
    simp [execOp, ho, resolve, invoke, builtin, hs, hx, hrun, Result.andThen]
    exact this
  · exact wp_append_own w s x t ho base e i z size bytes ht hi hz hsize hby hzs hsz v n xs hs hown ad m c news hx hl hn h1 h63 hbytes hbase fun v' w' a b _ => h v' w' a b
theorem HI.src {B : Nat} {w : World} {a0 : Option Addr} {xs : List Int} (h : HI .i64 B w a0 xs) : SrcC w a0 (I xs) := by
  rcases h with h | ⟨b, o, rfl, _, hc⟩
  · subst h
    cases a0 with
    | none => exact .inl ⟨rfl, rfl⟩
    | some ad => exact .inr ⟨ad, rfl, fun j u hu => by simp [I] at hu⟩
  · refine .inr ⟨_, rfl, fun j u hu => ?_⟩
    have hj : j < xs.length := by
      rcases Nat.lt_or_ge j xs.length with h | h
      · exact h
      · simp [I, List.getElem?_eq_none h] at hu
    have hadd : (⟨b, o, none⟩ : Addr).add j = ⟨b, o + j, none⟩ := by unfold Addr.add; split <;> simp_all
    rw [hadd, hc j hj]
    simp [I, hj, List.getD] at hu ⊢
    exact hu
theorem own_zero (W : World) : ((W.alloc (.cells #[] 2)).drew).ownsRow W.heap.size 2 1 (.slice (some ⟨W.heap.size, 0, none⟩) 0 0) 0 [] := by
  refine ⟨rfl, .inr ⟨W.heap.size, 0, #[], rfl, Nat.le_refl _, ?_, Nat.le_refl _, by decide, rfl, rfl⟩⟩
  exact Array.getElem?_push_size
theorem one_I (xs : List Int) : ∀ u ∈ I xs, u.oneCell' = true := by
  intro u hu
  simp only [I, List.mem_map] at hu
  obtain ⟨y, _, rfl⟩ := hu
  rfl
theorem own_ge {w : World} {base : Nat} {e : TypeId} {size : Nat} {v : Value} {n : Nat} {xs : List Value} (h : w.ownsRow base e size v n xs) : ∀ k, v.ownBlock = some k → base ≤ k := by
  intro k hk
  rcases h.2 with ⟨rfl, _⟩ | ⟨g, cap, cur, rfl, hg, _⟩
  · simp [Value.ownBlock] at hk
  · simp [Value.ownBlock] at hk; omega
theorem own_two {w : World} {B : Nat} {v : Value} {ps rs : List Int} (h : w.ownsRow B 2 1 v (0 + ps.length + rs.length) (([] ++ I ps) ++ I rs)) : ∃ a c, v = .slice a (ps ++ rs).length c ∧ Has w a (ps ++ rs) := by
  have e : ([] ++ I ps) ++ I rs = I (ps ++ rs) := by simp [I]
  have e2 : 0 + ps.length + rs.length = (ps ++ rs).length := by simp
  rw [e, e2] at h
  exact own_shape h
set_option maxHeartbeats 4000000 in
theorem sft_c (x : FType) (a1 : Option Addr) (c1 : Nat) (a2 : Option Addr) (c2 : Nat) (w : World) (hI : FType.Is 0 w x a1 a2) (hl : FType.LB 1048576 x) :
    Calls Tryz.prog 108 #[.agg #[.slice a1 x.ps.length c1, .slice a2 x.rs.length c2]] w fun e w' => e = .returned (.bool (ftB x)) ∧ Below w.heap.size w w' := by
  obtain ⟨l0, l1⟩ := hl
  obtain ⟨r1, r2⟩ := hI
  have R1 := Hid.mk' r1
  have R2 := Hid.mk' r2
  clear r1 r2
  obtain ⟨i0, hi, hz0, hz1, hz2⟩ := info_parts Tryz.info2
  go_enter Tryz.func108, Tryz.ntmps108
  go_upto_region 1 with fail
  refine wp_gen (fun W => Bk W w.heap.size [.slice a1 x.ps.length c1, .slice a2 x.rs.length c2] ∧ Below w.heap.size w W) ⟨Bk.new, (Below.refl _ _).alloc (Nat.le_refl _) _⟩ ?_
  rintro W ⟨bb, hb⟩
  have q0 : W.cell? ⟨w.heap.size, 0, none⟩ = some (.slice a1 x.ps.length c1) := bb.2.1 0 _ rfl
  have q1 : W.cell? ⟨w.heap.size, 1, none⟩ = some (.slice a2 x.rs.length c2) := bb.2.1 1 _ rfl
  have OWN := Hid.mk' (own_zero W)
  have bd : Bk (W.alloc (.cells #[] 2)) w.heap.size [.slice a1 x.ps.length c1, .slice a2 x.rs.length c2] := bb.past
  have s0 : (W.alloc (.cells #[] 2)).cell? ⟨w.heap.size, 0, none⟩ = some (.slice a1 x.ps.length c1) := bd.2.1 0 _ rfl
  have s1 : (W.alloc (.cells #[] 2)).cell? ⟨w.heap.size, 1, none⟩ = some (.slice a2 x.rs.length c2) := bd.2.1 1 _ rfl
  clear bd
  have b0 : Below W.heap.size W ((W.alloc (.cells #[] 2)).drew) := ((Below.refl _ W).alloc (Nat.le_refl _) _).drew
  have N1 := Hid.mk' ((R1.out.up (up_below hb)).src.on b0)
  have N2 := Hid.mk' ((R2.out.up (up_below hb)).src)
  have B0 := Hid.mk' b0
  have BB := Hid.mk' bb
  have HB := Hid.mk' hb
  clear b0 bb hb R1 R2
  go_cut [3] from 5 (fun s V => ∃ a c, s = .slice a (x.ps ++ x.rs).length c ∧ Has V a (x.ps ++ x.rs) ∧ Bk V w.heap.size [.slice a1 x.ps.length c1, .slice a2 x.rs.length c2] ∧ Below w.heap.size w V)
  case first =>
    go_region_law (first
      | (refine step_append_own rfl (.tmp 5) (.tmp 7) 24 rfl W.heap.size 2 i0 (.int .i64 0) 1 8 Tryz.underlying24 hi hz0 hz1 hz2 rfl (by decide) (.slice (some ⟨W.heap.size, 0, none⟩) 0 0) 0 [] (by simp [Act.eval, Act.put]) OWN.out a1 x.ps.length c1 (I x.ps) (by simp [Act.eval, Act.put]) (by simp [I]) N1.out (one_I _) (by simp [maxLen]; omega) (by omega) (by simp) ?_
         intro v1 w1 own1 gr1
         have b1 := Hid.mk' (B0.out.grown gr1 (by simp) (fun k hk => by simp [Value.ownBlock] at hk; omega))
         have t1 : w1.cell? ⟨w.heap.size, 1, none⟩ = some (.slice a2 x.rs.length c2) := (BB.out.keep b1.out).2.1 1 _ rfl
         have O1 := Hid.mk' own1
         clear own1 gr1)
      | (refine step_append_own rfl (.tmp 8) (.tmp 10) 24 rfl W.heap.size 2 i0 (.int .i64 0) 1 8 Tryz.underlying24 hi hz0 hz1 hz2 rfl (by decide) v1 (0 + x.ps.length) ([] ++ I x.ps) (by simp [Act.eval, Act.put]) O1.out a2 x.rs.length c2 (I x.rs) (by simp [Act.eval, Act.put]) (by simp [I]) (N2.out.on b1.out) (one_I _) (by simp [maxLen]; omega) (by omega) b1.out.size ?_
         intro v2 w2 own2 gr2
         have b2 := Hid.mk' (b1.out.grown gr2 b1.out.size (own_ge O1.out))
         have O2 := Hid.mk' own2
         clear own2 gr2))
    all_goals
      go_wp2_with fail
      go_meet
      obtain ⟨a, c, e, hh⟩ := own_two O2.out
      exact ⟨a, c, e, hh, BB.out.keep b2.out, HB.out.trans (b2.out.mono HB.out.size)⟩
  case rest =>
    obtain ⟨a, c, rfl, hh, bb, hb⟩ := hcut
    have hle : (x.ps ++ x.rs).length ≤ 2097152 := by simp; omega
    have HE : Hid (ftB x = ((x.ps ++ x.rs).all tyB && decide (x.rs.length ≤ 1))) := by show _ = _; simp [ftB, List.all_append]
    clear OWN N1 N2 B0 BB HB s0 s1 q0 q1 hi hz0 hz1 hz2
    generalize x.ps ++ x.rs = l at *
    have q1 : wc.cell? ⟨w.heap.size, 1, none⟩ = some (.slice a2 x.rs.length c2) := bb.2.1 1 _ rfl
    have HB := Hid.mk' hb
    have HH := Hid.mk' hh
    clear bb hb hh
    go_wp2_with fail
    go_loop [4] (fun i => ∃ k : Nat, k ≤ l.length ∧ i = .int .i64 k ∧ ∀ j, j < k → tyB (l.getD j 0) = true) (fun i => l.length - (intOf i).toNat)
    case atStart => exact ⟨0, Nat.zero_le _, rfl, fun j h => by omega⟩
    case round =>
      obtain ⟨k, hk, rfl, hall⟩ := hrel
      by_cases hlt : k < l.length
      · have hki : (k : Int) < (l.length : Int) := by omega
        rcases HH.out with hx | ⟨b1, o1, ea, hc⟩
        · subst hx; simp at hlt
        have d := hc k hlt
        subst ea
        have HK := Hid.mk' (ty_c (l.getD k 0))
        generalize hy : l.getD k 0 = y at *
        generalize hz : tyB y = z at *
        cases z
        · have HFIN : Hid (ftB x = false) := by show _ = _; rw [HE.out, alls_f tyB l 0 k hlt (by rw [hy]; exact hz)]; rfl
          clear hall hc hy hz HH HE
          go_wp2_with (refine (HK.out _).mono ?_; rintro e w1 ⟨rfl, rfl⟩)
          go_ret
          exact ⟨by rw [HFIN.out]; rfl, HB.out⟩
        · have HA2 : Hid (∀ j, j < k + 1 → tyB (l.getD j 0) = true) := fun j hj => by
            rcases (by omega : j < k ∨ j = k) with h | h
            · exact hall j h
            · subst h; rw [hy]; exact hz
          clear hall hc hy hz HH
          go_wp2_with (refine (HK.out _).mono ?_; rintro e w1 ⟨rfl, rfl⟩)
          go_round
          case rel => exact ⟨k + 1, by omega, by go_num, HA2.out⟩
          case measure => simp [intOf]; omega
      · have e : k = l.length := by omega
        subst e
        have HFIN : Hid (ftB x = decide (x.rs.length ≤ 1)) := by show _ = _; rw [HE.out, alls_t tyB l 0 hall, Bool.true_and]
        clear hall HH HE
        by_cases h1 : x.rs.length ≤ 1
        · have h1i : (x.rs.length : Int) ≤ 1 := by omega
          have HF : Hid (ftB x = true) := by show _ = _; rw [HFIN.out]; simp [h1]
          clear HFIN h1
          go_wp2
          go_ret
          exact ⟨by rw [HF.out]; simp [h1i], HB.out⟩
        · have h1i : ¬ (x.rs.length : Int) ≤ 1 := by omega
          have HF : Hid (ftB x = false) := by show _ = _; rw [HFIN.out]; simp [h1]
          clear HFIN h1
          go_wp2
          go_ret
          exact ⟨by rw [HF.out]; simp [h1i], HB.out⟩
end Go.Proofs.YtdbmolambolmgaaGreat

set_option linter.unusedVariables false
namespace Go.Proofs.YtdbmolambolmgaaGreat
open Go.RowKit Go.Sort
set_option maxRecDepth 100000
/-- The cells of a list of limits, one behind the other. -/
def LCs : List Limits → List Value
  | [] => []
  | l :: ls => .int .i64 l.min :: .int .i64 l.max :: .bool l.has :: LCs ls
theorem LCs_len (xs : List Limits) : (LCs xs).length = xs.length * 3 := by
  induction xs with
  | nil => rfl
  | cons l ls ih => simp [LCs, ih]; omega
theorem LCs_app (xs ys : List Limits) : LCs (xs ++ ys) = LCs xs ++ LCs ys := by
  induction xs with
  | nil => rfl
  | cons l ls ih => simp [LCs, ih]
theorem LCs_one (xs : List Limits) : ∀ u ∈ LCs xs, u.oneCell' = true := by
  induction xs with
  | nil => intro u hu; simp [LCs] at hu
  | cons l ls ih =>
    intro u hu
    simp only [LCs, List.mem_cons] at hu
    rcases hu with rfl | rfl | rfl | hu
    · rfl
    · rfl
    · rfl
    · exact ih u hu
theorem LCs_at (xs : List Limits) (i : Nat) (h : i < xs.length) : (LCs xs)[i * 3]? = some (.int .i64 (xs.getD i Limits.z).min) ∧ (LCs xs)[i * 3 + 1]? = some (.int .i64 (xs.getD i Limits.z).max) ∧ (LCs xs)[i * 3 + 2]? = some (.bool (xs.getD i Limits.z).has) := by
  induction xs generalizing i with
  | nil => simp at h
  | cons l ls ih =>
    cases i with
    | zero => simp [LCs]
    | succ i =>
      have := ih i (by simpa using h)
      have e : (i + 1) * 3 = i * 3 + 1 + 1 + 1 := by omega
      rw [e]
      simpa [LCs, List.getElem?_cons_succ] using this
theorem Limits.Ls.src {B : Nat} {w : World} {a0 : Option Addr} {xs : List Limits} (h : Limits.Ls B w a0 xs) : SrcC w a0 (LCs xs) := by
  rcases h with h | ⟨b, o, rfl, _, hc⟩
  · subst h
    cases a0 with
    | none => exact .inl ⟨rfl, rfl⟩
    | some ad => exact .inr ⟨ad, rfl, fun j u hu => by simp [LCs] at hu⟩
  · refine .inr ⟨_, rfl, fun j u hu => ?_⟩
    have hj : j < xs.length * 3 := by
      rw [← LCs_len]
      rcases Nat.lt_or_ge j (LCs xs).length with h | h
      · exact h
      · simp [List.getElem?_eq_none h] at hu
    have hi : j / 3 < xs.length := by omega
    have hadd : (⟨b, o, none⟩ : Addr).add j = ⟨b, o + j, none⟩ := by unfold Addr.add; split <;> simp_all
    rw [hadd]
    obtain ⟨h0, h1, h2⟩ := LCs_at xs (j / 3) hi
    obtain ⟨⟨c0, c1, c2⟩, _⟩ := hc (j / 3) hi
    rcases (by omega : j = j / 3 * 3 ∨ j = j / 3 * 3 + 1 ∨ j = j / 3 * 3 + 2) with e | e | e
    · rw [e, h0] at hu
      rw [e]
      rw [← hu]
      exact c0
    · rw [e, h1] at hu
      rw [e]
      rw [← hu]
      exact c1
    · rw [e, h2] at hu
      rw [e]
      rw [← hu]
      exact c2
theorem own_lims {w : World} {B : Nat} {e : TypeId} {v : Value} {xs : List Limits} (h : w.ownsRow B e 3 v xs.length (LCs xs)) : ∃ a c, v = .slice a xs.length c ∧ Limits.Ls 0 w a xs := by
  rcases h.2 with ⟨rfl, h0⟩ | ⟨g, cap, cur, rfl, _, _, _⟩
  · exact ⟨none, 0, by rw [h0], .inl (List.length_eq_zero_iff.1 h0)⟩
  · refine ⟨_, cap, rfl, .inr ⟨g, 0, rfl, Nat.zero_le _, fun i hi => ?_⟩⟩
    obtain ⟨h0, h1, h2⟩ := LCs_at xs i hi
    refine ⟨⟨?_, ?_, ?_⟩, trivial⟩
    · rw [Nat.zero_add, h.cellAt _ (by omega)]; exact h0
    · rw [Nat.zero_add, h.cellAt _ (by omega)]; exact h1
    · rw [Nat.zero_add, h.cellAt _ (by omega)]; exact h2
end Go.Proofs.YtdbmolambolmgaaGreat

set_option linter.unusedVariables false
namespace Go.Proofs.YtdbmolambolmgaaGreat
open Go.RowKit Go.Sort
set_option maxRecDepth 100000
def cusM (x : Mod) : List Cus → Int → Bool
  | [], _ => true
  | c :: cs, n => (c.aft == 0 || writ x c.aft) && (decide (n ≤ c.aft) && (nameB c.nm && cusM x cs c.aft))
theorem cus_at (x : Mod) (l : List Cus) (k : Nat) (n : Int) (h : k < l.length) : cusM x (l.drop k) n = (((l.getD k Cus.z).aft == 0 || writ x (l.getD k Cus.z).aft) && (decide (n ≤ (l.getD k Cus.z).aft) && (nameB (l.getD k Cus.z).nm && cusM x (l.drop (k + 1)) (l.getD k Cus.z).aft))) := by
  rw [List.drop_eq_getElem_cons h]
  simp [cusM, List.getD, List.getElem?_eq_getElem h]
set_option maxHeartbeats 8000000 in
theorem icus_c (x : Mod) (a1 : Option Addr) (c1 : Nat) (a2 : Option Addr) (c2 : Nat) (a3 : Option Addr) (c3 : Nat) (a4 : Option Addr) (c4 : Nat) (a5 : Option Addr) (c5 : Nat) (a6 : Option Addr) (c6 : Nat) (a7 : Option Addr) (c7 : Nat) (a8 : Option Addr) (c8 : Nat) (a9 : Option Addr) (c9 : Nat) (a10 : Option Addr) (c10 : Nat) (a11 : Option Addr) (c11 : Nat) (w : World) (hL : Cus.Ls 0 w a11 x.customs) (hl : x.Ln) (hll : ∀ i, i < x.customs.length → Cus.LB 1048576 (x.customs.getD i Cus.z)) :
    Calls Tryz.prog 66 #[.agg #[.slice a1 x.types.length c1, .slice a2 x.imps.length c2, .slice a3 x.funcs.length c3, .slice a4 x.tabs.length c4, .slice a5 x.mems.length c5, .slice a6 x.globs.length c6, .slice a7 x.exps.length c7, .bool x.hasS, .int .i64 x.start, .slice a8 x.elems.length c8, .slice a9 x.codes.length c9, .slice a10 x.datas.length c10, .slice a11 x.customs.length c11]] w fun e w' => e = .returned (.bool (cusM x x.customs 0)) ∧ Below w.heap.size w w' := by
  have l11 : x.customs.length ≤ 1048576 := hl.2.2.2.2.2.2.2.2.2.2
  have HL := Hid.mk' hL
  have Hl := Hid.mk' hll
  have LN := Hid.mk' hl
  clear hL hll hl
  go_enter Tryz.func66, Tryz.ntmps66
  go_upto_region 1 with fail
  refine wp_gen (fun W => Bk W w.heap.size [.slice a1 x.types.length c1, .slice a2 x.imps.length c2, .slice a3 x.funcs.length c3, .slice a4 x.tabs.length c4, .slice a5 x.mems.length c5, .slice a6 x.globs.length c6, .slice a7 x.exps.length c7, .bool x.hasS, .int .i64 x.start, .slice a8 x.elems.length c8, .slice a9 x.codes.length c9, .slice a10 x.datas.length c10, .slice a11 x.customs.length c11] ∧ Below w.heap.size w W) ⟨Bk.new, (Below.refl _ _).alloc (Nat.le_refl _) _⟩ ?_
  rintro W ⟨bb, hb⟩
  have q0 : W.cell? ⟨w.heap.size, 0, none⟩ = some (.slice a1 x.types.length c1) := bb.2.1 0 _ rfl
  have q1 : W.cell? ⟨w.heap.size, 1, none⟩ = some (.slice a2 x.imps.length c2) := bb.2.1 1 _ rfl
  have q2 : W.cell? ⟨w.heap.size, 2, none⟩ = some (.slice a3 x.funcs.length c3) := bb.2.1 2 _ rfl
  have q3 : W.cell? ⟨w.heap.size, 3, none⟩ = some (.slice a4 x.tabs.length c4) := bb.2.1 3 _ rfl
  have q4 : W.cell? ⟨w.heap.size, 4, none⟩ = some (.slice a5 x.mems.length c5) := bb.2.1 4 _ rfl
  have q5 : W.cell? ⟨w.heap.size, 5, none⟩ = some (.slice a6 x.globs.length c6) := bb.2.1 5 _ rfl
  have q6 : W.cell? ⟨w.heap.size, 6, none⟩ = some (.slice a7 x.exps.length c7) := bb.2.1 6 _ rfl
  have q7 : W.cell? ⟨w.heap.size, 7, none⟩ = some (.bool x.hasS) := bb.2.1 7 _ rfl
  have q8 : W.cell? ⟨w.heap.size, 8, none⟩ = some (.int .i64 x.start) := bb.2.1 8 _ rfl
  have q9 : W.cell? ⟨w.heap.size, 9, none⟩ = some (.slice a8 x.elems.length c8) := bb.2.1 9 _ rfl
  have q10 : W.cell? ⟨w.heap.size, 10, none⟩ = some (.slice a9 x.codes.length c9) := bb.2.1 10 _ rfl
  have q11 : W.cell? ⟨w.heap.size, 11, none⟩ = some (.slice a10 x.datas.length c10) := bb.2.1 11 _ rfl
  have q12 : W.cell? ⟨w.heap.size, 12, none⟩ = some (.slice a11 x.customs.length c11) := bb.2.1 12 _ rfl
  go_wp2_with fail
  go_loopw [3, 10] (fun s i wr => ∃ (k : Nat) (n : Int), k ≤ x.customs.length ∧ i = .int .i64 k ∧ s = .int .i64 n ∧ cusM x (x.customs.drop k) n = cusM x x.customs 0 ∧ Bk wr w.heap.size [.slice a1 x.types.length c1, .slice a2 x.imps.length c2, .slice a3 x.funcs.length c3, .slice a4 x.tabs.length c4, .slice a5 x.mems.length c5, .slice a6 x.globs.length c6, .slice a7 x.exps.length c7, .bool x.hasS, .int .i64 x.start, .slice a8 x.elems.length c8, .slice a9 x.codes.length c9, .slice a10 x.datas.length c10, .slice a11 x.customs.length c11] ∧ Below w.heap.size w wr) (fun _ i _ => x.customs.length - (intOf i).toNat)
  case atStart => exact ⟨0, 0, Nat.zero_le _, rfl, rfl, rfl, bb, hb⟩
  case round =>
    clear bb hb q0 q1 q2 q3 q4 q5 q6 q7 q8 q9 q10 q11 q12
    obtain ⟨k, n, hk, rfl, rfl, hm, bb, hb⟩ := hrel
    have q0 : wr.cell? ⟨w.heap.size, 0, none⟩ = some (.slice a1 x.types.length c1) := bb.2.1 0 _ rfl
    have q1 : wr.cell? ⟨w.heap.size, 1, none⟩ = some (.slice a2 x.imps.length c2) := bb.2.1 1 _ rfl
    have q2 : wr.cell? ⟨w.heap.size, 2, none⟩ = some (.slice a3 x.funcs.length c3) := bb.2.1 2 _ rfl
    have q3 : wr.cell? ⟨w.heap.size, 3, none⟩ = some (.slice a4 x.tabs.length c4) := bb.2.1 3 _ rfl
    have q4 : wr.cell? ⟨w.heap.size, 4, none⟩ = some (.slice a5 x.mems.length c5) := bb.2.1 4 _ rfl
    have q5 : wr.cell? ⟨w.heap.size, 5, none⟩ = some (.slice a6 x.globs.length c6) := bb.2.1 5 _ rfl
    have q6 : wr.cell? ⟨w.heap.size, 6, none⟩ = some (.slice a7 x.exps.length c7) := bb.2.1 6 _ rfl
    have q7 : wr.cell? ⟨w.heap.size, 7, none⟩ = some (.bool x.hasS) := bb.2.1 7 _ rfl
    have q8 : wr.cell? ⟨w.heap.size, 8, none⟩ = some (.int .i64 x.start) := bb.2.1 8 _ rfl
    have q9 : wr.cell? ⟨w.heap.size, 9, none⟩ = some (.slice a8 x.elems.length c8) := bb.2.1 9 _ rfl
    have q10 : wr.cell? ⟨w.heap.size, 10, none⟩ = some (.slice a9 x.codes.length c9) := bb.2.1 10 _ rfl
    have q11 : wr.cell? ⟨w.heap.size, 11, none⟩ = some (.slice a10 x.datas.length c10) := bb.2.1 11 _ rfl
    have q12 : wr.cell? ⟨w.heap.size, 12, none⟩ = some (.slice a11 x.customs.length c11) := bb.2.1 12 _ rfl
    by_cases hlt : k < x.customs.length
    · have hki : (k : Int) < (x.customs.length : Int) := by omega
      rcases HL.out.up (up_below hb) with hx | ⟨b, o, ea, _, hc⟩
      · rw [hx] at hlt; simp at hlt
      have hxk := hc k hlt
      have hcl := Hl.out k hlt
      subst ea
      have HM := Hid.mk' (hm.symm.trans (cus_at x x.customs k n hlt))
      generalize x.customs.getD k Cus.z = c at hxk HM hcl
      obtain ⟨b1, d1, ⟨g0, g1, g2⟩, _⟩ := hxk
      clear hm hc
      go_upto_region 5 with fail
      refine wp_gen (fun V => Bk V w.heap.size [.slice a1 x.types.length c1, .slice a2 x.imps.length c2, .slice a3 x.funcs.length c3, .slice a4 x.tabs.length c4, .slice a5 x.mems.length c5, .slice a6 x.globs.length c6, .slice a7 x.exps.length c7, .bool x.hasS, .int .i64 x.start, .slice a8 x.elems.length c8, .slice a9 x.codes.length c9, .slice a10 x.datas.length c10, .slice (some ⟨b, o, none⟩) x.customs.length c11] ∧ Bk V wr.heap.size [.int .i64 c.aft, .string c.nm, .slice b1 c.bs.length d1] ∧ Below w.heap.size w V) ⟨bb.past, Bk.new, hb.trans (((Below.refl _ wr).alloc (Nat.le_refl _) _).mono hb.size)⟩ ?_
      clear bb hb g0 g1 g2 q0 q1 q2 q3 q4 q5 q6 q7 q8 q9 q10 q11 q12
      rintro V ⟨bb, bc, hb⟩
      have q0 : V.cell? ⟨w.heap.size, 0, none⟩ = some (.slice a1 x.types.length c1) := bb.2.1 0 _ rfl
      have q1 : V.cell? ⟨w.heap.size, 1, none⟩ = some (.slice a2 x.imps.length c2) := bb.2.1 1 _ rfl
      have q2 : V.cell? ⟨w.heap.size, 2, none⟩ = some (.slice a3 x.funcs.length c3) := bb.2.1 2 _ rfl
      have q3 : V.cell? ⟨w.heap.size, 3, none⟩ = some (.slice a4 x.tabs.length c4) := bb.2.1 3 _ rfl
      have q4 : V.cell? ⟨w.heap.size, 4, none⟩ = some (.slice a5 x.mems.length c5) := bb.2.1 4 _ rfl
      have q5 : V.cell? ⟨w.heap.size, 5, none⟩ = some (.slice a6 x.globs.length c6) := bb.2.1 5 _ rfl
      have q6 : V.cell? ⟨w.heap.size, 6, none⟩ = some (.slice a7 x.exps.length c7) := bb.2.1 6 _ rfl
      have q7 : V.cell? ⟨w.heap.size, 7, none⟩ = some (.bool x.hasS) := bb.2.1 7 _ rfl
      have q8 : V.cell? ⟨w.heap.size, 8, none⟩ = some (.int .i64 x.start) := bb.2.1 8 _ rfl
      have q9 : V.cell? ⟨w.heap.size, 9, none⟩ = some (.slice a8 x.elems.length c8) := bb.2.1 9 _ rfl
      have q10 : V.cell? ⟨w.heap.size, 10, none⟩ = some (.slice a9 x.codes.length c9) := bb.2.1 10 _ rfl
      have q11 : V.cell? ⟨w.heap.size, 11, none⟩ = some (.slice a10 x.datas.length c10) := bb.2.1 11 _ rfl
      have q12 : V.cell? ⟨w.heap.size, 12, none⟩ = some (.slice (some ⟨b, o, none⟩) x.customs.length c11) := bb.2.1 12 _ rfl
      have p0 : V.cell? ⟨wr.heap.size, 0, none⟩ = some (.int .i64 c.aft) := bc.2.1 0 _ rfl
      have p1 : V.cell? ⟨wr.heap.size, 1, none⟩ = some (.string c.nm) := bc.2.1 1 _ rfl
      have p2 : V.cell? ⟨wr.heap.size, 2, none⟩ = some (.slice b1 c.bs.length d1) := bc.2.1 2 _ rfl
      by_cases h0 : c.aft = 0
      · have HM : Hid (cusM x x.customs 0 = (decide (n ≤ c.aft) && (nameB c.nm && cusM x (x.customs.drop (k + 1)) c.aft))) := by rw [Hid, HM.out]; simp [h0]
        clear p0 p1 p2
        have p0 : V.cell? ⟨wr.heap.size, 0, none⟩ = some (.int .i64 c.aft) := bc.2.1 0 _ rfl
        have p1 : V.cell? ⟨wr.heap.size, 1, none⟩ = some (.string c.nm) := bc.2.1 1 _ rfl
        have p2 : V.cell? ⟨wr.heap.size, 2, none⟩ = some (.slice b1 c.bs.length d1) := bc.2.1 2 _ rfl
        by_cases hn : c.aft < n
        · have HF : Hid (cusM x x.customs 0 = false) := by rw [Hid, HM.out]; simp [Int.not_le.2 hn]
          clear HM bb bc
          go_wp2
          go_ret
          exact ⟨by rw [HF.out]; rfl, hb⟩
        have HM : Hid (cusM x x.customs 0 = (nameB c.nm && cusM x (x.customs.drop (k + 1)) c.aft)) := by rw [Hid, HM.out]; simp [Int.not_lt.1 hn]
        have HN := Hid.mk' (iname_ok c.nm V hcl.1)
        generalize hz : nameB c.nm = z at HN HM
        cases z
        · go_wp2_with fail
          refine HN.out.mono ?_
          rintro e W9 ⟨rfl, hb9⟩
          have hb := hb.trans (hb9.mono hb.size)
          clear hb9 bb bc
          go_wp2
          go_ret
          exact ⟨by rw [HM.out]; rfl, hb⟩
        · go_wp2_with fail
          refine HN.out.mono ?_
          rintro e W9 ⟨rfl, hb9⟩
          have bb := bb.keep hb9
          have bc := bc.keep hb9
          have hb := hb.trans (hb9.mono hb.size)
          clear hb9 p0 p1 p2
          have p0 : W9.cell? ⟨wr.heap.size, 0, none⟩ = some (.int .i64 c.aft) := bc.2.1 0 _ rfl
          have p1 : W9.cell? ⟨wr.heap.size, 1, none⟩ = some (.string c.nm) := bc.2.1 1 _ rfl
          have p2 : W9.cell? ⟨wr.heap.size, 2, none⟩ = some (.slice b1 c.bs.length d1) := bc.2.1 2 _ rfl
          go_wp2
          go_roundw
          case rel => exact ⟨k + 1, c.aft, by omega, by go_num, by first | rfl | rw [h0], by rw [HM.out, Bool.true_and], bb, hb⟩
          case measure => simp [intOf]; omega
      · have HS := Hid.mk' (isec_c x a1 c1 a2 c2 a3 c3 a4 c4 a5 c5 a6 c6 a7 c7 a8 c8 a9 c9 a10 c10 (some ⟨b, o, none⟩) c11 c.aft V LN.out)
        generalize hz0 : writ x c.aft = z0 at HS HM
        cases z0
        · have HF : Hid (cusM x x.customs 0 = false) := by rw [Hid, HM.out]; simp [h0]
          clear HM
          go_wp2_with fail
          refine HS.out.mono ?_
          rintro e W8 ⟨rfl, hb8⟩
          have hb := hb.trans (hb8.mono hb.size)
          clear hb8 bb bc
          go_wp2
          go_ret
          exact ⟨by rw [HF.out]; rfl, hb⟩
        have HM : Hid (cusM x x.customs 0 = (decide (n ≤ c.aft) && (nameB c.nm && cusM x (x.customs.drop (k + 1)) c.aft))) := by rw [Hid, HM.out]; simp
        go_wp2_with fail
        refine HS.out.mono ?_
        rintro e W8 ⟨rfl, hb8⟩
        have bb := bb.keep hb8
        have bc := bc.keep hb8
        have hb := hb.trans (hb8.mono hb.size)
        clear hb8 HS p0 p1 p2 q0 q1 q2 q3 q4 q5 q6 q7 q8 q9 q10 q11 q12
        have p0 : W8.cell? ⟨wr.heap.size, 0, none⟩ = some (.int .i64 c.aft) := bc.2.1 0 _ rfl
        have p1 : W8.cell? ⟨wr.heap.size, 1, none⟩ = some (.string c.nm) := bc.2.1 1 _ rfl
        have p2 : W8.cell? ⟨wr.heap.size, 2, none⟩ = some (.slice b1 c.bs.length d1) := bc.2.1 2 _ rfl
        by_cases hn : c.aft < n
        · have HF : Hid (cusM x x.customs 0 = false) := by rw [Hid, HM.out]; simp [Int.not_le.2 hn]
          clear HM bb bc
          go_wp2
          go_ret
          exact ⟨by rw [HF.out]; rfl, hb⟩
        have HM : Hid (cusM x x.customs 0 = (nameB c.nm && cusM x (x.customs.drop (k + 1)) c.aft)) := by rw [Hid, HM.out]; simp [Int.not_lt.1 hn]
        have HN := Hid.mk' (iname_ok c.nm W8 hcl.1)
        generalize hz : nameB c.nm = z at HN HM
        cases z
        · go_wp2_with fail
          refine HN.out.mono ?_
          rintro e W9 ⟨rfl, hb9⟩
          have hb := hb.trans (hb9.mono hb.size)
          clear hb9 bb bc
          go_wp2
          go_ret
          exact ⟨by rw [HM.out]; rfl, hb⟩
        · go_wp2_with fail
          refine HN.out.mono ?_
          rintro e W9 ⟨rfl, hb9⟩
          have bb := bb.keep hb9
          have bc := bc.keep hb9
          have hb := hb.trans (hb9.mono hb.size)
          clear hb9 p0 p1 p2
          have p0 : W9.cell? ⟨wr.heap.size, 0, none⟩ = some (.int .i64 c.aft) := bc.2.1 0 _ rfl
          have p1 : W9.cell? ⟨wr.heap.size, 1, none⟩ = some (.string c.nm) := bc.2.1 1 _ rfl
          have p2 : W9.cell? ⟨wr.heap.size, 2, none⟩ = some (.slice b1 c.bs.length d1) := bc.2.1 2 _ rfl
          go_wp2
          go_roundw
          case rel => exact ⟨k + 1, c.aft, by omega, by go_num, by first | rfl | rw [h0], by rw [HM.out, Bool.true_and], bb, hb⟩
          case measure => simp [intOf]; omega
    · have e : k = x.customs.length := by omega
      subst e
      have HM : Hid (cusM x x.customs 0 = true) := by show _ = _; rw [← hm, List.drop_length]; rfl
      clear hm bb
      go_wp2
      go_ret
      exact ⟨by rw [HM.out]; rfl, hb⟩
end Go.Proofs.YtdbmolambolmgaaGreat

set_option linter.unusedVariables false
namespace Go.Proofs.YtdbmolambolmgaaGreat
open Go.RowKit Go.Sort
set_option maxRecDepth 100000
set_option maxHeartbeats 8000000 in
theorem aaImp_c (a : Option Addr) (c : Nat) (xs : List Imp) (w : World) (hl : xs.length ≤ 1048576 ∧ ∀ i, i < xs.length → Imp.LB 1048576 (xs.getD i Imp.z)) (hL : Imp.Ls 0 w a xs) :
    Calls Tryz.prog 49 #[.slice a xs.length c, .func (.func 50) #[] #[]] w fun e w' => e = .returned (.bool (xs.all impB)) ∧ Below w.heap.size w w' := by
  obtain ⟨hn, hll⟩ := hl
  have HL := Hid.mk' hL
  have Hl := Hid.mk' hll
  skip
  clear hL hll
  go_enter Tryz.func49, Tryz.ntmps49
  go_wp2_with fail
  go_loopw [9] (fun i wr => ∃ k : Nat, k ≤ xs.length ∧ i = .int .i64 k ∧ (∀ j, j < k → impB (xs.getD j Imp.z) = true) ∧ Below w.heap.size w wr) (fun i _ => xs.length - (intOf i).toNat)
  case atStart => exact ⟨0, Nat.zero_le _, rfl, fun j h => by omega, Below.refl _ _⟩
  case round =>
    obtain ⟨k, hk, rfl, hall, hb⟩ := hrel
    by_cases hlt : k < xs.length
    · have hki : (k : Int) < (xs.length : Int) := by omega
      rcases HL.out.up (up_below hb) with hx | ⟨b, o, ea, _, hc⟩
      · subst hx; simp at hlt
      have hxk := hc k hlt
      have hxl := Hl.out k hlt
      skip
      subst ea
      obtain ⟨x, hx⟩ : ∃ x, x = xs.getD k Imp.z := ⟨_, rfl⟩
      rw [← hx] at hxk hxl
      obtain ⟨⟨q0, q1, q2, q3, q4, q5, q6, q7, q8⟩, hi⟩ := hxk
      have ba : Below wr.heap.size wr (wr.alloc (.cells #[.string x.mod, .string x.nm, .int .i64 x.kind, .int .i64 x.ty, .int .i64 x.lim.min, .int .i64 x.lim.max, .bool x.lim.has, .int .i64 x.gl.ty, .bool x.gl.mu] 103)) := (Below.refl _ _).alloc (Nat.le_refl _) _
      have HI0 := Hid.mk' (iimp_c x _ (hi.up (up_below ba)) hxl)
      have HB := Hid.mk' hb
      have HBA := Hid.mk' ba
      generalize hg : impB x = gx at HI0
      have HG : Hid (impB (xs.getD k Imp.z) = gx) := by show _ = _; rw [← hx]; exact hg
      cases gx
      · have HFIN := Hid.mk' (alls_f impB xs Imp.z k hlt HG.out)
        clear hall hc hb ba hi HL Hl hx hg
        go_wp2_with fail
        refine HI0.out.mono ?_
        rintro e w2 ⟨rfl, hb2⟩
        have hb3 : Below w.heap.size w w2 := HB.out.trans ((HBA.out.trans (hb2.mono (by simp))).mono HB.out.size)
        clear hb2
        go_wp2
        go_ret
        exact ⟨by rw [HFIN.out]; rfl, hb3⟩
      · have HA2 : Hid (∀ j, j < k + 1 → impB (xs.getD j Imp.z) = true) := fun j hj => by
          rcases (by omega : j < k ∨ j = k) with h | h
          · exact hall j h
          · subst h; exact HG.out
        clear hall hc hb ba hi HL Hl hx hg
        go_wp2_with fail
        refine HI0.out.mono ?_
        rintro e w2 ⟨rfl, hb2⟩
        have hb3 : Below w.heap.size w w2 := HB.out.trans ((HBA.out.trans (hb2.mono (by simp))).mono HB.out.size)
        clear hb2
        go_wp2
        go_roundw
        case rel => exact ⟨k + 1, by omega, by go_num, HA2.out, hb3⟩
        case measure => simp [intOf]; omega
    · have e : k = xs.length := by omega
      subst e
      have HFIN := Hid.mk' (alls_t impB xs Imp.z hall)
      clear hall HL Hl
      go_wp2
      go_ret
      exact ⟨by rw [HFIN.out]; rfl, hb⟩
set_option maxHeartbeats 8000000 in
theorem aaCod_c (a : Option Addr) (c : Nat) (xs : List Cod) (w : World) (hl : xs.length ≤ 1048576 ∧ ∀ i, i < xs.length → Cod.LB 1048576 (xs.getD i Cod.z)) (hL : Cod.Ls 0 w a xs) (hP : ∀ i, i < xs.length → InsPos (xs.getD i Cod.z).body) :
    Calls Tryz.prog 62 #[.slice a xs.length c, .func (.func 63) #[] #[]] w fun e w' => e = .returned (.bool (xs.all codB)) ∧ Below w.heap.size w w' := by
  obtain ⟨hn, hll⟩ := hl
  have HL := Hid.mk' hL
  have Hl := Hid.mk' hll
  have HP := Hid.mk' hP
  clear hL hll hP
  go_enter Tryz.func62, Tryz.ntmps62
  go_wp2_with fail
  go_loopw [9] (fun i wr => ∃ k : Nat, k ≤ xs.length ∧ i = .int .i64 k ∧ (∀ j, j < k → codB (xs.getD j Cod.z) = true) ∧ Below w.heap.size w wr) (fun i _ => xs.length - (intOf i).toNat)
  case atStart => exact ⟨0, Nat.zero_le _, rfl, fun j h => by omega, Below.refl _ _⟩
  case round =>
    obtain ⟨k, hk, rfl, hall, hb⟩ := hrel
    by_cases hlt : k < xs.length
    · have hki : (k : Int) < (xs.length : Int) := by omega
      rcases HL.out.up (up_below hb) with hx | ⟨b, o, ea, _, hc⟩
      · subst hx; simp at hlt
      have hxk := hc k hlt
      have hxl := Hl.out k hlt
      have hxp := HP.out k hlt
      subst ea
      obtain ⟨x, hx⟩ : ∃ x, x = xs.getD k Cod.z := ⟨_, rfl⟩
      rw [← hx] at hxk hxl hxp
      obtain ⟨a1, c1, a2, c2, ⟨q0, q1⟩, hi⟩ := hxk
      have ba : Below wr.heap.size wr (wr.alloc (.cells #[.slice a1 x.locs.length c1, .slice a2 x.body.length c2] 74)) := (Below.refl _ _).alloc (Nat.le_refl _) _
      have HI0 := Hid.mk' (icod_c x a1 c1 a2 c2 _ (hi.up (up_below ba)) hxl hxp)
      have HB := Hid.mk' hb
      have HBA := Hid.mk' ba
      generalize hg : codB x = gx at HI0
      have HG : Hid (codB (xs.getD k Cod.z) = gx) := by show _ = _; rw [← hx]; exact hg
      cases gx
      · have HFIN := Hid.mk' (alls_f codB xs Cod.z k hlt HG.out)
        clear hall hc hb ba hi HL Hl hx hg
        go_wp2_with fail
        refine HI0.out.mono ?_
        rintro e w2 ⟨rfl, hb2⟩
        have hb3 : Below w.heap.size w w2 := HB.out.trans ((HBA.out.trans (hb2.mono (by simp))).mono HB.out.size)
        clear hb2
        go_wp2
        go_ret
        exact ⟨by rw [HFIN.out]; rfl, hb3⟩
      · have HA2 : Hid (∀ j, j < k + 1 → codB (xs.getD j Cod.z) = true) := fun j hj => by
          rcases (by omega : j < k ∨ j = k) with h | h
          · exact hall j h
          · subst h; exact HG.out
        clear hall hc hb ba hi HL Hl hx hg
        go_wp2_with fail
        refine HI0.out.mono ?_
        rintro e w2 ⟨rfl, hb2⟩
        have hb3 : Below w.heap.size w w2 := HB.out.trans ((HBA.out.trans (hb2.mono (by simp))).mono HB.out.size)
        clear hb2
        go_wp2
        go_roundw
        case rel => exact ⟨k + 1, by omega, by go_num, HA2.out, hb3⟩
        case measure => simp [intOf]; omega
    · have e : k = xs.length := by omega
      subst e
      have HFIN := Hid.mk' (alls_t codB xs Cod.z hall)
      clear hall HL Hl
      go_wp2
      go_ret
      exact ⟨by rw [HFIN.out]; rfl, hb⟩
end Go.Proofs.YtdbmolambolmgaaGreat
