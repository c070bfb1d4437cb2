import Derived.Test.YtoiapeelaedgoaaGreatW1
import Derived.Laws.StructEq
set_option linter.all false
set_option linter.unusedVariables false
namespace Go.Proofs.YtoiapeelaedgoaaGreat
open Go.RowKit Go.Sort
theorem eqLim (w : World) (a : Int) (b : Int) (h : Bool) : (binOp .eql 95 (.agg #[.int .i64 a, .int .i64 b, .bool h]) (.agg #[.int .i64 0, .int .i64 0, .bool false])).run Tryz.prog w = .ok (.bool (a == 0 && (b == 0 && h == false))) w := by
  have hF : (Tryz.prog.fieldsOf 95).toList.map (fun f => (f.type, f.offset, decide (f.name = "_"))) = [(2, 0, false), (2, 1, false), (4, 2, false)] := by kernel_rfl
  rw [run_eql_struct, show (10000 : Nat) = 9998 + 1 + 1 from rfl, run_equalIn_struct w (9998 + 1) _ _ _ (by kernel_rfl) (by kernel_rfl)]
  generalize (Tryz.prog.fieldsOf 95).toList = fs at hF
  obtain ⟨f0, r0, rfl, e0, h0⟩ := List.map_eq_cons_iff.1 hF
  obtain ⟨f1, r1, rfl, e1, h1⟩ := List.map_eq_cons_iff.1 h0
  obtain ⟨f2, r2, rfl, e2, h2⟩ := List.map_eq_cons_iff.1 h1
  obtain rfl := List.map_eq_nil_iff.1 h2
  simp only [Prod.mk.injEq, decide_eq_false_iff_not] at e0 e1 e2
  obtain ⟨t0, o0, n0⟩ := e0
  obtain ⟨t1, o1, n1⟩ := e1
  obtain ⟨t2, o2, n2⟩ := e2
  simp only [Op.eqFields, ne_eq, n0, n1, n2, not_false_eq_true, if_true, t0, o0, t1, o1, t2, o2, Sem.run_bind]
  have p0 : ∀ (x y z : Value), (part 2 #[x, y, z] 0).run Tryz.prog w = .ok x w := fun x y z => by simp [part, isAgg, run_underlying Tryz.underlying2]
  have p1 : ∀ (x y z : Value), (part 2 #[x, y, z] 1).run Tryz.prog w = .ok y w := fun x y z => by simp [part, isAgg, run_underlying Tryz.underlying2]
  have p2 : ∀ (x y z : Value), (part 4 #[x, y, z] 2).run Tryz.prog w = .ok z w := fun x y z => by simp [part, isAgg, run_underlying Tryz.underlying4]
  simp only [p0, p1, p2, Result.andThen_ok, run_equalIn_int w 9998 2 .i64 .i64 _ _ Tryz.underlying2, run_equalIn_bool' w 9998 4 _ _ Tryz.underlying4]
  by_cases ka : a = 0 <;> by_cases kb : b = 0 <;> cases h <;> simp [Sem.run_bind, p0, p1, p2, run_equalIn_int w 9998 2 .i64 .i64 _ _ Tryz.underlying2, run_equalIn_bool' w 9998 4 _ _ Tryz.underlying4, ka, kb]
theorem eqGty (w : World) (a : Int) (h : Bool) : (binOp .eql 97 (.agg #[.int .i64 a, .bool h]) (.agg #[.int .i64 0, .bool false])).run Tryz.prog w = .ok (.bool (a == 0 && h == false)) w := by
  have hF : (Tryz.prog.fieldsOf 97).toList.map (fun f => (f.type, f.offset, decide (f.name = "_"))) = [(2, 0, false), (4, 1, false)] := by kernel_rfl
  rw [run_eql_struct, show (10000 : Nat) = 9998 + 1 + 1 from rfl, run_equalIn_struct w (9998 + 1) _ _ _ (by kernel_rfl) (by kernel_rfl)]
  generalize (Tryz.prog.fieldsOf 97).toList = fs at hF
  obtain ⟨f0, r0, rfl, e0, h0⟩ := List.map_eq_cons_iff.1 hF
  obtain ⟨f1, r1, rfl, e1, h1⟩ := List.map_eq_cons_iff.1 h0
  obtain rfl := List.map_eq_nil_iff.1 h1
  simp only [Prod.mk.injEq, decide_eq_false_iff_not] at e0 e1
  obtain ⟨t0, o0, n0⟩ := e0
  obtain ⟨t1, o1, n1⟩ := e1
  simp only [Op.eqFields, ne_eq, n0, n1, not_false_eq_true, if_true, t0, o0, t1, o1, Sem.run_bind]
  have p0 : ∀ (x y : Value), (part 2 #[x, y] 0).run Tryz.prog w = .ok x w := fun x y => by simp [part, isAgg, run_underlying Tryz.underlying2]
  have p1 : ∀ (x y : Value), (part 4 #[x, y] 1).run Tryz.prog w = .ok y w := fun x y => by simp [part, isAgg, run_underlying Tryz.underlying4]
  simp only [p0, p1, Result.andThen_ok, run_equalIn_int w 9998 2 .i64 .i64 _ _ Tryz.underlying2, run_equalIn_bool' w 9998 4 _ _ Tryz.underlying4]
  by_cases ka : a = 0 <;> cases h <;> simp [Sem.run_bind, p0, p1, run_equalIn_int w 9998 2 .i64 .i64 _ _ Tryz.underlying2, run_equalIn_bool' w 9998 4 _ _ Tryz.underlying4, ka]
end Go.Proofs.YtoiapeelaedgoaaGreat
