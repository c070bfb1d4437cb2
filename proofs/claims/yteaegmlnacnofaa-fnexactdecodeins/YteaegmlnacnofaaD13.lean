import Derived.Test.YteaegmlnacnofaaDC
import Derived.Laws.EntriesVeiled
import Derived.Deep.WholeRow
import Derived.Laws.Tables
set_option linter.all false
set_option linter.unusedVariables false
namespace Go.Proofs.Yteaegmlnacnofaa
open Go.RowKit Go.Sort
set_option maxRecDepth 100000
theorem wpList_store_new {P : Program} {W : World} {ops : Array Oper} {rest : List Oper} {o : Oper} {a : Act} {Q : Exit → Act → World → Prop} (hgd : o.guard = none) (p v : Operand) (ty : TypeId) (ho : o.op = .store ty p v) (hd : o.dst = none) (cs T : Array Value) (hp : a.eval p = .pointer (some ⟨W.heap.size, 0, none⟩)) (hv : a.eval v = .agg T) (hi : (P.info? ty).map (·.size) = some T.size) (hl : cs.size = T.size) (h1 : T.all (·.oneCell') = true) (h : wpList P ops Q rest a (W.alloc (.cells T ty))) : wpList P ops Q (o :: rest) a (W.alloc (.cells cs ty)) := by
  refine wpList_plain hgd fun K hK => ?_
  unfold Oper.wp
  have e := run_storeAt_new (P := P) W ty cs T hi hl h1
  simp [execOp, ho, hp, hv, e, Oper.upon, Result.andThen, hd]
  exact hK _ _ h
theorem Try.sizeRD : (Try.prog.info? 70).map (·.size) = some 20 := by kernel_rfl
theorem bRD (v0 : Option Addr) (n c : Nat) (p : Int) (w : World) : (Instr.build 70 #[(0, .slice v0 n c), (1, .int .i64 p), (2, .int .i64 9223372036854775807)]).run Try.prog w = .ok (.agg #[.slice v0 n c, .int .i64 p, .int .i64 9223372036854775807, .slice none 0 0, .slice none 0 0, .slice none 0 0, .slice none 0 0, .slice none 0 0, .slice none 0 0, .slice none 0 0, .bool false, .int .i64 0, .slice none 0 0, .slice none 0 0, .slice none 0 0, .slice none 0 0, .int .i64 0, .int .i64 0, .nilFunc, .slice none 0 0]) w := run_build w _ _ _ (by kernel_rfl)
theorem bIR (er a : Int) (w : World) : (Instr.build 28 #[(0, .int .i64 er), (1, .int .i64 a)]).run Try.prog w = .ok (.agg #[.int .i64 er, .int .i64 a, .int .i64 0, .int .i64 0, .int .i64 0, .int .u64 0, .slice none 0 0]) w := run_build w _ _ _ (by kernel_rfl)
theorem bIO (p o1 o2 o3 o4 : Int) (v0 : Option Addr) (n c : Nat) (w : World) : (Instr.build 28 #[(1, .int .i64 p), (2, .agg #[.int .i64 o1, .int .i64 o2, .int .i64 o3, .int .u64 o4, .slice v0 n c])]).run Try.prog w = .ok (.agg #[.int .i64 0, .int .i64 p, .int .i64 o1, .int .i64 o2, .int .i64 o3, .int .u64 o4, .slice v0 n c]) w := run_build w _ _ _ (by kernel_rfl)
attribute [-go_sem] Instr.build
attribute [local go_sem] bRD bIR bIO
theorem mid_cell (w : World) (o1 o3 : Obj) (cs : Array Value) (t : TypeId) (i : Nat) (u : Value) (hu : cs[i]? = some u) : (((w.alloc o1).alloc (.cells cs t)).alloc o3).cell? ⟨w.heap.size + 1, i, none⟩ = some u := by
  rw [World.cell?_alloc_past _ _ _ (by simp)]; exact cell_new (by simp) hu
theorem mid_frozen (w : World) (o1 o3 : Obj) (cs : Array Value) (t : TypeId) (i : Nat) : (((w.alloc o1).alloc (.cells cs t)).alloc o3).frozen? ⟨w.heap.size + 1, i, none⟩ = false := by
  rw [World.frozen?_alloc_old _ _ _ (by simp)]
  have := World.frozen?_alloc_new (w.alloc o1) cs t i
  simpa using this
theorem top_c5 (w : World) (o1 o2 : Obj) (a b c d e : Value) (t : TypeId) : C5 (((w.alloc o1).alloc o2).alloc (.cells #[a, b, c, d, e] t)) (w.heap.size + 2) 0 a b c d e := by
  have := C5.new (w := (w.alloc o1).alloc o2) (a := a) (b := b) (c := c) (d := d) (e := e) (t := t)
  simpa using this
theorem body_gen {P : Program} {fn : Func} {Rr : Ending → World → Prop} {ex : Exit} {a : Act} {w0 : World} (R : World → Prop) (hR : R w0) (h : ∀ W, R W → bodyPost P fn Rr ex a W) : bodyPost P fn Rr ex a w0 := h w0 hR
def Seven (w : World) (g : Nat) (a b c d e f h : Value) : Prop := w.cell? ⟨g, 0, none⟩ = some a ∧ w.cell? ⟨g, 1, none⟩ = some b ∧ w.cell? ⟨g, 2, none⟩ = some c ∧ w.cell? ⟨g, 3, none⟩ = some d ∧ w.cell? ⟨g, 4, none⟩ = some e ∧ w.cell? ⟨g, 5, none⟩ = some f ∧ w.cell? ⟨g, 6, none⟩ = some h
theorem seven_set {w : World} {g : Nat} {a b c d e f h a' b' c' d' e' f' h' : Value} (h0 : w.cell? ⟨g, 0, none⟩ = some a') (h1 : w.cell? ⟨g, 1, none⟩ = some b') (h2 : w.cell? ⟨g, 2, none⟩ = some c') (h3 : w.cell? ⟨g, 3, none⟩ = some d') (h4 : w.cell? ⟨g, 4, none⟩ = some e') (h5 : w.cell? ⟨g, 5, none⟩ = some f') (h6 : w.cell? ⟨g, 6, none⟩ = some h') :
    Seven (((((((w.setCell ⟨g, 0, none⟩ a).setCell ⟨g, 1, none⟩ b).setCell ⟨g, 2, none⟩ c).setCell ⟨g, 3, none⟩ d).setCell ⟨g, 4, none⟩ e).setCell ⟨g, 5, none⟩ f).setCell ⟨g, 6, none⟩ h) g a b c d e f h := by
  have o : ∀ {W : World} {i j : Nat} {u v : Value}, W.cell? ⟨g, j, none⟩ = some u → i ≠ j → (W.setCell ⟨g, i, none⟩ v).cell? ⟨g, j, none⟩ = some u := fun h hn => set_off h hn
  refine ⟨?_, ?_, ?_, ?_, ?_, ?_, ?_⟩
  · exact o (o (o (o (o (o (set_same h0) (by decide)) (by decide)) (by decide)) (by decide)) (by decide)) (by decide)
  · exact o (o (o (o (o (set_same (o h1 (by decide))) (by decide)) (by decide)) (by decide)) (by decide)) (by decide)
  · exact o (o (o (o (set_same (o (o h2 (by decide)) (by decide))) (by decide)) (by decide)) (by decide)) (by decide)
  · exact o (o (o (set_same (o (o (o h3 (by decide)) (by decide)) (by decide))) (by decide)) (by decide)) (by decide)
  · exact o (o (set_same (o (o (o (o h4 (by decide)) (by decide)) (by decide)) (by decide))) (by decide)) (by decide)
  · exact o (set_same (o (o (o (o (o h5 (by decide)) (by decide)) (by decide)) (by decide)) (by decide))) (by decide)
  · exact set_same (o (o (o (o (o (o h6 (by decide)) (by decide)) (by decide)) (by decide)) (by decide)) (by decide))
theorem bel7 {w0 w : World} {g : Nat} {a b c d e f h : Value} (hb : Below g w0 w) : Below g w0 (((((((w.setCell ⟨g, 0, none⟩ a).setCell ⟨g, 1, none⟩ b).setCell ⟨g, 2, none⟩ c).setCell ⟨g, 3, none⟩ d).setCell ⟨g, 4, none⟩ e).setCell ⟨g, 5, none⟩ f).setCell ⟨g, 6, none⟩ h) :=
  ((((((hb.setCell (Nat.le_refl _) _).setCell (Nat.le_refl _) _).setCell (Nat.le_refl _) _).setCell (Nat.le_refl _) _).setCell (Nat.le_refl _) _).setCell (Nat.le_refl _) _).setCell (Nat.le_refl _) _
theorem own7 {w : World} {g B t n : Nat} {v : Value} {zs : List Value} {a b c d e f h : Value} (ho : w.ownsRow B t 1 v n zs) (hn : v.ownBlock ≠ some g) : (((((((w.setCell ⟨g, 0, none⟩ a).setCell ⟨g, 1, none⟩ b).setCell ⟨g, 2, none⟩ c).setCell ⟨g, 3, none⟩ d).setCell ⟨g, 4, none⟩ e).setCell ⟨g, 5, none⟩ f).setCell ⟨g, 6, none⟩ h).ownsRow B t 1 v n zs :=
  ownE_set (ownE_set (ownE_set (ownE_set (ownE_set (ownE_set (ownE_set ho hn) hn) hn) hn) hn) hn) hn
/-- binCatch's answer, with the model told beside it. -/
def CatQ (M : Rs In) (w : World) (q X : Nat) (ba : Option Addr) (bc : Nat) (bs : List Int) (e : Ending) (w' : World) : Prop :=
  (w.heap.size ≤ w'.heap.size ∧ w'.os = w.os ∧ w'.tape = w.tape ∧ w'.output = w.output ∧ ∀ k, k < w.heap.size → k ≠ q → k ≠ X → w'.heap[k]? = w.heap[k]?) ∧ ∃ er a, e = .returned (.agg #[.int .i64 er, .int .i64 a, .nilIface]) ∧ ((er ≠ 0 ∧ M = .bad er a) ∨ (er = 0 ∧ ∃ x p' la lc, M = .ok x p' ∧ C5 w' X 0 (.int .i64 x.op) (.int .i64 x.a) (.int .i64 x.b) (.int .u64 x.v) (.slice la x.l.length lc) ∧ w'.ownsRow w.heap.size 2 1 (.slice la x.l.length lc) x.l.length (I x.l) ∧ Rd w' q ba bc bs p'))
theorem cat_q {M : Rs In} {w : World} {q X : Nat} {ba : Option Addr} {bc : Nat} {bs : List Int} {e : Ending} {w' : World} (hnz : M.nz) (h : CatP M w q X ba bc bs e w') : CatQ M w q X ba bc bs e w' := by
  obtain ⟨h1, h2⟩ := h
  refine ⟨h1, ?_⟩
  cases M with
  | bad er a => exact ⟨er, a, h2, .inl ⟨hnz er a rfl, rfl⟩⟩
  | ok x p =>
    obtain ⟨la, lc, e1, e2, e3, _, e5, _⟩ := h2
    exact ⟨0, 0, e1, .inr ⟨rfl, x, p, la, lc, rfl, e2, e3, e5⟩⟩
def drOf (M : Rs In) : DR := match M with
  | .bad er a => ⟨er, a, I0⟩
  | .ok x p => ⟨0, p, x⟩
set_option maxHeartbeats 16000000 in
theorem idec_bad (er a : Int) (ba : Option Addr) (bc : Nat) (bs : List Int) (P : Nat) (w : World) (hA : AllB bs) (hl : bs.length ≤ 1099511627776) (hP : P ≤ bs.length) (hcap : bs.length ≤ bc) (hH : By.Has w ba bs) (hba : ∀ a, ba = some a → a.block < w.heap.size) (hM : insM bs P = .bad er a) :
    Calls Try.prog 7 #[.slice ba bs.length bc, .int .i64 P] w (DrP (drOf (insM bs P)) w) := by
  obtain ⟨W, hW⟩ : ∃ W, W = ((w.alloc (.cells #[.int .i64 0, .int .i64 0, .int .i64 0, .int .i64 0, .int .i64 0, .int .u64 0, .slice none 0 0] 28)).alloc (.cells #[.slice ba bs.length bc, .int .i64 P, .int .i64 9223372036854775807, .slice none 0 0, .slice none 0 0, .slice none 0 0, .slice none 0 0, .slice none 0 0, .slice none 0 0, .slice none 0 0, .bool false, .int .i64 0, .slice none 0 0, .slice none 0 0, .slice none 0 0, .slice none 0 0, .int .i64 0, .int .i64 0, .nilFunc, .slice none 0 0] 70)).alloc (.cells #[.int .i64 0, .int .i64 0, .int .i64 0, .int .u64 0, .slice none 0 0] 26) := ⟨_, rfl⟩
  have hb : Below w.heap.size w W := by rw [hW]; exact (((Below.refl _ _).alloc (Nat.le_refl _) _).alloc (by simp) _).alloc (by simp; omega) _
  have hws : W.heap.size = w.heap.size + 3 := by rw [hW]; simp
  have hR : Rd W (w.heap.size + 1) ba bc bs P := by
    refine ⟨by rw [hW]; exact mid_cell _ _ _ _ _ 0 _ rfl, by rw [hW]; exact mid_cell _ _ _ _ _ 1 _ rfl, by rw [hW]; exact mid_cell _ _ _ _ _ 2 _ rfl, fun i => by rw [hW]; exact mid_frozen _ _ _ _ _ i, hH.keep hb, fun a ha => by have := hba a ha; omega, hP, hcap, by rw [hW]; exact mid_cell _ _ _ _ _ 18 _ rfl, by rw [hW]; exact mid_cell _ _ _ _ _ 19 _ rfl⟩
  have hC : C5 W (w.heap.size + 2) 0 (.int .i64 0) (.int .i64 0) (.int .i64 0) (.int .u64 0) (.slice none 0 0) := by rw [hW]; exact top_c5 _ _ _ _ _ _ _ _ _
  have hZ : W.heap[w.heap.size]? = some (.cells #[.int .i64 0, .int .i64 0, .int .i64 0, .int .i64 0, .int .i64 0, .int .u64 0, .slice none 0 0] 28) := by
    rw [hW, heap_old _ _ _ (by simp; omega), heap_old _ _ _ (by simp)]; exact heap_new w _
  have hmf : ∀ (fn : Fn) (first cap : Array Value) (w : World), (Instr.makeFunc fn first cap).run Try.prog w = .ok (.func fn first cap) w := fun _ _ _ _ => rfl
  have K := Hid.mk' ((cat_c (w.heap.size + 1) (w.heap.size + 2) ba bc bs P W hR hA hl (by omega) (fun a ha hx => by have := hba a ha; omega) hC).mono fun e w' h => cat_q (nz_ins bs P) h)
  have hp1 : ¬ (P : Int) < 0 := by omega
  have hp2 : ¬ (bs.length : Int) < (P : Int) := by omega
  have hd : decide ((P : Int) < 0) = false := decide_eq_false hp1
  have HW := Hid.mk' hW
  have HB := Hid.mk' hb
  have HZ := Hid.mk' hZ
  have HWS := Hid.mk' hws
  clear hR hC hW hb hH hA hZ hws hba hcap hP
  have hne : er ≠ 0 := nz_ins bs P er a hM
  have HMM := Hid.mk' hM
  generalize insM bs P = M at *
  go_enter Try.func7, Try.ntmps7
  go_upto_region 4 with (refine wpList_store_new rfl _ _ 70 rfl rfl _ #[.slice ba bs.length bc, .int .i64 P, .int .i64 9223372036854775807, .slice none 0 0, .slice none 0 0, .slice none 0 0, .slice none 0 0, .slice none 0 0, .slice none 0 0, .slice none 0 0, .bool false, .int .i64 0, .slice none 0 0, .slice none 0 0, .slice none 0 0, .slice none 0 0, .int .i64 0, .int .i64 0, .nilFunc, .slice none 0 0] (by simp [Act.eval]) (by simp [Act.eval]) Try.sizeRD rfl (by simp [Value.oneCell']) ?_)
  go_wp2_with fail
  rw [← HW.out]
  refine (K.out).mono ?_
  subst hM
  rintro e w1 ⟨⟨hs, ho, ht, hu, hk⟩, er', a', rfl, hM'⟩
  obtain ⟨rfl, rfl⟩ : er' = er ∧ a' = a := by
    rcases hM' with ⟨_, h⟩ | ⟨_, x, p, la, lc, h, _⟩
    · cases h; exact ⟨rfl, rfl⟩
    · cases h
  clear hM'
  have hws := HWS.out
  have hF := (hk w.heap.size (by omega) (by omega) (by omega)).trans HZ.out
  have r0 : ∀ i u, #[Value.int .i64 0, .int .i64 0, .int .i64 0, .int .i64 0, .int .i64 0, .int .u64 0, .slice none 0 0][i]? = some u → w1.cell? ⟨w.heap.size, i, none⟩ = some u := fun i u hu => by simp only [World.cell?, hF]; exact hu
  have rf : ∀ i, w1.frozen? ⟨w.heap.size, i, none⟩ = false := fun i => by simp [World.frozen?, hF]
  have hlt : w.heap.size + 3 ≤ w1.heap.size := by omega
  have hlt2 : w.heap.size < w1.heap.size := by omega
  have HB1 : Hid (Below w.heap.size w w1) := HB.out.trans ⟨ho, ht, hu, hs, fun k hk1 => hk k (by omega) (by omega) (by omega)⟩
  have HR0 := Hid.mk' r0
  have HRF := Hid.mk' rf
  clear hs ho ht hu hk hF r0 rf K HW HZ HB hws
  go_upto_region 6 with fail
  refine wp_gen (fun U => (U.cell? ⟨w1.heap.size, 0, none⟩ = some (.int .i64 er') ∧ U.cell? ⟨w1.heap.size, 1, none⟩ = some (.int .i64 a')) ∧ Below w1.heap.size w1 U) ⟨⟨cell_new rfl rfl, cell_new rfl rfl⟩, (Below.refl _ _).alloc (Nat.le_refl _) _⟩ ?_
  rintro U ⟨⟨u0, u1⟩, hU⟩
  have q : ∀ i u, #[Value.int .i64 0, .int .i64 0, .int .i64 0, .int .i64 0, .int .i64 0, .int .u64 0, .slice none 0 0][i]? = some u → U.cell? ⟨w.heap.size, i, none⟩ = some u := fun i u hu => (hU.cell (p := ⟨w.heap.size, i, none⟩) hlt2).trans (HR0.out i u hu)
  have q0 := q 0 _ rfl
  have q1 := q 1 _ rfl
  have q2 := q 2 _ rfl
  have q3 := q 3 _ rfl
  have q4 := q 4 _ rfl
  have q5 := q 5 _ rfl
  have q6 := q 6 _ rfl
  have sf : ∀ i, U.frozen? ⟨w.heap.size, i, none⟩ = false := fun i => (hU.frozen (p := ⟨w.heap.size, i, none⟩) hlt2).trans (HRF.out i)
  have s0 := sf 0
  have s1 := sf 1
  have s2 := sf 2
  have s3 := sf 3
  have s4 := sf 4
  have s5 := sf 5
  have s6 := sf 6
  have HBU := Hid.mk' (HB1.out.trans (hU.mono (by omega)))
  have hne2 : (er' != 0) = true := by simpa using hne
  have HM : Hid (drOf (.bad er' a') = ⟨er', a', I0⟩) := rfl
  clear hne HWS sf q HR0 HRF hU
  go_wp2_with fail
  refine body_gen (fun V => Seven V w.heap.size (.int .i64 er') (.int .i64 a') (.int .i64 0) (.int .i64 0) (.int .i64 0) (.int .u64 0) (.slice none 0 0) ∧ Below w.heap.size w V) ⟨seven_set q0 q1 q2 q3 q4 q5 q6, bel7 HBU.out⟩ ?_
  rintro V ⟨⟨t0, t1, t2, t3, t4, t5, t6⟩, hV⟩
  have HV := Hid.mk' hV
  clear hV q0 q1 q2 q3 q4 q5 q6 s0 s1 s2 s3 s4 s5 s6 u0 u1
  exact bodyPost_ret (v := drV ⟨er', a', I0⟩ none 0) (by simp [results, Try.results7, go_sem, I0, t0, t1, t2, t3, t4, t5, t6]) rfl (by
    rw [HM.out]
    exact ⟨none, 0, rfl, World.ownsRow_nil _ _ _ _, HV.out⟩)
set_option maxHeartbeats 16000000 in
theorem idec_ok (x : In) (p : Nat) (ba : Option Addr) (bc : Nat) (bs : List Int) (P : Nat) (w : World) (hA : AllB bs) (hl : bs.length ≤ 1099511627776) (hP : P ≤ bs.length) (hcap : bs.length ≤ bc) (hH : By.Has w ba bs) (hba : ∀ a, ba = some a → a.block < w.heap.size) (hM : insM bs P = .ok x p) :
    Calls Try.prog 7 #[.slice ba bs.length bc, .int .i64 P] w (DrP (drOf (insM bs P)) w) := by
  obtain ⟨W, hW⟩ : ∃ W, W = ((w.alloc (.cells #[.int .i64 0, .int .i64 0, .int .i64 0, .int .i64 0, .int .i64 0, .int .u64 0, .slice none 0 0] 28)).alloc (.cells #[.slice ba bs.length bc, .int .i64 P, .int .i64 9223372036854775807, .slice none 0 0, .slice none 0 0, .slice none 0 0, .slice none 0 0, .slice none 0 0, .slice none 0 0, .slice none 0 0, .bool false, .int .i64 0, .slice none 0 0, .slice none 0 0, .slice none 0 0, .slice none 0 0, .int .i64 0, .int .i64 0, .nilFunc, .slice none 0 0] 70)).alloc (.cells #[.int .i64 0, .int .i64 0, .int .i64 0, .int .u64 0, .slice none 0 0] 26) := ⟨_, rfl⟩
  have hb : Below w.heap.size w W := by rw [hW]; exact (((Below.refl _ _).alloc (Nat.le_refl _) _).alloc (by simp) _).alloc (by simp; omega) _
  have hws : W.heap.size = w.heap.size + 3 := by rw [hW]; simp
  have hR : Rd W (w.heap.size + 1) ba bc bs P := by
    refine ⟨by rw [hW]; exact mid_cell _ _ _ _ _ 0 _ rfl, by rw [hW]; exact mid_cell _ _ _ _ _ 1 _ rfl, by rw [hW]; exact mid_cell _ _ _ _ _ 2 _ rfl, fun i => by rw [hW]; exact mid_frozen _ _ _ _ _ i, hH.keep hb, fun a ha => by have := hba a ha; omega, hP, hcap, by rw [hW]; exact mid_cell _ _ _ _ _ 18 _ rfl, by rw [hW]; exact mid_cell _ _ _ _ _ 19 _ rfl⟩
  have hC : C5 W (w.heap.size + 2) 0 (.int .i64 0) (.int .i64 0) (.int .i64 0) (.int .u64 0) (.slice none 0 0) := by rw [hW]; exact top_c5 _ _ _ _ _ _ _ _ _
  have hZ : W.heap[w.heap.size]? = some (.cells #[.int .i64 0, .int .i64 0, .int .i64 0, .int .i64 0, .int .i64 0, .int .u64 0, .slice none 0 0] 28) := by
    rw [hW, heap_old _ _ _ (by simp; omega), heap_old _ _ _ (by simp)]; exact heap_new w _
  have hmf : ∀ (fn : Fn) (first cap : Array Value) (w : World), (Instr.makeFunc fn first cap).run Try.prog w = .ok (.func fn first cap) w := fun _ _ _ _ => rfl
  have K := Hid.mk' ((cat_c (w.heap.size + 1) (w.heap.size + 2) ba bc bs P W hR hA hl (by omega) (fun a ha hx => by have := hba a ha; omega) hC).mono fun e w' h => cat_q (nz_ins bs P) h)
  have hp1 : ¬ (P : Int) < 0 := by omega
  have hp2 : ¬ (bs.length : Int) < (P : Int) := by omega
  have hd : decide ((P : Int) < 0) = false := decide_eq_false hp1
  have HW := Hid.mk' hW
  have HB := Hid.mk' hb
  have HZ := Hid.mk' hZ
  have HWS := Hid.mk' hws
  clear hR hC hW hb hH hA hZ hws hba hcap hP
  generalize insM bs P = M at *
  go_enter Try.func7, Try.ntmps7
  go_upto_region 4 with (refine wpList_store_new rfl _ _ 70 rfl rfl _ #[.slice ba bs.length bc, .int .i64 P, .int .i64 9223372036854775807, .slice none 0 0, .slice none 0 0, .slice none 0 0, .slice none 0 0, .slice none 0 0, .slice none 0 0, .slice none 0 0, .bool false, .int .i64 0, .slice none 0 0, .slice none 0 0, .slice none 0 0, .slice none 0 0, .int .i64 0, .int .i64 0, .nilFunc, .slice none 0 0] (by simp [Act.eval]) (by simp [Act.eval]) Try.sizeRD rfl (by simp [Value.oneCell']) ?_)
  go_wp2_with fail
  rw [← HW.out]
  refine (K.out).mono ?_
  subst hM
  rintro e w1 ⟨⟨hs, ho, ht, hu, hk⟩, er, a, rfl, hM'⟩
  obtain ⟨rfl, la, lc, hc, hown, hr⟩ : er = 0 ∧ ∃ la lc, C5 w1 (w.heap.size + 2) 0 (.int .i64 x.op) (.int .i64 x.a) (.int .i64 x.b) (.int .u64 x.v) (.slice la x.l.length lc) ∧ w1.ownsRow W.heap.size 2 1 (.slice la x.l.length lc) x.l.length (I x.l) ∧ Rd w1 (w.heap.size + 1) ba bc bs p := by
    rcases hM' with ⟨_, h⟩ | ⟨h0, x', p', la, lc, h, hc, hown, hr⟩
    · cases h
    · cases h; exact ⟨h0, la, lc, hc, hown, hr⟩
  clear hM'
  have hws := HWS.out
  have hF := (hk w.heap.size (by omega) (by omega) (by omega)).trans HZ.out
  have r0 : ∀ i u, #[Value.int .i64 0, .int .i64 0, .int .i64 0, .int .i64 0, .int .i64 0, .int .u64 0, .slice none 0 0][i]? = some u → w1.cell? ⟨w.heap.size, i, none⟩ = some u := fun i u hu => by simp only [World.cell?, hF]; exact hu
  have rf : ∀ i, w1.frozen? ⟨w.heap.size, i, none⟩ = false := fun i => by simp [World.frozen?, hF]
  have hlt : w.heap.size + 3 ≤ w1.heap.size := by omega
  have hlt2 : w.heap.size < w1.heap.size := by omega
  have HB1 : Hid (Below w.heap.size w w1) := HB.out.trans ⟨ho, ht, hu, hs, fun k hk1 => hk k (by omega) (by omega) (by omega)⟩
  have HR0 := Hid.mk' r0
  have HRF := Hid.mk' rf
  clear hs ho ht hu hk hF r0 rf K HW HZ HB hws
  go_upto_region 6 with fail
  refine wp_gen (fun U => (U.cell? ⟨w1.heap.size, 0, none⟩ = some (.int .i64 0) ∧ U.cell? ⟨w1.heap.size, 1, none⟩ = some (.int .i64 a)) ∧ Below w1.heap.size w1 U) ⟨⟨cell_new rfl rfl, cell_new rfl rfl⟩, (Below.refl _ _).alloc (Nat.le_refl _) _⟩ ?_
  rintro U ⟨⟨u0, u1⟩, hU⟩
  have q : ∀ i u, #[Value.int .i64 0, .int .i64 0, .int .i64 0, .int .i64 0, .int .i64 0, .int .u64 0, .slice none 0 0][i]? = some u → U.cell? ⟨w.heap.size, i, none⟩ = some u := fun i u hu => (hU.cell (p := ⟨w.heap.size, i, none⟩) hlt2).trans (HR0.out i u hu)
  have q0 := q 0 _ rfl
  have q1 := q 1 _ rfl
  have q2 := q 2 _ rfl
  have q3 := q 3 _ rfl
  have q4 := q 4 _ rfl
  have q5 := q 5 _ rfl
  have q6 := q 6 _ rfl
  have sf : ∀ i, U.frozen? ⟨w.heap.size, i, none⟩ = false := fun i => (hU.frozen (p := ⟨w.heap.size, i, none⟩) hlt2).trans (HRF.out i)
  have s0 := sf 0
  have s1 := sf 1
  have s2 := sf 2
  have s3 := sf 3
  have s4 := sf 4
  have s5 := sf 5
  have s6 := sf 6
  have HBU := Hid.mk' (HB1.out.trans (hU.mono (by omega)))
  have HM : Hid (drOf (.ok x p) = ⟨0, p, x⟩) := rfl
  have c1 : U.cell? ⟨w.heap.size + 1, 1, none⟩ = some (.int .i64 p) := (hr.keep hU).c1
  obtain ⟨⟨d0, d1, d2, d3, d4⟩, df⟩ := hc.keep hU
  have hws := HWS.out
  have HO := Hid.mk' (ownE_keep (ownE_down hown (show w.heap.size ≤ W.heap.size by omega)) hU (Nat.le_refl _))
  have HN : Hid ((Value.slice la x.l.length lc).ownBlock ≠ some w.heap.size) := fun e => by have := (hown.lt _ e).1; omega
  clear hr df hown HWS hws sf q HR0 HRF hU hc
  go_wp2_with fail
  refine body_gen (fun V => Seven V w.heap.size (.int .i64 0) (.int .i64 p) (.int .i64 x.op) (.int .i64 x.a) (.int .i64 x.b) (.int .u64 x.v) (.slice la x.l.length lc) ∧ Below w.heap.size w V ∧ V.ownsRow w.heap.size 2 1 (.slice la x.l.length lc) x.l.length (I x.l)) ⟨seven_set q0 q1 q2 q3 q4 q5 q6, bel7 HBU.out, own7 HO.out HN.out⟩ ?_
  rintro V ⟨⟨t0, t1, t2, t3, t4, t5, t6⟩, hV, hOV⟩
  have HV := Hid.mk' hV
  have HOV := Hid.mk' hOV
  clear hV hOV q0 q1 q2 q3 q4 q5 q6 s0 s1 s2 s3 s4 s5 s6 u0 u1 d0 d1 d2 d3 d4 c1
  exact bodyPost_ret (v := drV ⟨0, p, x⟩ la lc) (by simp [results, Try.results7, go_sem, t0, t1, t2, t3, t4, t5, t6]) rfl (by
    rw [HM.out]
    exact ⟨la, lc, rfl, HOV.out, HV.out⟩)
theorem idec_in (ba : Option Addr) (bc : Nat) (bs : List Int) (P : Nat) (w : World) (hA : AllB bs) (hl : bs.length ≤ 1099511627776) (hP : P ≤ bs.length) (hcap : bs.length ≤ bc) (hH : By.Has w ba bs) (hba : ∀ a, ba = some a → a.block < w.heap.size) :
    Calls Try.prog 7 #[.slice ba bs.length bc, .int .i64 P] w (DrP (drOf (insM bs P)) w) := by
  cases hM : insM bs P with
  | bad er a => have := idec_bad er a ba bc bs P w hA hl hP hcap hH hba hM; rwa [hM] at this
  | ok x p => have := idec_ok x p ba bc bs P w hA hl hP hcap hH hba hM; rwa [hM] at this
theorem idec_c (ba : Option Addr) (bc : Nat) (bs : List Int) (at_ : Int) (w : World) (hA : AllB bs) (hl : bs.length ≤ 1099511627776) (hcap : bs.length ≤ bc) (hH : By.Has w ba bs) (hba : ∀ a, ba = some a → a.block < w.heap.size) :
    Calls Try.prog 7 #[.slice ba bs.length bc, .int .i64 at_] w (DrP (dresM bs at_) w) := by
  unfold dresM
  by_cases h : 0 ≤ at_ ∧ at_ ≤ bs.length
  · rw [if_pos h]
    obtain ⟨P, rfl⟩ := Int.eq_ofNat_of_zero_le h.1
    rw [Int.toNat_natCast]
    show Calls _ _ _ _ (DrP (drOf (insM bs P)) w)
    exact idec_in ba bc bs P w hA hl (by omega) hcap hH hba
  · rw [if_neg h]
    exact idec_out ba bc bs at_ w hl h
end Go.Proofs.Yteaegmlnacnofaa
