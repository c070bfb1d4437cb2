import Derived.Test.YteaegmlnacnofaaD9
import Derived.Test.YteaegmlnacnofaaK11
import Derived.Defers
import Derived.Recover
import Derived.Laws.Pointers
set_option linter.all false
set_option linter.unusedVariables false
namespace Go.Proofs.Yteaegmlnacnofaa
open Go.RowKit Go.Sort
set_option maxRecDepth 100000
theorem rins_c (q : Nat) (ba : Option Addr) (bc : Nat) (bs : List Int) (p : Nat) (op : Int) (w : World) (hf : 0 ≤ formR (rowOf op)) (h : Rd w q ba bc bs p) (hA : AllB bs) (hl : bs.length ≤ 1099511627776) :
    Calls Try.prog 29 #[.pointer (some ⟨q, 0, none⟩), .int .i64 op] w (RiP (decF (formR (rowOf op)) op bs p) w q ba bc bs) := by
  rcases form_range op with e | e | e | e | e | e | e | e | e | e | e | e
  · omega
  · rw [e]; exact rins_0 q ba bc bs p op w e h hA hl
  · rw [e]; exact rins_1 q ba bc bs p op w e h hA hl
  · rw [e]; exact rins_2 q ba bc bs p op w e h hA hl
  · rw [e]; exact rins_3 q ba bc bs p op w e h hA hl
  · rw [e]; exact rins_4 q ba bc bs p op w e h hA hl
  · rw [e]; exact rins_5 q ba bc bs p op w e h hA hl
  · rw [e]; exact rins_6 q ba bc bs p op w e h hA hl
  · rw [e]; exact rins_7 q ba bc bs p op w e h hA hl
  · rw [e]; exact rins_8 q ba bc bs p op w e h hA hl
  · rw [e]; exact rins_9 q ba bc bs p op w e h hA hl
  · rw [e]; exact rins_10 q ba bc bs p op w e h hA hl
def opM (bs : List Int) (p : Nat) : Rs Int := (takeM bs p).bind fun x p1 => if formR (rowOf x) < 0 then .bad 10 p1 else .ok x p1
set_option maxHeartbeats 1000000 in
theorem opc_c (q : Nat) (ba : Option Addr) (bc : Nat) (bs : List Int) (p : Nat) (w : World) (h : Rd w q ba bc bs p) (hA : AllB bs) (hl : bs.length ≤ 1099511627776) :
    Calls Try.prog 30 #[.pointer (some ⟨q, 0, none⟩)] w (RdP (opM bs p) (fun v => .int .i64 v) w q ba bc bs) := by
  have K := Hid.mk' (take_c q ba bc bs p w h hl)
  have hbd := fun v p1 => takeM_bd (p := p) (p1 := p1) (v := v) hA
  unfold opM
  generalize takeM bs p = M at *
  cases M with
  | bad er at_ =>
    clear hbd h
    go_enter Try.func30, Try.ntmps30
    go_wp2_with fail
    refine (K.out).mono ?_
    rintro e w1 ⟨hg, rfl⟩
    exact ⟨rfl, hg, rfl⟩
  | ok v p1 =>
    obtain ⟨v0, v1⟩ := hbd v p1 rfl
    have KB := Hid.mk' (iform_c v)
    show Calls _ _ _ _ (RdP (if formR (rowOf v) < 0 then .bad 10 p1 else .ok v p1) _ _ _ _ _ _)
    generalize formR (rowOf v) = f at *
    clear hbd h
    by_cases hf : f < 0
    · rw [if_pos hf]
      go_enter Try.func30, Try.ntmps30
      go_wp2_with fail
      refine (K.out).mono ?_
      rintro e w1 ⟨hg, rfl, hr⟩
      have HG := Hid.mk' hg
      have HR := Hid.mk' hr
      clear hg hr K
      go_wp2_with fail
      refine (KB.out _).mono ?_
      rintro e w2 ⟨rfl, hb2⟩
      have KF := Hid.mk' (fail_c q 10 p1 w2 (HR.out.keep hb2).c1)
      have HG2 := Hid.mk' (grown_trans HG.out (below_grown' (r := some q) hb2))
      clear hb2
      go_wp2_with fail
      refine (KF.out).mono ?_
      rintro e w3 ⟨rfl, rfl⟩
      exact ⟨rfl, HG2.out, rfl⟩
    · rw [if_neg hf]
      go_enter Try.func30, Try.ntmps30
      go_wp2_with fail
      refine (K.out).mono ?_
      rintro e w1 ⟨hg, rfl, hr⟩
      have HG := Hid.mk' hg
      have HR := Hid.mk' hr
      clear hg hr K
      go_wp2_with fail
      refine (KB.out _).mono ?_
      rintro e w2 ⟨rfl, hb2⟩
      have HG2 := Hid.mk' (grown_trans HG.out (below_grown' (r := some q) hb2))
      have HR2 := Hid.mk' (HR.out.keep hb2)
      clear hb2
      go_wp2_with fail
      go_ret
      exact ⟨HG2.out, rfl, HR2.out⟩
/-- An instruction at a place. -/
def insM (bs : List Int) (p : Nat) : Rs In := (opM bs p).bind fun op p1 => decF (formR (rowOf op)) op bs p1
theorem opM_form {bs : List Int} {p p1 : Nat} {v : Int} (h : opM bs p = .ok v p1) : 0 ≤ formR (rowOf v) := by
  unfold opM at h
  generalize takeM bs p = M at h
  cases M with
  | bad er at_ => cases h
  | ok x p2 =>
    simp only [Rs.bind] at h
    split at h
    · cases h
    · cases h; omega
/-- What the closure leaves: the instruction in x's block. -/
def CloP (M : Rs In) (w : World) (q X : Nat) (ba : Option Addr) (bc : Nat) (bs : List Int) (e : Ending) (w' : World) : Prop :=
  (w.heap.size ≤ w'.heap.size ∧ w'.os = w.os ∧ w'.tape = w.tape ∧ w'.output = w.output ∧ ∀ k, k < w.heap.size → k ≠ q → k ≠ X → w'.heap[k]? = w.heap[k]?) ∧ (match M with
    | .bad er at_ => e = .panicked [flt er at_]
    | .ok x p' => ∃ la lc, e = .returned (.tuple #[]) ∧ C5 w' X 0 (.int .i64 x.op) (.int .i64 x.a) (.int .i64 x.b) (.int .u64 x.v) (.slice la x.l.length lc) ∧ w'.ownsRow w.heap.size 2 1 (.slice la x.l.length lc) x.l.length (I x.l) ∧ Rd w' q ba bc bs p' ∧ x.l.length ≤ bs.length)
set_option maxHeartbeats 4000000 in
theorem clo_c (q X : Nat) (ba : Option Addr) (bc : Nat) (bs : List Int) (p : Nat) (w : World) (h : Rd w q ba bc bs p) (hA : AllB bs) (hl : bs.length ≤ 1099511627776) (hXq : X ≠ q) (hXb : ∀ a, ba = some a → bs ≠ [] → a.block ≠ X) (hC : C5 w X 0 (.int .i64 0) (.int .i64 0) (.int .i64 0) (.int .u64 0) (.slice none 0 0)) :
    Calls Try.prog 28 #[.pointer (some ⟨q, 0, none⟩), .pointer (some ⟨X, 0, none⟩)] w (CloP (insM bs p) w q X ba bc bs) := by
  have K := Hid.mk' (opc_c q ba bc bs p w h hA hl)
  have HA := Hid.mk' hA
  have HC := Hid.mk' hC
  have hlt : X < w.heap.size := hC.lt
  have hfo := fun v p1 => opM_form (bs := bs) (p := p) (p1 := p1) (v := v)
  unfold insM
  generalize opM bs p = M at *
  cases M with
  | bad er at_ =>
    clear hfo h hA hC
    go_enter Try.func28, Try.ntmps28
    go_wp2_with fail
    refine (K.out).mono ?_
    rintro e w1 ⟨hg, rfl⟩
    exact ⟨rfl, ⟨hg.size, hg.os, hg.tape, hg.output, fun k hk h1 _ => hg.block k hk (by simpa using h1)⟩, rfl⟩
  | ok op p1 =>
    have hf := hfo op p1 rfl
    have K2 := Hid.mk' (fun V (hV : Rd V q ba bc bs p1) => rins_c q ba bc bs p1 op V hf hV HA.out hl)
    show Calls _ _ _ _ (CloP (decF (formR (rowOf op)) op bs p1) _ _ _ _ _ _)
    generalize decF (formR (rowOf op)) op bs p1 = M2 at *
    clear hfo h hA hC hf
    cases M2 with
    | bad er at_ =>
      go_enter Try.func28, Try.ntmps28
      go_wp2_with fail
      refine (K.out).mono ?_
      rintro e w1 ⟨hg, rfl, hr⟩
      have HG := Hid.mk' hg
      have HR := Hid.mk' hr
      clear hg hr K
      go_wp2_with fail
      refine (K2.out _ HR.out).mono ?_
      rintro e w2 ⟨hg2, rfl⟩
      have hg := grown_trans HG.out hg2
      exact ⟨rfl, ⟨hg.size, hg.os, hg.tape, hg.output, fun k hk h1 _ => hg.block k hk (by simpa using h1)⟩, rfl⟩
    | ok x p2 =>
      go_enter Try.func28, Try.ntmps28
      go_wp2_with fail
      refine (K.out).mono ?_
      rintro e w1 ⟨hg, rfl, hr⟩
      have HG := Hid.mk' hg
      have HR := Hid.mk' hr
      clear hg hr K
      go_wp2_with fail
      refine (K2.out _ HR.out).mono ?_
      rintro e w2 ⟨hg2, la, lc, rfl, ho, hr2, hll⟩
      have HG2 := Hid.mk' (grown_trans HG.out hg2)
      have hs1 := HG.out.size
      have HO := Hid.mk' (ownE_down ho hs1)
      have HR2 := Hid.mk' hr2
      have hc2 := c5_grown HC.out HG2.out hXq
      have HC2 := Hid.mk' hc2
      obtain ⟨⟨d0, d1, d2, d3, d4⟩, df⟩ := hc2
      have df0 := df 0
      have df1 := df 1
      have df2 := df 2
      have df3 := df 3
      have df4 := df 4
      have HN : Hid ((Value.slice la x.l.length lc).ownBlock ≠ some X) := fun e => by have := (ho.lt _ e).1; omega
      clear hg2 ho hr2 K2 HG df
      go_wp2_with fail
      go_end0
      refine ⟨⟨?_, HG2.out.os, HG2.out.tape, HG2.out.output, fun k hk h1 h2 => ?_⟩, la, lc, rfl, ?_, ?_, ?_, hll⟩
      · have := HG2.out.size
        simpa [World.setCell] using this
      · rw [Below.heap_setCell _ _ _ _ h2, Below.heap_setCell _ _ _ _ h2, Below.heap_setCell _ _ _ _ h2, Below.heap_setCell _ _ _ _ h2, Below.heap_setCell _ _ _ _ h2]
        exact HG2.out.block k hk (by simpa using h1)
      · exact ⟨⟨set_off (set_off (set_off (set_off (set_same d0) (by decide)) (by decide)) (by decide)) (by decide), set_off (set_off (set_off (set_same (set_off d1 (by decide))) (by decide)) (by decide)) (by decide), set_off (set_off (set_same (set_off (set_off d2 (by decide)) (by decide))) (by decide)) (by decide), set_off (set_same (set_off (set_off (set_off d3 (by decide)) (by decide)) (by decide))) (by decide), set_same (set_off (set_off (set_off (set_off d4 (by decide)) (by decide)) (by decide)) (by decide))⟩, fun i => by simp only [World.frozen?_setCell]; exact HC2.out.2 i⟩
      · exact ownE_set (ownE_set (ownE_set (ownE_set (ownE_set HO.out HN.out) HN.out) HN.out) HN.out) HN.out
      · have L : ∀ {W : World} (o : Nat) (v : Value), Rd W q ba bc bs p2 → Rd (W.setCell ⟨X, o, none⟩ v) q ba bc bs p2 := fun {W} o v hW => hW.grown (grown_set W X o v) (by simpa using fun e => hXq e.symm) (fun a ha hx => by simpa using hXb a ha hx)
        exact L _ _ (L _ _ (L _ _ (L _ _ (L _ _ HR2.out))))
end Go.Proofs.Yteaegmlnacnofaa

set_option linter.unusedVariables false
namespace Go.Proofs.Yteaegmlnacnofaa
open Go.RowKit Go.Sort
set_option maxRecDepth 100000
abbrev fltR (er at_ : Int) : PanicEntry := { v := .iface 74 (.agg #[.int .i64 er, .int .i64 at_, .nilIface]), recovered := true }
set_option maxHeartbeats 2000000 in
theorem catch_p (F : Nat) (er at_ : Int) (a b c : Value) (w : World) (c0 : w.cell? ⟨F, 0, none⟩ = some a) (c1 : w.cell? ⟨F, 1, none⟩ = some b) (c2 : w.cell? ⟨F, 2, none⟩ = some c) (f0 : w.frozen? ⟨F, 0, none⟩ = false) (f1 : w.frozen? ⟨F, 1, none⟩ = false) (f2 : w.frozen? ⟨F, 2, none⟩ = false) :
    CallsD Try.prog 51 #[.pointer (some ⟨F, 0, none⟩)] (.panicking [flt er at_]) w fun e u' w' =>
      e = .returned (.tuple #[]) ∧ u' = .panicking [fltR er at_] ∧ w' = ((w.setCell ⟨F, 0, none⟩ (.int .i64 er)).setCell ⟨F, 1, none⟩ (.int .i64 at_)).setCell ⟨F, 2, none⟩ .nilIface := by
  have hta : ∀ w : World, (Instr.typeAssert (.iface 74 (.agg #[.int .i64 er, .int .i64 at_, .nilIface])) 20 74 false).run Try.prog w = .ok (.agg #[.int .i64 er, .int .i64 at_, .nilIface]) w := fun w => by kernel_rfl
  refine callsD_of_wpS Try.func51 rfl fun c₀ cs hu => ?_
  apply wpS_seq
  apply wpS_region
  simp [wpOpsS, go_sem, recoverD, hu, Try.ntmps51, Exit.thenS]
  apply wpS_seq
  apply wpS_region
  simp [wpOpsS, go_sem, Exit.thenS, Array.replicate]
  refine wpS_cond (t := true) (by simp [Act.eval, Array.replicate]) ?_
  simp only [if_true]
  apply wpS_region
  simp [wpOpsS, go_sem, hta, c0, c1, c2, f0, f1, f2, bodyPostS, results, Try.results51, Array.replicate]
theorem catch_i (F : Nat) (w : World) :
    CallsD Try.prog 51 #[.pointer (some ⟨F, 0, none⟩)] .returning w fun e u' w' => e = .returned (.tuple #[]) ∧ u' = .returning ∧ w' = w := by
  refine callsD_of_wpS Try.func51 rfl fun c₀ cs hu => ?_
  apply wpS_seq
  apply wpS_region
  simp [wpOpsS, go_sem, recoverD, hu, Try.ntmps51, Exit.thenS]
  apply wpS_seq
  apply wpS_region
  simp [wpOpsS, go_sem, Exit.thenS, Array.replicate]
  refine wpS_cond (t := false) (by simp [Act.eval, Array.replicate]) ?_
  simp only [Bool.false_eq_true, if_false]
  refine wpS_of_wp (wp_skip ?_)
  cases c₀
  simp_all [bodyPostS, results, Try.results51]
/-- binCatch over the closure. -/
def CatP (M : Rs In) (w : World) (q X : Nat) (ba : Option Addr) (bc : Nat) (bs : List Int) (e : Ending) (w' : World) : Prop :=
  (w.heap.size ≤ w'.heap.size ∧ w'.os = w.os ∧ w'.tape = w.tape ∧ w'.output = w.output ∧ ∀ k, k < w.heap.size → k ≠ q → k ≠ X → w'.heap[k]? = w.heap[k]?) ∧ (match M with
    | .bad er at_ => e = .returned (.agg #[.int .i64 er, .int .i64 at_, .nilIface])
    | .ok x p' => ∃ la lc, e = .returned (.agg #[.int .i64 0, .int .i64 0, .nilIface]) ∧ C5 w' X 0 (.int .i64 x.op) (.int .i64 x.a) (.int .i64 x.b) (.int .u64 x.v) (.slice la x.l.length lc) ∧ w'.ownsRow w.heap.size 2 1 (.slice la x.l.length lc) x.l.length (I x.l) ∧ (Value.slice la x.l.length lc).ownBlock ≠ some w.heap.size ∧ Rd w' q ba bc bs p' ∧ x.l.length ≤ bs.length)
set_option maxHeartbeats 4000000 in
theorem cat_c (q X : Nat) (ba : Option Addr) (bc : Nat) (bs : List Int) (p : Nat) (w : World) (h : Rd w q ba bc bs p) (hA : AllB bs) (hl : bs.length ≤ 1099511627776) (hXq : X ≠ q) (hXb : ∀ a, ba = some a → bs ≠ [] → a.block ≠ X) (hC : C5 w X 0 (.int .i64 0) (.int .i64 0) (.int .i64 0) (.int .u64 0) (.slice none 0 0)) :
    Calls Try.prog 27 #[.func (.func 28) #[] #[.pointer (some ⟨q, 0, none⟩), .pointer (some ⟨X, 0, none⟩)]] w (CatP (insM bs p) w q X ba bc bs) := by
  have hmf : ∀ (fn : Fn) (first cap : Array Value) (w : World), (Instr.makeFunc fn first cap).run Try.prog w = .ok (.func fn first cap) w := fun _ _ _ _ => rfl
  have b0 : Below w.heap.size w (w.alloc (.cells #[.int .i64 0, .int .i64 0, .nilIface] 74)) := (Below.refl _ _).alloc (Nat.le_refl _) _
  have K := Hid.mk' (clo_c q X ba bc bs p (w.alloc (.cells #[.int .i64 0, .int .i64 0, .nilIface] 74)) (h.keep b0) hA hl hXq hXb hC.past)
  have hq := h.lt
  have hX := hC.lt
  have HBL := Hid.mk' (fun a (ha : ba = some a) (hx : bs ≠ []) => By.Has.lt (a := a) (by rw [← ha]; exact h.has) hx)
  clear h hA hC b0
  generalize insM bs p = M at *
  cases M with
  | bad er at_ =>
    go_enter_defers Try.func27, Try.ntmps27
    go_wp2_with fail
    refine (K.out).mono ?_
    rintro e w1 ⟨⟨hs, ho, ht, hu, hk⟩, rfl⟩
    have hF : w1.heap[w.heap.size]? = some (.cells #[.int .i64 0, .int .i64 0, .nilIface] 74) := (hk w.heap.size (by simp) (by omega) (by omega)).trans (heap_new w _)
    have hsz : w.heap.size < w1.heap.size := by simp at hs; omega
    have c0 : w1.cell? ⟨w.heap.size, 0, none⟩ = some (.int .i64 0) := by simp [World.cell?, hF]
    have c1 : w1.cell? ⟨w.heap.size, 1, none⟩ = some (.int .i64 0) := by simp [World.cell?, hF]
    have f0 : w1.frozen? ⟨w.heap.size, 0, none⟩ = false := by simp [World.frozen?, hF]
    have f1 : w1.frozen? ⟨w.heap.size, 1, none⟩ = false := by simp [World.frozen?, hF]
    have c2 : w1.cell? ⟨w.heap.size, 2, none⟩ = some .nilIface := by simp [World.cell?, hF]
    have f2 : w1.frozen? ⟨w.heap.size, 2, none⟩ = false := by simp [World.frozen?, hF]
    refine leaves_cons (f := 51) (args := #[.pointer (some ⟨w.heap.size, 0, none⟩)]) (by simp) (by simp [go_sem]) ?_
    refine (catch_p w.heap.size er at_ _ _ _ w1 c0 c1 c2 f0 f1 f2).mono ?_
    rintro e u' w'' ⟨rfl, rfl, rfl⟩
    simp [Leaves, settle, results, Try.results27, go_sem, c0, c1, c2]
    refine ⟨⟨?_, ho, ht, hu, fun k hk1 hk2 hk3 => ?_⟩, rfl⟩
    · simp [World.setCell]; omega
    · rw [Below.heap_setCell _ _ _ _ (by show k ≠ w.heap.size; omega), Below.heap_setCell _ _ _ _ (by show k ≠ w.heap.size; omega), Below.heap_setCell _ _ _ _ (by show k ≠ w.heap.size; omega), hk k (by simp; omega) hk2 hk3]
      exact heap_old w _ k hk1
  | ok x p1 =>
    go_enter_defers Try.func27, Try.ntmps27
    go_wp2_with fail
    refine (K.out).mono ?_
    rintro e w1 ⟨⟨hs, ho, ht, hu, hk⟩, la, lc, rfl, hc, hown, hr, hll⟩
    have hF : w1.heap[w.heap.size]? = some (.cells #[.int .i64 0, .int .i64 0, .nilIface] 74) := (hk w.heap.size (by simp) (by omega) (by omega)).trans (heap_new w _)
    have hsz : w.heap.size < w1.heap.size := by simp at hs; omega
    have c0 : w1.cell? ⟨w.heap.size, 0, none⟩ = some (.int .i64 0) := by simp [World.cell?, hF]
    have c1 : w1.cell? ⟨w.heap.size, 1, none⟩ = some (.int .i64 0) := by simp [World.cell?, hF]
    have f0 : w1.frozen? ⟨w.heap.size, 0, none⟩ = false := by simp [World.frozen?, hF]
    have f1 : w1.frozen? ⟨w.heap.size, 1, none⟩ = false := by simp [World.frozen?, hF]
    have c2 : w1.cell? ⟨w.heap.size, 2, none⟩ = some .nilIface := by simp [World.cell?, hF]
    have f2 : w1.frozen? ⟨w.heap.size, 2, none⟩ = false := by simp [World.frozen?, hF]
    have HK := Hid.mk' (And.intro hs (And.intro ho (And.intro ht (And.intro hu hk))))
    have HC := Hid.mk' hc
    have HO := Hid.mk' hown
    have HR := Hid.mk' hr
    clear hs ho ht hu hk hc hown hr K hF
    go_wp2_with fail
    refine leaves_cons (f := 51) (args := #[.pointer (some ⟨w.heap.size, 0, none⟩)]) (by simp) (by simp [go_sem]) ?_
    refine (catch_i w.heap.size _).mono ?_
    rintro e u' w'' ⟨rfl, rfl, rfl⟩
    simp [Leaves, settle, results, Try.results27, go_sem, c0, c1, c2]
    obtain ⟨hs, ho, ht, hu, hk⟩ := HK.out
    have hN : (Value.slice la x.l.length lc).ownBlock ≠ some w.heap.size := fun e => by have := (HO.out.lt _ e).1; simp at this; omega
    refine ⟨⟨?_, ho, ht, hu, fun k hk1 hk2 hk3 => ?_⟩, la, lc, rfl, ?_, ?_, hN, ?_, hll⟩
    · simp [World.setCell]; omega
    · rw [Below.heap_setCell _ _ _ _ (by show k ≠ w.heap.size; omega), Below.heap_setCell _ _ _ _ (by show k ≠ w.heap.size; omega), Below.heap_setCell _ _ _ _ (by show k ≠ w.heap.size; omega), hk k (by simp; omega) hk2 hk3]
      exact heap_old w _ k hk1
    · exact c5_far (c5_far (c5_far HC.out (by omega)) (by omega)) (by omega)
    · exact ownE_set (ownE_set (ownE_set (ownE_down HO.out (by simp)) hN) hN) hN
    · have L : ∀ {V : World} (o : Nat) (v : Value), Rd V q ba bc bs p1 → Rd (V.setCell ⟨w.heap.size, o, none⟩ v) q ba bc bs p1 := fun {V} o v hV => hV.grown (grown_set V w.heap.size o v) (by simp; omega) (fun a ha hx => by have := HBL.out a ha hx; simp; omega)
      exact L _ _ (L _ _ (L _ _ HR.out))
end Go.Proofs.Yteaegmlnacnofaa

set_option linter.unusedVariables false
namespace Go.Proofs.Yteaegmlnacnofaa
open Go.RowKit Go.Sort
set_option maxRecDepth 100000
def Rs.nz {α : Type} (r : Rs α) : Prop := ∀ er a, r = .bad er a → er ≠ 0
theorem nz_bind {α β : Type} {r : Rs α} {k : α → Nat → Rs β} (h : r.nz) (hk : ∀ v p, (k v p).nz) : (r.bind k).nz := by
  cases r with
  | bad er a => intro er' a' e; simp only [Rs.bind] at e; cases e; exact h _ _ rfl
  | ok v p => exact hk v p
theorem nz_ok {α : Type} (v : α) (p : Nat) : (Rs.ok v p).nz := fun er a e => by cases e
theorem nz_take (bs : List Int) (p : Nat) : (takeM bs p).nz := by
  intro er a e
  unfold takeM at e
  split at e
  · cases e; decide
  · cases e
theorem nz_num (s : Bool) (B : Int) (bs : List Int) (p : Nat) : (numM s B bs p).nz := by
  intro er a e
  unfold numM at e
  split at e
  · cases e; decide
  · split at e
    · cases e
    · cases e; decide
theorem nz_fix (bs : List Int) (p n : Nat) : (fixM bs p n).nz := by
  intro er a e
  unfold fixM at e
  split at e
  · cases e
  · cases e; decide
theorem nz_if {α : Type} {c : Prop} [Decidable c] {x y : Rs α} (h1 : x.nz) (h2 : y.nz) : (if c then x else y).nz := by split <;> assumption
theorem nz_bad {α : Type} (er a : Int) (h : er ≠ 0) : (Rs.bad er a : Rs α).nz := fun _ _ e => by cases e; exact h
theorem nz_only (bs : List Int) (p : Nat) : (onlyM bs p).nz := nz_bind (nz_take _ _) fun v p1 => nz_if (nz_ok _ _) (nz_bad _ _ (by decide))
theorem nz_mark (bs : List Int) (p : Nat) : (markM bs p).nz := nz_bind (nz_take _ _) fun v p1 => nz_if (nz_ok _ _) (nz_bad _ _ (by decide))
theorem nz_rep (bs : List Int) : ∀ (n : Nat) (acc : List Int) (p : Nat), (repM bs n acc p).nz := by
  intro n
  induction n with
  | zero => intro acc p; exact nz_ok _ _
  | succ n ih => intro acc p; exact nz_bind (nz_num _ _ _ _) fun v p1 => ih _ _
theorem nz_vec (bs : List Int) (p : Nat) : (vecM bs p).nz := nz_bind (nz_num _ _ _ _) fun v p1 => nz_rep _ _ _ _
theorem nz_dec (f op : Int) (bs : List Int) (p : Nat) : (decF f op bs p).nz := by
  unfold decF
  repeat' refine nz_if ?_ ?_
  · exact nz_bind (nz_only _ _) fun _ _ => nz_ok _ _
  · exact nz_bind (nz_num _ _ _ _) fun _ _ => nz_ok _ _
  · exact nz_bind (nz_vec _ _) fun _ _ => nz_bind (nz_num _ _ _ _) fun _ _ => nz_ok _ _
  · exact nz_bind (nz_num _ _ _ _) fun _ _ => nz_bind (nz_mark _ _) fun _ _ => nz_ok _ _
  · exact nz_bind (nz_num _ _ _ _) fun _ _ => nz_bind (nz_num _ _ _ _) fun _ _ => nz_ok _ _
  · exact nz_bind (nz_mark _ _) fun _ _ => nz_ok _ _
  · exact nz_bind (nz_num _ _ _ _) fun _ _ => nz_ok _ _
  · exact nz_bind (nz_num _ _ _ _) fun _ _ => nz_ok _ _
  · exact nz_bind (nz_fix _ _ _) fun _ _ => nz_ok _ _
  · exact nz_bind (nz_fix _ _ _) fun _ _ => nz_ok _ _
  · exact nz_ok _ _
theorem nz_op (bs : List Int) (p : Nat) : (opM bs p).nz := nz_bind (nz_take _ _) fun v p1 => nz_if (nz_bad _ _ (by decide)) (nz_ok _ _)
theorem nz_ins (bs : List Int) (p : Nat) : (insM bs p).nz := nz_bind (nz_op _ _) fun _ _ => nz_dec _ _ _ _
/-- An answer of DecodeIns. -/
structure DR where
  err : Int
  nxt : Int
  x : In
def dresM (bs : List Int) (at_ : Int) : DR :=
  if 0 ≤ at_ ∧ at_ ≤ bs.length then (match insM bs at_.toNat with
    | .bad er a => ⟨er, a, I0⟩
    | .ok x p => ⟨0, p, x⟩) else ⟨2, bs.length, I0⟩
abbrev drV (d : DR) (la : Option Addr) (lc : Nat) : Value := .agg #[.int .i64 d.err, .int .i64 d.nxt, .int .i64 d.x.op, .int .i64 d.x.a, .int .i64 d.x.b, .int .u64 d.x.v, .slice la d.x.l.length lc]
def DrP (d : DR) (w : World) (e : Ending) (w' : World) : Prop := ∃ la lc, e = .returned (drV d la lc) ∧ w'.ownsRow w.heap.size 2 1 (.slice la d.x.l.length lc) d.x.l.length (I d.x.l) ∧ Below w.heap.size w w'
set_option maxHeartbeats 2000000 in
theorem idec_out (ba : Option Addr) (bc : Nat) (bs : List Int) (at_ : Int) (w : World) (hl : bs.length ≤ 1099511627776) (h : ¬ (0 ≤ at_ ∧ at_ ≤ bs.length)) :
    Calls Try.prog 7 #[.slice ba bs.length bc, .int .i64 at_] w (DrP ⟨2, bs.length, I0⟩ w) := by
  by_cases h1 : at_ < 0
  · have hd : decide (at_ < 0) = true := decide_eq_true h1
    go_enter Try.func7, Try.ntmps7
    go_wp2
    exact bodyPost_ret (v := drV ⟨2, bs.length, I0⟩ none 0) (by simp [results, Try.results7, go_sem, I0]) rfl ⟨none, 0, rfl, World.ownsRow_nil _ _ _ _, (Below.refl _ _).alloc (Nat.le_refl _) _⟩
  · have h2 : (bs.length : Int) < at_ := by omega
    have hd : decide (at_ < 0) = false := decide_eq_false h1
    go_enter Try.func7, Try.ntmps7
    go_wp2
    exact bodyPost_ret (v := drV ⟨2, bs.length, I0⟩ none 0) (by simp [results, Try.results7, go_sem, I0]) rfl ⟨none, 0, rfl, World.ownsRow_nil _ _ _ _, (Below.refl _ _).alloc (Nat.le_refl _) _⟩
end Go.Proofs.Yteaegmlnacnofaa
