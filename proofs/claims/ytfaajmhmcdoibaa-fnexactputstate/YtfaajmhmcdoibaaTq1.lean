import Derived.Test.YtfaajmhmcdoibaaRq1
import Derived.Test.YtfaajmhmcdoibaaCut
set_option linter.all false
set_option linter.unusedVariables false
namespace Go.Proofs.Ytfaajmhmcdoibaa.NF
open Go.RowKit Go.Sort
set_option maxRecDepth 100000
def unfro : Obj → Bool
  | .cells _ _ (lo, hi) => lo == 0 && hi == 0
  | _ => false
/-- 'Below', and nothing is newly frozen. -/
structure Below (B : Nat) (w w' : World) : Prop where
  bw : Go.RowKit.Below B w w'
  nz : ∀ a, w'.frozen? a = true → w.frozen? a = true
theorem Below.size {B : Nat} {w w' : World} (h : Below B w w') : w.heap.size ≤ w'.heap.size := h.bw.size
theorem Below.block {B : Nat} {w w' : World} (h : Below B w w') : ∀ k, k < B → w'.heap[k]? = w.heap[k]? := h.bw.block
theorem Below.cell {B : Nat} {w w' : World} (h : Below B w w') {p : Addr} (hp : p.block < B) : w'.cell? p = w.cell? p := h.bw.cell hp
theorem Below.frozen {B : Nat} {w w' : World} (h : Below B w w') {p : Addr} (hp : p.block < B) : w'.frozen? p = w.frozen? p := h.bw.frozen hp
theorem Below.refl (B : Nat) (w : World) : Below B w w := ⟨Go.RowKit.Below.refl _ _, fun _ h => h⟩
theorem Below.trans {B : Nat} {a b c : World} (h : Below B a b) (k : Below B b c) : Below B a c := ⟨h.bw.trans k.bw, fun p hp => h.nz p (k.nz p hp)⟩
theorem Below.mono {B B' : Nat} {w w' : World} (h : Below B w w') (hB : B' ≤ B) : Below B' w w' := ⟨h.bw.mono hB, h.nz⟩
theorem Below.setCell {B : Nat} {w w' : World} (h : Below B w w') {p : Addr} (hp : B ≤ p.block) (v : Value) : Below B w (w'.setCell p v) := ⟨h.bw.setCell hp v, fun a ha => h.nz a (by rwa [World.frozen?_setCell] at ha)⟩
theorem Below.alloc {B : Nat} {w w' : World} (h : Below B w w') (hs : B ≤ w'.heap.size) (o : Obj) (ho : unfro o = true := by rfl) : Below B w (w'.alloc o) := by
  refine ⟨h.bw.alloc hs o, fun a ha => h.nz a ?_⟩
  by_cases e : a.block = w'.heap.size
  · exfalso
    have hh : (w'.alloc o).heap[a.block]? = some o := by rw [e]; exact heap_new w' o
    unfold World.frozen? at ha
    rw [hh] at ha
    cases o with
    | cells c t r =>
      obtain ⟨lo, hi⟩ := r
      simp only [unfro, Bool.and_eq_true, beq_iff_eq] at ho
      obtain ⟨rfl, rfl⟩ := ho
      simp at ha
    | _ => simp [unfro] at ho
  · have hh : (w'.alloc o).heap[a.block]? = w'.heap[a.block]? := by
      show (w'.heap.push o)[a.block]? = _
      rcases Nat.lt_or_ge a.block w'.heap.size with h' | h'
      · rw [Array.getElem?_push_lt h', Array.getElem?_eq_getElem h']
      · rw [Array.getElem?_eq_none (by simp; omega), Array.getElem?_eq_none h']
    unfold World.frozen? at ha ⊢
    rwa [hh] at ha
theorem Below.heap_setCell (w : World) (p : Addr) (v : Value) (k : Nat) (h : k ≠ p.block) : (w.setCell p v).heap[k]? = w.heap[k]? := Go.RowKit.Below.heap_setCell w p v k h
theorem up_below {B : Nat} {w w' : World} (h : Below w.heap.size w w') : Up B w w' := Go.Proofs.Ytfaajmhmcdoibaa.up_below h.bw
abbrev U8 (xs : List Int) : List Value := xs.map fun x => Value.int .u8 x
abbrev U64 (xs : List Int) : List Value := xs.map fun x => Value.int .u64 x
theorem Try.info85 : (Try.prog.info? 85).map (fun i => (i.zero, i.size, i.bytes)) = some (some (.int .u64 0), 1, 8) := by kernel_rfl
theorem copyB_step (k : Nat) (xs : List Int) (h : k < xs.length) : (U8 (xs.take k ++ (List.replicate xs.length 0).drop k)).set k (.int .u8 (xs.getD k 0)) = U8 (xs.take (k + 1) ++ (List.replicate xs.length 0).drop (k + 1)) := by
  have hd : (List.replicate xs.length (0 : Int)).drop k = 0 :: (List.replicate xs.length (0 : Int)).drop (k + 1) := by
    rw [List.drop_eq_getElem_cons (by simpa using h)]; simp
  have ht : xs.take (k + 1) = xs.take k ++ [xs.getD k 0] := by
    rw [List.take_succ_eq_append_getElem h]; simp [List.getD, h]
  rw [hd, ht]
  simp only [U8, List.map_append, List.map_cons, List.append_assoc, List.cons_append, List.nil_append, List.map_nil]
  rw [List.set_append_right _ _ (by simp; omega)]
  simp [Nat.min_eq_left (Nat.le_of_lt h)]
set_option maxHeartbeats 1000000 in
theorem toB_c (a : Option Addr) (c : Nat) (xs : List Int) (w : World) (hn : xs.length ≤ 1048576) (hH : HI .u8 0 w a xs) :
    Calls Try.prog 15 #[.slice a xs.length c] w fun e w' => e = .returned (.slice (some ⟨w.heap.size, 0, none⟩) xs.length xs.length) ∧ w'.ownsRow w.heap.size 5 1 (.slice (some ⟨w.heap.size, 0, none⟩) xs.length xs.length) xs.length (U8 xs) ∧ Below w.heap.size w w' := by
  have hmk := run_make_row' (P := Try.prog) 27 5 (.int .u8 0) 1 Try.underlying27 Try.info5 rfl .i64 .i64 xs.length (by omega) (by omega)
  have HH := Hid.mk' hH
  clear hH
  have hst : (w.alloc (.cells (madeCells #[.int .u8 0] xs.length) 5)).ownsRow w.heap.size 5 1 (.slice (some ⟨w.heap.size, 0, none⟩) xs.length xs.length) xs.length (U8 (xs.take 0 ++ (List.replicate xs.length 0).drop 0)) := by
    have := World.ownsRow_lit (base := w.heap.size) (e := 5) (size := 1) w (madeCells #[.int .u8 0] xs.length) xs.length (Nat.le_refl _) (by unfold maxLen; omega) (by simp [madeCells])
    have e : (madeCells #[.int .u8 0] xs.length).toList = U8 (xs.take 0 ++ (List.replicate xs.length 0).drop 0) := by
      apply List.ext_getElem?
      intro i
      by_cases hi : i < xs.length
      · simp [madeCells, hi, Nat.mod_one]
      · simp [madeCells, hi]
    rw [e] at this
    exact this
  have HS := Hid.mk' hst
  clear hst
  go_enter Try.func15, Try.ntmps15
  go_wp2
  go_loopw [4] (fun i wr => ∃ k : Nat, k ≤ xs.length ∧ i = .int .i64 k ∧ wr.ownsRow w.heap.size 5 1 (.slice (some ⟨w.heap.size, 0, none⟩) xs.length xs.length) xs.length (U8 (xs.take k ++ (List.replicate xs.length 0).drop k)) ∧ Below w.heap.size w wr) (fun i _ => xs.length - (intOf i).toNat)
  case atStart => exact ⟨0, Nat.zero_le _, rfl, HS.out, (Below.refl _ _).alloc (Nat.le_refl _) _⟩
  case round =>
    obtain ⟨k, hk, rfl, ho, hb⟩ := hrel
    clear HS hmk
    by_cases hlt : k < xs.length
    · have hki : (k : Int) < (xs.length : Int) := by omega
      rcases HH.out with hx | ⟨b, o, ea, _, hc⟩
      · subst hx; simp at hlt
      have d : wr.cell? ⟨b, o + k, none⟩ = some (.int .u8 (xs.getD k 0)) := (hb.cell (p := ⟨b, o + k, none⟩) (World.block_lt_of_cell? w _ (hc k hlt))).trans (hc k hlt)
      subst ea
      have hcell : ∃ u, wr.cell? ⟨w.heap.size, k, none⟩ = some u := by
        rw [ho.cellAt k (by omega)]
        exact ⟨_, List.getElem?_eq_getElem (by simp; omega)⟩
      obtain ⟨u, hu⟩ := hcell
      have hfz := ho.frozenAt k
      obtain ⟨x, hx⟩ : ∃ x, x = xs.getD k 0 := ⟨_, rfl⟩
      obtain ⟨s1, s2⟩ := ho.stored k (.int .u8 x)
      rw [hx, copyB_step k xs hlt, ← hx] at s1
      rw [← hx] at d
      have R := And.intro s1 (hb.setCell (p := ⟨w.heap.size, k, none⟩) (Nat.le_refl _) (.int .u8 x))
      clear s1 s2 ho hb hc hx HH
      go_wp2
      go_roundw
      case rel => exact ⟨k + 1, by omega, by go_num, R.1, R.2⟩
      case measure => simp [intOf]; omega
    · have e : k = xs.length := by omega
      subst e
      rw [List.take_length, List.drop_of_length_le (by simp), List.append_nil] at ho
      go_wp2
      go_ret
      exact ⟨rfl, ho, hb⟩
theorem copyW_step (k : Nat) (xs : List Int) (h : k < xs.length) : (U64 (xs.take k ++ (List.replicate xs.length 0).drop k)).set k (.int .u64 (xs.getD k 0)) = U64 (xs.take (k + 1) ++ (List.replicate xs.length 0).drop (k + 1)) := by
  have hd : (List.replicate xs.length (0 : Int)).drop k = 0 :: (List.replicate xs.length (0 : Int)).drop (k + 1) := by
    rw [List.drop_eq_getElem_cons (by simpa using h)]; simp
  have ht : xs.take (k + 1) = xs.take k ++ [xs.getD k 0] := by
    rw [List.take_succ_eq_append_getElem h]; simp [List.getD, h]
  rw [hd, ht]
  simp only [U64, List.map_append, List.map_cons, List.append_assoc, List.cons_append, List.nil_append, List.map_nil]
  rw [List.set_append_right _ _ (by simp; omega)]
  simp [Nat.min_eq_left (Nat.le_of_lt h)]
set_option maxHeartbeats 1000000 in
theorem toW_c (a : Option Addr) (c : Nat) (xs : List Int) (w : World) (hn : xs.length ≤ 1048576) (hH : HI .u64 0 w a xs) :
    Calls Try.prog 25 #[.slice a xs.length c] w fun e w' => e = .returned (.slice (some ⟨w.heap.size, 0, none⟩) xs.length xs.length) ∧ w'.ownsRow w.heap.size 85 1 (.slice (some ⟨w.heap.size, 0, none⟩) xs.length xs.length) xs.length (U64 xs) ∧ Below w.heap.size w w' := by
  have hmk := run_make_row' (P := Try.prog) 22 85 (.int .u64 0) 8 Try.underlying22 Try.info85 rfl .i64 .i64 xs.length (by omega) (by omega)
  have HH := Hid.mk' hH
  clear hH
  have hst : (w.alloc (.cells (madeCells #[.int .u64 0] xs.length) 85)).ownsRow w.heap.size 85 1 (.slice (some ⟨w.heap.size, 0, none⟩) xs.length xs.length) xs.length (U64 (xs.take 0 ++ (List.replicate xs.length 0).drop 0)) := by
    have := World.ownsRow_lit (base := w.heap.size) (e := 85) (size := 1) w (madeCells #[.int .u64 0] xs.length) xs.length (Nat.le_refl _) (by unfold maxLen; omega) (by simp [madeCells])
    have e : (madeCells #[.int .u64 0] xs.length).toList = U64 (xs.take 0 ++ (List.replicate xs.length 0).drop 0) := by
      apply List.ext_getElem?
      intro i
      by_cases hi : i < xs.length
      · simp [madeCells, hi, Nat.mod_one]
      · simp [madeCells, hi]
    rw [e] at this
    exact this
  have HS := Hid.mk' hst
  clear hst
  go_enter Try.func25, Try.ntmps25
  go_wp2
  go_loopw [4] (fun i wr => ∃ k : Nat, k ≤ xs.length ∧ i = .int .i64 k ∧ wr.ownsRow w.heap.size 85 1 (.slice (some ⟨w.heap.size, 0, none⟩) xs.length xs.length) xs.length (U64 (xs.take k ++ (List.replicate xs.length 0).drop k)) ∧ Below w.heap.size w wr) (fun i _ => xs.length - (intOf i).toNat)
  case atStart => exact ⟨0, Nat.zero_le _, rfl, HS.out, (Below.refl _ _).alloc (Nat.le_refl _) _⟩
  case round =>
    obtain ⟨k, hk, rfl, ho, hb⟩ := hrel
    clear HS hmk
    by_cases hlt : k < xs.length
    · have hki : (k : Int) < (xs.length : Int) := by omega
      rcases HH.out with hx | ⟨b, o, ea, _, hc⟩
      · subst hx; simp at hlt
      have d : wr.cell? ⟨b, o + k, none⟩ = some (.int .u64 (xs.getD k 0)) := (hb.cell (p := ⟨b, o + k, none⟩) (World.block_lt_of_cell? w _ (hc k hlt))).trans (hc k hlt)
      subst ea
      have hcell : ∃ u, wr.cell? ⟨w.heap.size, k, none⟩ = some u := by
        rw [ho.cellAt k (by omega)]
        exact ⟨_, List.getElem?_eq_getElem (by simp; omega)⟩
      obtain ⟨u, hu⟩ := hcell
      have hfz := ho.frozenAt k
      obtain ⟨x, hx⟩ : ∃ x, x = xs.getD k 0 := ⟨_, rfl⟩
      obtain ⟨s1, s2⟩ := ho.stored k (.int .u64 x)
      rw [hx, copyW_step k xs hlt, ← hx] at s1
      rw [← hx] at d
      have R := And.intro s1 (hb.setCell (p := ⟨w.heap.size, k, none⟩) (Nat.le_refl _) (.int .u64 x))
      clear s1 s2 ho hb hc hx HH
      go_wp2
      go_roundw
      case rel => exact ⟨k + 1, by omega, by go_num, R.1, R.2⟩
      case measure => simp [intOf]; omega
    · have e : k = xs.length := by omega
      subst e
      rw [List.take_length, List.drop_of_length_le (by simp), List.append_nil] at ho
      go_wp2
      go_ret
      exact ⟨rfl, ho, hb⟩
theorem rtBytes_c (a : Option Addr) (c : Nat) (xs : List Int) (w : World) (hn : xs.length ≤ 1048576) (hH : HI .u8 0 w a xs) :
    Calls Try.prog 15 #[.slice a xs.length c] w fun e w' => e = .returned (.slice (some ⟨w.heap.size, 0, none⟩) xs.length xs.length) ∧ HI .u8 w.heap.size w' (some ⟨w.heap.size, 0, none⟩) xs ∧ Below w.heap.size w w' :=
  (toB_c a c xs w hn hH).mono fun e w' ⟨h1, h2, h3⟩ => ⟨h1, .inr ⟨_, _, rfl, Nat.le_refl _, fun i hi => by rw [Nat.zero_add, h2.cellAt i (by omega)]; simp [List.getD, hi]⟩, h3⟩
theorem rtWords_c (a : Option Addr) (c : Nat) (xs : List Int) (w : World) (hn : xs.length ≤ 1048576) (hH : HI .u64 0 w a xs) :
    Calls Try.prog 25 #[.slice a xs.length c] w fun e w' => e = .returned (.slice (some ⟨w.heap.size, 0, none⟩) xs.length xs.length) ∧ HI .u64 w.heap.size w' (some ⟨w.heap.size, 0, none⟩) xs ∧ Below w.heap.size w w' :=
  (toW_c a c xs w hn hH).mono fun e w' ⟨h1, h2, h3⟩ => ⟨h1, .inr ⟨_, _, rfl, Nat.le_refl _, fun i hi => by rw [Nat.zero_add, h2.cellAt i (by omega)]; simp [List.getD, hi]⟩, h3⟩
/-- The cells of a block. -/
def Bk (W : World) (g : Nat) (cs : List Value) : Prop := g < W.heap.size ∧ (∀ j v, cs[j]? = some v → W.cell? ⟨g, j, none⟩ = some v) ∧ ∀ j, W.frozen? ⟨g, j, none⟩ = false
theorem Bk.keep {W W' : World} {g : Nat} {cs : List Value} (h : Bk W g cs) (hb : Below W.heap.size W W') : Bk W' g cs :=
  ⟨Nat.lt_of_lt_of_le h.1 hb.size, fun j v hj => (hb.cell (p := ⟨g, j, none⟩) h.1).trans (h.2.1 j v hj), fun j => (hb.frozen (p := ⟨g, j, none⟩) h.1).trans (h.2.2 j)⟩
theorem Bk.new {w : World} {cs : List Value} {t : TypeId} : Bk (w.alloc (.cells cs.toArray t)) w.heap.size cs :=
  ⟨by simp, fun j v hj => cell_new rfl (by simpa using hj), fun j => World.frozen?_alloc_new _ _ _ _⟩
theorem Bk.past {w : World} {g : Nat} {cs : List Value} {o : Obj} (h : Bk w g cs) (ho : unfro o = true := by rfl) : Bk (w.alloc o) g cs := h.keep ((Below.refl _ _).alloc (Nat.le_refl _) _ ho)
theorem Bk.other {W : World} {g g' o : Nat} {v : Value} {cs : List Value} (h : Bk W g cs) (hne : g' ≠ g) : Bk (W.setCell ⟨g', o, none⟩ v) g cs :=
  ⟨by simpa using h.1, fun j u hj => by rw [World.cell?_setCell_other _ _ _ _ (fun e => hne (congrArg Addr.block e))]; exact h.2.1 j u hj, fun j => by rw [World.frozen?_setCell]; exact h.2.2 j⟩
theorem Bk.set {W : World} {g j : Nat} {v : Value} {cs : List Value} (h : Bk W g cs) : Bk (W.setCell ⟨g, j, none⟩ v) g (cs.set j v) := by
  refine ⟨by simpa using h.1, fun i u hi => ?_, fun i => by rw [World.frozen?_setCell]; exact h.2.2 i⟩
  by_cases e : j = i
  · subst e
    have hj : j < cs.length := by
      rcases Nat.lt_or_ge j cs.length with h' | h'
      · exact h'
      · rw [List.getElem?_eq_none (by simpa using h')] at hi; cases hi
    rw [List.getElem?_set_self hj] at hi
    cases hi
    exact set_same (h.2.1 j _ (List.getElem?_eq_getElem hj))
  · rw [List.getElem?_set_ne e] at hi
    exact set_off (h.2.1 i u hi) e
theorem three (w : World) (b z z' : List Value) (t t' t'' : TypeId) : Bk (((w.alloc (.cells b.toArray t)).alloc (.cells z.toArray t')).alloc (.cells z'.toArray t'')) w.heap.size b ∧ Bk (((w.alloc (.cells b.toArray t)).alloc (.cells z.toArray t')).alloc (.cells z'.toArray t'')) (w.heap.size + 1) z ∧ Bk (((w.alloc (.cells b.toArray t)).alloc (.cells z.toArray t')).alloc (.cells z'.toArray t'')) (w.heap.size + 2) z' ∧ Below w.heap.size w (((w.alloc (.cells b.toArray t)).alloc (.cells z.toArray t')).alloc (.cells z'.toArray t'')) := by
  refine ⟨Bk.new.past.past, ?_, ?_, (((Below.refl _ _).alloc (Nat.le_refl _) _).alloc (by simp) _).alloc (by simp; omega) _⟩
  · have := (Bk.new (w := w.alloc (.cells b.toArray t)) (cs := z) (t := t')).past (o := .cells z'.toArray t'')
    simpa using this
  · have := (Bk.new (w := (w.alloc (.cells b.toArray t)).alloc (.cells z.toArray t')) (cs := z') (t := t''))
    simpa using this
end Go.Proofs.Ytfaajmhmcdoibaa.NF
