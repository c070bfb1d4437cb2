import Derived.Test.YtfaajmhmcdoibaaGn1
set_option linter.all false
set_option linter.unusedVariables false
namespace Go.Proofs.Ytfaajmhmcdoibaa
open Go.RowKit Go.Sort
set_option maxRecDepth 100000
/-- Bytes as a value. -/
def Bs (w : World) (v : Value) (L : List Int) : Prop := (v = .slice none 0 0 ∧ L = []) ∨ ∃ b o c, v = .slice (some ⟨b, o, none⟩) L.length c ∧ ∀ i, i < L.length → w.cell? ⟨b, o + i, none⟩ = some (.int .u8 (L.getD i 0))
theorem Bs.below {w w' : World} {v : Value} {L : List Int} (h : Bs w v L) (hb : Below w.heap.size w w') : Bs w' v L := by
  rcases h with h | ⟨b, o, c, e, hc⟩
  · exact .inl h
  · exact .inr ⟨b, o, c, e, fun i hi => (hb.cell (p := ⟨b, o + i, none⟩) (World.block_lt_of_cell? w _ (hc i hi))).trans (hc i hi)⟩
theorem own_bs {w : World} {B : Nat} {v : Value} {L : List Int} (h : w.ownsRow B 5 1 v L.length (U L)) : Bs w v L := by
  rcases h.2 with ⟨h0, h1⟩ | ⟨g, cap, cur, hv, hB, hh, _⟩
  · exact .inl ⟨h0, List.eq_nil_of_length_eq_zero h1⟩
  · subst hv
    refine .inr ⟨g, 0, cap, rfl, fun i hi => ?_⟩
    rw [Nat.zero_add, h.cellAt i (by omega)]
    simp [U, List.getD, hi]
theorem Bs.conv {w : World} {v : Value} {L : List Int} (h : Bs w v L) : (convert 27 9 v).run Try.prog w = .ok (.string (strOfNums L)) w := by
  rcases h with ⟨rfl, rfl⟩ | ⟨b, o, c, rfl, hc⟩
  · rfl
  · exact run_convert_bytes_arg w 27 5 Try.underlying27 Try.underlying5 b o L.length c L rfl hc 9 Try.underlying9
def Byt (L : List Int) : Prop := ∀ x ∈ L, 0 ≤ x ∧ x ≤ 255
theorem strn_beq {a b : List Int} (ha : Byt a) (hb : Byt b) : ((strOfNums a).toList == (strOfNums b).toList) = decide (a = b) := by
  by_cases h : a = b
  · subst h; simp
  · rw [decide_eq_false h]
    simp only [beq_eq_false_iff_ne]
    intro h2
    apply h
    refine strn_inj ha hb ?_
    have h3 : (strOfNums a).data = (strOfNums b).data := by
      have : (strOfNums a).data.toList = (strOfNums b).data.toList := by
        rw [Lib.strOfNums_toList, Lib.strOfNums_toList] at h2
        exact h2
      exact Array.toList_inj.1 this
    cases ha : strOfNums a; cases hb : strOfNums b
    rw [ha, hb] at h3
    simp only at h3
    rw [h3]
theorem beq_c (v v' : Value) (L K : List Int) (w : World) (h : Bs w v L) (h' : Bs w v' K) (hL : Byt L) (hK : Byt K) :
    Calls Try.prog 35 #[v, v'] w fun e w' => e = .returned (.bool (decide (L = K))) ∧ w = w' := by
  have c1 := h.conv
  have c2 := h'.conv
  have hse := strn_beq hL hK
  clear h h' hL hK
  cases hd : decide (L = K) with
  | true =>
    rw [hd] at hse
    clear hd
    go_enter Try.func35, Try.ntmps35
    go_wp2
    go_ret
    exact ⟨rfl, rfl⟩
  | false =>
    rw [hd] at hse
    clear hd
    go_enter Try.func35, Try.ntmps35
    go_wp2
    go_ret
    exact ⟨rfl, rfl⟩
theorem imgM_le (x : Sta) : (imgM x).length ≤ 1000000 := by
  unfold imgM
  split
  · rename_i h
    simp only [Bool.and_eq_true, decide_eq_true_eq] at h
    have := h.2
    unfold IM at this
    simp only [List.length_append, List.length_cons, List.length_nil]
    omega
  · exact Nat.zero_le _
theorem img_some {y : Sta} {bs : List Int} (h : imgM y = bs) (hb : bs ≠ []) : staO y = true ∧ bs = [83, 1] ++ staE y := by
  unfold imgM at h
  split at h
  · rename_i hc
    simp only [Bool.and_eq_true, decide_eq_true_eq] at hc
    exact ⟨hc.1, h.symm⟩
  · exact absurd h.symm hb
theorem list_ok {α : Type} {o o' : α → Bool} {l : List α} (h : listO o l = true) (hi : ∀ x ∈ l, o x = true → o' x = true) : listO o' l = true := by
  simp only [listO, Bool.and_eq_true, List.all_eq_true] at h ⊢
  exact ⟨h.1, fun x hx => hi x hx (h.2 x hx)⟩
theorem mem_getD {α : Type} (z : α) {l : List α} {x : α} (h : x ∈ l) : ∃ i, i < l.length ∧ l.getD i z = x := by
  obtain ⟨i, hi, e⟩ := List.getElem_of_mem h
  exact ⟨i, hi, by simp [List.getD, hi, e]⟩
theorem words_ok {l : List Int} (h : listO (fun _ => true) l = true) (hv : ∀ j, j < l.length → 0 ≤ l.getD j 0 ∧ l.getD j 0 ≤ 18446744073709551615) : listO okW l = true :=
  list_ok h (fun x hx _ => by
    obtain ⟨i, hi, e⟩ := mem_getD 0 hx
    have := hv i hi
    rw [e] at this
    simp [okW, this.1, this.2])
theorem sta_ok {y : Sta} (h : staO y = true) (hv : y.Vs) : staO' y = true := by
  simp only [staO, staO', Bool.and_eq_true] at h ⊢
  refine ⟨h.1, words_ok h.2.1 hv.1, list_ok h.2.2 (fun f hf ho => ?_)⟩
  obtain ⟨i, hi, e⟩ := mem_getD Frm.z hf
  have hv2 := hv.2 i hi
  rw [e] at hv2
  simp only [frmO, frmO', Bool.and_eq_true] at ho ⊢
  exact ⟨ho.1, words_ok ho.2.1 hv2, ho.2.2⟩
/-- What the reading and the writing again say. -/
theorem gs_logic {bs : List Int} {x : Sta} {l' : List Int} {b' : Bool} (h : RP staE staO' ⟨0, 0, [], []⟩ sSz 2 (bs.drop (min 2 bs.length)) false x l' b') : (imgM x = bs → bs ≠ []) ∧ (imgM x ≠ bs → ∀ y : Sta, y.Vs → bs ≠ [] → imgM y ≠ bs) := by
  refine ⟨fun he hb => ?_, fun he y hv hb hy => ?_⟩
  · rw [hb] at h he
    obtain ⟨_, h2, _⟩ := h.nil rfl
    rw [h2] at he
    revert he
    decide
  · obtain ⟨ho, hbs⟩ := img_some hy hb
    have hl : bs.drop (min 2 bs.length) = staE y ++ [] := by
      have : min 2 bs.length = 2 := by rw [hbs]; simp
      rw [this, hbs]; simp
    obtain ⟨e, _, _⟩ := h.back y [] (sta_ok ho hv) hl rfl
    rw [e] at he
    exact he hy
end Go.Proofs.Ytfaajmhmcdoibaa
