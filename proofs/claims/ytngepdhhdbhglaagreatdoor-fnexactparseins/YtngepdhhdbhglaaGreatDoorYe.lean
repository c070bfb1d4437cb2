import Derived.Test.YtngepdhhdbhglaaGreatDoorYd
import Derived.Maps.AppendAt
set_option linter.all false
set_option linter.unusedVariables false
namespace Go.Proofs.YtngepdhhdbhglaaGreatDoor
open Go.RowKit Go.Sort
set_option maxRecDepth 100000
/-- From where the end of the first word is looked for, and where it ends. -/
def fromM (l : Wd) : Nat := if Lib.hasPrefix l [34] = true then (1 + Lib.indexByte (l.drop 1) 34).toNat else 0
def endM (l : Wd) : Nat := if 0 ≤ Lib.indexByte (l.drop (fromM l)) 32 then fromM l + (Lib.indexByte (l.drop (fromM l)) 32).toNat else l.length
theorem idx_cases (l : Wd) (c : UInt8) : Lib.indexByte l c = -1 ∨ ∃ o : Nat, Lib.indexByte l c = o ∧ o < l.length ∧ l[o]? = some c := by
  by_cases h : Lib.indexByte l c = -1
  · exact .inl h
  · have := Lib.indexByte_ge l c
    obtain ⟨o, ho⟩ := Int.eq_ofNat_of_zero_le (show 0 ≤ Lib.indexByte l c by omega)
    have h1 := (Lib.indexByte_some ho).1
    refine .inr ⟨o, ho, ?_, h1⟩
    rcases Nat.lt_or_ge o l.length with h' | h'
    · exact h'
    · rw [List.getElem?_eq_none h'] at h1; cases h1
theorem from_le (l : Wd) : fromM l ≤ l.length := by
  unfold fromM
  split
  · rcases idx_cases (l.drop 1) 34 with h | ⟨o, h, ho, _⟩
    · rw [h]; simp
    · rw [h]; simp at ho; omega
  · omega
theorem end_le (l : Wd) : endM l ≤ l.length := by
  unfold endM
  split
  · rename_i h0
    rcases idx_cases (l.drop (fromM l)) 32 with h | ⟨o, h, ho, _⟩
    · omega
    · rw [h]; simp at ho; simp; omega
  · omega
theorem end_at (l : Wd) (h : endM l < l.length) : l[endM l]? = some 32 := by
  unfold endM at h ⊢
  split at h
  · rename_i h0
    rw [if_pos h0]
    rcases idx_cases (l.drop (fromM l)) 32 with h1 | ⟨o, h1, ho, h2⟩
    · omega
    · rw [h1]; simpa using h2
  · omega
theorem S_ext (l : Wd) (a b : Nat) : (S l).extract a b = S ((l.take b).drop a) := by
  apply ByteArray.ext
  apply Array.ext'
  rw [ByteArray.data_extract, Array.toList_extract]
  simp [S, List.extract_eq_drop_take, List.drop_take]
theorem S_from (l : Wd) (a : Nat) : (S l).extract a (S l).size = S (l.drop a) := by
  rw [S_ext, S_size, List.take_of_length_le (Nat.le_refl _)]
theorem S_from' (l : Wd) (a n : Nat) (hn : n = l.length) : (S l).extract a n = S (l.drop a) := by
  rw [S_ext, List.take_of_length_le (by omega)]
set_option maxHeartbeats 2000000 in
theorem end_tail (l : Wd) (f : Nat) (hf : f ≤ l.length) (o : Int) (ho : Lib.indexByte (l.drop f) 32 = o) : -1 ≤ o ∧ (0 ≤ o → (f : Int) + o ≤ l.length) := by
  rcases idx_cases (l.drop f) 32 with h | ⟨k, h, hk, _⟩
  · rw [← ho, h]; exact ⟨by omega, fun h => by omega⟩
  · rw [← ho, h]; simp at hk; exact ⟨by omega, fun _ => by omega⟩
set_option maxHeartbeats 4000000 in
theorem end_c (l : Wd) (w : World) (hl : l.length ≤ 1099511627776) :
    Calls Tryz.prog 29 #[.string (S l)] w fun e w' => e = .returned (.int .i64 (endM l)) ∧ w = w' := by
  have KP := Hid.mk' (Tryz.strings_HasPrefix (S l) ⟨#[34]⟩)
  rw [S_toList, show (⟨#[34]⟩ : ByteArray).data.toList = [34] from rfl] at KP
  have K34 := Hid.mk' (fun (m : Wd) (w : World) => Tryz.strings_IndexByte (S m) 34 w)
  have K32 := Hid.mk' (fun (m : Wd) (w : World) => Tryz.strings_IndexByte (S m) 32 w)
  simp only [S_toList, show (34 : Int).toNat.toUInt8 = 34 from rfl, show (32 : Int).toNat.toUInt8 = 32 from rfl] at K34 K32
  have hz : (S l).size = l.length := S_size l
  have hf := from_le l
  obtain ⟨o, ho⟩ : ∃ o, Lib.indexByte (l.drop (fromM l)) 32 = o := ⟨_, rfl⟩
  obtain ⟨o1, o2⟩ := end_tail l _ hf o ho
  have hE : endM l = if 0 ≤ o then fromM l + o.toNat else l.length := by unfold endM; rw [ho]
  have HE := Hid.mk' hE
  have HO := Hid.mk' ho
  clear hE ho
  by_cases hp : Lib.hasPrefix l [34] = true
  · have hpos : 1 ≤ l.length := by
      cases l with
      | nil => simp [Lib.hasPrefix] at hp
      | cons x r => simp
    rw [hp] at KP
    obtain ⟨u, hu⟩ : ∃ u, Lib.indexByte (l.drop 1) 34 = u := ⟨_, rfl⟩
    have hfe : (fromM l : Int) = 1 + u := by
      unfold fromM
      rw [if_pos hp, hu]
      have := Lib.indexByte_ge (l.drop 1) 34
      omega
    have hw : IntKind.i64.wrap (1 + u) = (fromM l : Int) := by rw [IntKind.wrap_i64]; omega
    have HU := Hid.mk' hu
    have h1 : (1 : Int) ≤ ((S l).size : Int) := by rw [hz]; omega
    have h2 : ((fromM l : Nat) : Int) ≤ ((S l).size : Int) := by rw [hz]; omega
    clear hu hp hfe
    generalize fromM l = f at *
    go_enter Tryz.func29, Tryz.ntmps29
    go_wp2_with fail
    refine (KP.out _).mono ?_
    rintro e w1 ⟨rfl, rfl⟩
    clear KP
    go_wp2_with fail
    rw [S_from' l 1 _ rfl]
    refine (K34.out _ _).mono ?_
    rintro e w2 ⟨rfl, rfl⟩
    rw [HU.out]
    go_wp2_with fail
    rw [S_from' l f _ rfl]
    refine (K32.out _ _).mono ?_
    rintro e w3 ⟨rfl, rfl⟩
    rw [HO.out]
    by_cases h0 : 0 ≤ o
    · have hw3 : IntKind.i64.wrap ((f : Int) + o) = (f : Int) + o := by rw [IntKind.wrap_i64]; have := o2 h0; omega
      go_wp2
      go_ret
      refine ⟨?_, rfl⟩
      rw [HE.out, if_pos h0]
      simp; omega
    · go_wp2
      go_ret
      refine ⟨?_, rfl⟩
      rw [HE.out, if_neg (by omega)]
      rfl
  · have hp' : Lib.hasPrefix l [34] = false := by simpa using hp
    rw [hp'] at KP
    have hfe : fromM l = 0 := by unfold fromM; rw [if_neg hp]
    rw [hfe] at HE HO o2
    clear hp hp' hf hfe
    go_enter Tryz.func29, Tryz.ntmps29
    go_wp2_with fail
    refine (KP.out _).mono ?_
    rintro e w1 ⟨rfl, rfl⟩
    clear KP
    go_wp2_with fail
    try rw [S_from' l 0 _ rfl]
    refine (K32.out _ _).mono ?_
    rintro e w3 ⟨rfl, rfl⟩
    rw [HO.out]
    by_cases h0 : 0 ≤ o
    · have hw3 : IntKind.i64.wrap o = o := by rw [IntKind.wrap_i64]; have := o2 h0; omega
      go_wp2
      go_ret
      refine ⟨?_, rfl⟩
      rw [HE.out, if_pos h0]
      simp; omega
    · go_wp2
      go_ret
      refine ⟨?_, rfl⟩
      rw [HE.out, if_neg (by omega)]
      rfl
/-- The program's words of a line. -/
def psplit (l : Wd) : List Wd := if h : endM l < l.length then l.take (endM l) :: psplit (l.drop (endM l + 1)) else [l]
termination_by l.length
decreasing_by simp; omega
theorem psplit_more {l : Wd} (h : endM l < l.length) : psplit l = l.take (endM l) :: psplit (l.drop (endM l + 1)) := by rw [psplit, dif_pos h]
theorem psplit_last {l : Wd} (h : ¬ endM l < l.length) : psplit l = [l] := by rw [psplit, dif_neg h]
theorem psplit_len : ∀ (n : Nat) (l : Wd), l.length ≤ n → (psplit l).length ≤ l.length + 1 ∧ ∀ x ∈ psplit l, x.length ≤ l.length
  | n, l, hn => by
    by_cases h : endM l < l.length
    · rw [psplit_more h]
      have hd : (l.drop (endM l + 1)).length = l.length - (endM l + 1) := by simp
      obtain ⟨h1, h2⟩ := psplit_len (n - 1) (l.drop (endM l + 1)) (by rw [hd]; omega)
      rw [hd] at h1 h2
      refine ⟨by simp only [List.length_cons]; omega, fun x hx => ?_⟩
      simp only [List.mem_cons] at hx
      rcases hx with rfl | hx
      · simp; omega
      · have := h2 x hx; omega
    · rw [psplit_last h]
      exact ⟨by simp, fun x hx => by simp at hx; subst hx; exact Nat.le_refl _⟩
termination_by n l => l.length
decreasing_by simp; omega
theorem Tryz.info9 : (Tryz.prog.info? 9).map (fun i => (i.zero, i.size, i.bytes)) = some (some (.string ⟨#[]⟩), 1, 16) := by kernel_rfl
theorem oneS (s : ByteArray) : ∀ u ∈ [Value.string s], u.oneCell' = true := by
  intro u hu; simp at hu; subst hu; rfl
def Sv (r : List Wd) : List Value := r.map fun x => Value.string (S x)
theorem Sv_app (r : List Wd) (x : Wd) : Sv (r ++ [x]) = Sv r ++ [.string (S x)] := by simp [Sv]
theorem oE_slice {w : World} {B e : Nat} {v : Value} {n : Nat} {zs : List Value} (h : w.ownsRow B e 1 v n zs) : ∃ a c, v = .slice a n c := by
  rcases h.2 with ⟨e, h0⟩ | ⟨g, cap, cur, hv, _⟩
  · rw [h0]; exact ⟨_, _, e⟩
  · exact ⟨_, _, hv⟩
set_option maxHeartbeats 4000000 in
theorem split_c (l0 : Wd) (w : World) (hl : l0.length ≤ 1048576) :
    Calls Tryz.prog 14 #[.string (S l0)] w fun e w' => ∃ v, e = .returned v ∧ w'.ownsRow w.heap.size 9 1 v (psplit l0).length (Sv (psplit l0)) ∧ Below w.heap.size w w' := by
  obtain ⟨i0, hi, hz0, hz1, hz2⟩ := info_parts Tryz.info9
  have HP := Hid.mk' (psplit_len l0.length l0 (Nat.le_refl _)).1
  go_enter Tryz.func14, Tryz.ntmps14
  go_wp2
  go_loopw [0, 3] (fun t v wr => ∃ (l : Wd) (r : List Wd), t = .string (S l) ∧ l.length ≤ l0.length ∧ psplit l0 = r ++ psplit l ∧ wr.ownsRow w.heap.size 9 1 v r.length (Sv r) ∧ Below w.heap.size w wr) (fun t _ _ => match t with | .string s => s.size | _ => 0)
  case atStart => exact ⟨l0, [], rfl, Nat.le_refl _, by simp, ⟨by simp [Sv], .inl ⟨rfl, rfl⟩⟩, Below.refl _ _⟩
  case round =>
    obtain ⟨l, r, rfl, hll, hsp, ho, hb⟩ := hrel
    have KE := Hid.mk' (end_c l wr (by omega))
    have hz : (S l).size = l.length := S_size l
    have he := end_le l
    have hrl : r.length ≤ 1048578 := by
      have h1 := HP.out
      rw [hsp] at h1
      simp at h1; omega
    have HS := Hid.mk' hsp
    have HB := Hid.mk' hb
    have hbs := hb.size
    obtain ⟨va, vc, rfl⟩ := oE_slice ho
    have h2 : ((endM l : Nat) : Int) ≤ ((S l).size : Int) := by rw [hz]; omega
    clear hsp hb
    by_cases hlt : endM l < l.length
    · have HM := Hid.mk' (psplit_more hlt)
      have hne : ((endM l : Int) == (l.length : Int)) = false := by simp; omega
      have hw : IntKind.i64.wrap ((endM l : Int) + 1) = (endM l : Int) + 1 := by rw [IntKind.wrap_i64]; omega
      have h3 : ((endM l : Nat) : Int) + 1 ≤ ((S l).size : Int) := by rw [hz]; omega
      generalize endM l = f at *
      go_wp2_with fail
      refine KE.out.mono ?_
      rintro e w1 ⟨rfl, rfl⟩
      clear KE
      go_wp2_with (at_builtin; refine wpList_append_own_at _ rfl _ _ 36 rfl w.heap.size 9 i0 (.string ⟨#[]⟩) 1 16 Tryz.underlying36 hi hz0 hz1 hz2 rfl (by decide) _ _ _ rfl (ho.alloc _) ⟨wr.heap.size, 0, none⟩ 1 1 [.string ((S l).extract 0 f)] rfl rfl (cell_one_new _ _ _) (oneS _) (by unfold maxLen; omega) (by omega) (by simp; omega) ?_; intro v' w2 hown' hgrow hnn hloc; have HO2 := Hid.mk' (And.intro hown' hgrow); obtain ⟨va2, vc2, rfl⟩ := oE_slice hown'; clear hown' hgrow hnn hloc)
      refine ⟨⟨l.drop (f + 1), r ++ [l.take f], by rw [S_from' l (f + 1) _ rfl], by simp; omega, by rw [HS.out, HM.out]; simp, ?_, HB.out.alloc hbs _ |>.grown HO2.out.2 (by simp; omega) (fun j hj => (ho.lt j hj).1)⟩, ?_⟩
      · have h4 := HO2.out.1
        rw [S_ext, List.drop_zero] at h4
        rw [show (r ++ [l.take f]).length = r.length + 1 by simp, Sv_app]
        exact h4
      · show ((S l).extract (f + 1) l.length).size < (S l).size
        rw [S_from' l (f + 1) _ rfl, S_size, S_size]; simp; omega
    · have HM := Hid.mk' (psplit_last hlt)
      have hee : endM l = l.length := by omega
      rw [hee] at KE h2
      have heq : ((l.length : Int) == (l.length : Int)) = true := by simp
      clear hlt he hee
      go_wp2_with fail
      refine KE.out.mono ?_
      rintro e w1 ⟨rfl, rfl⟩
      clear KE
      go_wp2_with (at_builtin; refine wpList_append_own_at _ rfl _ _ 36 rfl w.heap.size 9 i0 (.string ⟨#[]⟩) 1 16 Tryz.underlying36 hi hz0 hz1 hz2 rfl (by decide) _ _ _ rfl (ho.alloc _) ⟨wr.heap.size, 0, none⟩ 1 1 [.string ((S l).extract 0 l.length)] rfl rfl (cell_one_new _ _ _) (oneS _) (by unfold maxLen; omega) (by omega) (by simp; omega) ?_; intro v' w2 hown' hgrow hnn hloc; have HO2 := Hid.mk' (And.intro hown' hgrow); obtain ⟨va2, vc2, rfl⟩ := oE_slice hown'; clear hown' hgrow hnn hloc)
      go_ret
      refine ⟨_, rfl, ?_, HB.out.alloc hbs _ |>.grown HO2.out.2 (by simp; omega) (fun j hj => (ho.lt j hj).1)⟩
      have h4 := HO2.out.1
      rw [S_from' l 0 _ rfl, List.drop_zero] at h4
      rw [HS.out, HM.out, show (r ++ [l]).length = r.length + 1 by simp, Sv_app]
      exact h4
end Go.Proofs.YtngepdhhdbhglaaGreatDoor
