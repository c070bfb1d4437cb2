import Derived.Test.YtfaajmhmcdoibaaHq6
import Derived.Test.YtfaajmhmcdoibaaGn3
import Derived.Test.YtfaajmhmcdoibaaBy
import Derived.Laws.OwnMore
import Derived.OpenShut
set_option linter.all false
set_option linter.unusedVariables false
namespace Go.Proofs.Ytfaajmhmcdoibaa.By
open Go.RowKit
set_option maxRecDepth 100000
theorem copy_step (k : Nat) (xs : List Int) (h : k < xs.length) : (U (xs.take k ++ List.replicate (xs.length - k) 0)).set k (.int .u8 (xs.getD k 0)) = U (xs.take (k + 1) ++ List.replicate (xs.length - (k + 1)) 0) := by
  have e : List.replicate (xs.length - k) (0 : Int) = 0 :: List.replicate (xs.length - (k + 1)) 0 := by
    rw [← List.replicate_succ, show xs.length - (k + 1) + 1 = xs.length - k by omega]
  rw [e, List.take_succ_eq_append_getElem h]
  simp only [U, List.map_append, List.map_cons, List.append_assoc, List.cons_append, List.nil_append]
  rw [List.set_append_right _ _ (by simp; omega)]
  simp [List.getD, h, Nat.min_eq_left (Nat.le_of_lt h)]

set_option maxHeartbeats 400000 in
theorem toBytes_any (a : Option Addr) (cap : Nat) (xs : List Int) (w : World) (hl : xs.length ≤ 1099511627776) (ha : Has w a xs) :
    Calls Try.prog 15 #[.slice a xs.length cap] w fun e w' => e = .returned (.slice (some ⟨w.heap.size, 0, none⟩) xs.length xs.length) ∧
      w'.ownsRow w.heap.size 5 1 (.slice (some ⟨w.heap.size, 0, none⟩) xs.length xs.length) xs.length (U xs) ∧ Below w.heap.size w w' := by
  obtain ⟨i0, hi, hz0, hz1, hz2⟩ := info_parts Try.info5
  have HA : Hid (Has w a xs) := ha
  clear ha
  go_enter Try.func15, Try.ntmps15
  go_wp2_with (at_make; refine wpList_make_full _ rfl _ _ 27 rfl w.heap.size 5 i0 (.int .u8 0) 1 Try.underlying27 hi hz0 hz1 .i64 .i64 _ _ xs.length rfl rfl rfl rfl (by rw [hz2]; omega) (by unfold maxLen; omega) (Nat.le_refl _) ?_)
  intro w1 ho hg
  have hb : Below w.heap.size w w1 := (Below.refl _ _).grown hg (Nat.le_refl _) (fun k hk => by cases hk)
  have ho' : w1.ownsRow w.heap.size 5 1 (.slice (some ⟨w.heap.size, 0, none⟩) xs.length xs.length) xs.length (U (xs.take 0 ++ List.replicate (xs.length - 0) 0)) := by
    have e : (madeCells #[Value.int .u8 0] xs.length).toList = U (xs.take 0 ++ List.replicate (xs.length - 0) 0) := by
      rw [toList_madeCells_one]; simp
    rw [← e]; exact ho
  clear ho hg hi hz0 hz1 hz2
  go_wp2
  go_loopw [4] (fun i wr => ∃ k : Nat, k ≤ xs.length ∧ i = .int .i64 k ∧ wr.ownsRow w.heap.size 5 1 (.slice (some ⟨w.heap.size, 0, none⟩) xs.length xs.length) xs.length (U (xs.take k ++ List.replicate (xs.length - k) 0)) ∧ Below w.heap.size w wr) (fun i _ => xs.length - (intOf i).toNat)
  case atStart => exact ⟨0, Nat.zero_le _, rfl, ho', hb⟩
  case round =>
    obtain ⟨k, hk, rfl, ho, hb'⟩ := hrel
    clear ho' hb
    by_cases hlt : k < xs.length
    · rcases HA.out with hx | ⟨b1, o1, ea, hc1⟩
      · subst hx; simp at hlt
      subst ea
      have hki : (k : Int) < (xs.length : Int) := by omega
      have d0 := hc1 k hlt
      have d1 : wr.cell? ⟨b1, o1 + k, none⟩ = some (.int .u8 (xs.getD k 0)) := (hb'.cell (World.block_lt_of_cell? w _ d0)).trans d0
      obtain ⟨q, hqq⟩ : ∃ q, q = xs.getD k 0 := ⟨_, rfl⟩
      rw [← hqq] at d1
      have hcell : ∃ u, wr.cell? ⟨w.heap.size, k, none⟩ = some u := by
        rw [ho.cellAt k (by omega)]
        exact ⟨_, List.getElem?_eq_getElem (by simp; omega)⟩
      obtain ⟨u, hu⟩ := hcell
      have hfz := ho.frozenAt k
      obtain ⟨s1, s2⟩ := ho.stored k (.int .u8 q)
      rw [hqq, copy_step k xs hlt, ← hqq] at s1
      have hsz := hb'.size
      have R := And.intro s1 (hb'.grown s2 hsz (fun j hj => by simp at hj; omega))
      clear s1 s2 ho hb' hsz hqq d0 hc1 HA
      go_wp2
      go_roundw
      case rel => exact ⟨k + 1, by omega, by go_num, R.1, R.2⟩
      case measure => simp [intOf]; omega
    · have e : k = xs.length := by omega
      subst e
      rw [List.take_length, Nat.sub_self, List.replicate_zero, List.append_nil] at ho
      go_wp2
      go_ret
      exact ⟨rfl, ho, hb'⟩

end Go.Proofs.Ytfaajmhmcdoibaa.By
namespace Go.Proofs.Ytfaajmhmcdoibaa
open Go.RowKit Go.Sort
theorem lebU_pos (f : Nat) (n : Int) : 1 ≤ (lebU f n).length := by
  cases f with
  | zero => simp [lebU]
  | succ f => rw [lebU]; split <;> simp
theorem numsE_pos (n : Int) : 1 ≤ (numsE [n]).length := by simpa [numsE] using lebU_pos 9 n
theorem flat_ge {α : Type} (e : α → List Int) (s : α → Nat) (h : ∀ x, s x ≤ (e x).length) (l : List α) : (l.map s).sum ≤ (l.flatMap e).length := by
  induction l with
  | nil => simp
  | cons x l ih => simp only [List.map_cons, List.sum_cons, List.flatMap_cons, List.length_append]; have := h x; omega
theorem sum_one {α : Type} (l : List α) (s : α → Nat) : (l.map fun x => 1 + s x).sum = l.length + (l.map s).sum := by
  induction l with
  | nil => rfl
  | cons x l ih => simp only [List.map_cons, List.sum_cons, List.length_cons, ih]; omega
theorem len_words (l : List Int) : l.length + 1 ≤ (listE (fx 8) l).length := by
  have h := flat_ge (fx 8) (fun _ => 1) (fun x => by rw [fx_len]; omega) l
  have h2 := sum_one l (fun _ => 0)
  rw [zsum] at h2
  have := numsE_pos (l.length : Int)
  simp only [listE, List.length_append]
  have e : (l.map fun _ => 1).sum = l.length := by simpa using h2
  omega
theorem len_labs (l : List Lab) : 4 * l.length + 1 ≤ (listE labE l).length := by
  have h := flat_ge labE (fun _ => 4) (fun x => by
    have := numsE_pos x.pc
    have := numsE_pos x.ar
    have := numsE_pos x.ht
    simp only [labE, flB, List.length_append, List.length_cons, List.length_nil]
    rw [numsE_cons x.pc, numsE_cons x.ar]
    simp only [List.length_append]
    omega) l
  have e : (l.map fun _ => 4).sum = 4 * l.length := by
    clear h
    induction l with
    | nil => rfl
    | cons x l ih => simp only [List.map_cons, List.sum_cons, List.length_cons, ih]; omega
  have := numsE_pos (l.length : Int)
  simp only [listE, List.length_append]
  omega
theorem len_frm (x : Frm) : 1 + szF x ≤ (frmE x).length := by
  have h1 := len_words x.loc
  have h2 := len_labs x.labs
  have := numsE_pos x.fn
  have := numsE_pos x.pc
  have := numsE_pos x.ht
  simp only [frmE, List.length_append, szF]
  rw [numsE_cons x.fn]
  simp only [List.length_append]
  omega
theorem len_sta (x : Sta) : x.stk.length + x.frs.length + (x.frs.map szF).sum ≤ (staE x).length := by
  have h1 := len_words x.stk
  have h := flat_ge frmE (fun x => 1 + szF x) len_frm x.frs
  rw [sum_one] at h
  simp only [staE, listE, List.length_append] at h1 ⊢
  omega
theorem frm_sz (x : Frm) : fSz x ≤ szF x := by simp only [fSz, wSz, lSz, zsum, szF]; omega
theorem img_sz {x : Sta} {bs : List Int} (h : imgM x = bs) (hb : bs ≠ []) : x.stk.length + x.frs.length + (x.frs.map szF).sum ≤ 1000000 := by
  have h1 := imgM_le x
  obtain ⟨_, h2⟩ := img_some h hb
  rw [h, h2] at h1
  have := len_sta x
  simp only [List.length_append, List.length_cons, List.length_nil] at h1
  omega
/-- What the bytes' state is. -/
def Dat (bs : List Int) (ok : Bool) (st tr : Int) (ws : List Int) (fs : List Frm) : Prop := (ok = false ∧ st = 0 ∧ tr = 0 ∧ ws = [] ∧ fs = [] ∧ ∀ y : Sta, y.Vs → bs ≠ [] → imgM y ≠ bs) ∨ (ok = true ∧ bs ≠ [] ∧ imgM ⟨st, tr, ws, fs⟩ = bs ∧ (⟨st, tr, ws, fs⟩ : Sta).Vs ∧ ∀ y : Sta, y.Vs → imgM y = bs → (⟨st, tr, ws, fs⟩ : Sta) = y)
theorem Dat.sz {bs : List Int} {ok : Bool} {st tr : Int} {ws : List Int} {fs : List Frm} (h : Dat bs ok st tr ws fs) : ws.length + fs.length + (fs.map szF).sum ≤ 1000000 := by
  rcases h with ⟨_, _, _, h1, h2, _⟩ | ⟨_, h1, h2, _⟩
  · rw [h1, h2]; simp
  · exact img_sz h2 h1
theorem Dat.lb {bs : List Int} {ok : Bool} {st tr : Int} {ws : List Int} {fs : List Frm} (h : Dat bs ok st tr ws fs) : Sta.LB 1048576 ⟨st, tr, ws, fs⟩ := by
  refine lb_of _ _ ?_
  have h1 := h.sz
  have h2 : (fs.map fSz).sum ≤ (fs.map szF).sum := by
    clear h h1
    induction fs with
    | nil => simp
    | cons x l ih => simp only [List.map_cons, List.sum_cons]; have := frm_sz x; omega
  simp only [sSz, wSz, zsum]
  omega
theorem ans_nil (w : World) (A : Nat) (hA : A ≤ w.heap.size) : AnsV w A w.heap.size [] [] (.slice none 0 0) (.slice none 0 0) := by
  refine ⟨[], A, rfl, ⟨⟨rfl, .inl ⟨rfl, rfl⟩⟩, ⟨rfl, .inl ⟨rfl, rfl⟩⟩, ⟨fun _ => A, Nat.le_refl _, hA, fun i hi => by simp at hi⟩, fun q hq => by simp [Value.ownBlock] at hq, Nat.le_refl _, fun y hy => by cases hy⟩, fun q hq => ?_⟩
  rcases hq with hq | hq | ⟨p, hp, _⟩
  · simp [Value.ownBlock] at hq
  · simp [Value.ownBlock] at hq
  · cases hp
theorem of_gsq {bs : List Int} {A : Nat} {w : World} {v : Value} (h : GsQ bs A w v) (hA : A ≤ w.heap.size) : ∃ ok st tr ws fs v1 v2, Dat bs ok st tr ws fs ∧ v = .agg #[.bool ok, .int .i64 st, .int .i64 tr, v1, v2] ∧ AnsV w A w.heap.size ws fs v1 v2 := by
  rcases h with ⟨rfl, h⟩ | ⟨st, tr, ws, xs, v1, v2, M, rfl, hS, hb, hi, hu⟩
  · exact ⟨false, 0, 0, [], [], _, _, .inl ⟨rfl, rfl, rfl, rfl, rfl, h⟩, rfl, ans_nil w A hA⟩
  · exact ⟨true, st, tr, ws, _, v1, v2, .inr ⟨rfl, hb, hi, hS.vs st tr, hu⟩, rfl, xs, M, rfl, hS, fun q hq => (hS.sa q hq).2⟩
theorem of_gsp {bs : List Int} {A : Nat} {w : World} {v : Value} {ok : Bool} {st tr : Int} {ws : List Int} {fs : List Frm} (h : GsP bs A w v) (hA : A ≤ w.heap.size) (d : Dat bs ok st tr ws fs) : ∃ v1 v2, v = .agg #[.bool ok, .int .i64 st, .int .i64 tr, v1, v2] ∧ AnsV w A w.heap.size ws fs v1 v2 := by
  rcases h with ⟨rfl, h⟩ | ⟨st', tr', ws', xs, v1, v2, M, rfl, hS, hb, hi⟩
  · rcases d with ⟨rfl, rfl, rfl, rfl, rfl, _⟩ | ⟨_, hb, hi, hv, _⟩
    · exact ⟨_, _, rfl, ans_nil w A hA⟩
    · exact absurd hi (h _ hv hb)
  · rcases d with ⟨_, _, _, _, _, hn⟩ | ⟨rfl, _, _, _, hu⟩
    · exact absurd hi (hn _ (hS.vs st' tr') hb)
    · have e := hu _ (hS.vs st' tr') hi
      injection e with e1 e2 e3 e4
      subst e1 e2 e3 e4
      exact ⟨v1, v2, rfl, xs, M, rfl, hS, fun q hq => (hS.sa q hq).2⟩
theorem Bk.grownB {W W' : World} {g : Nat} {cs : List Value} {r : Option Nat} (h : Bk W g cs) (hg : W.grownBy W' r) (hne : r ≠ some g) : Bk W' g cs := Bk.grown h hg hne
theorem bet_below {A C : Nat} {w V W : World} (h : Below w.heap.size w V) (k : Bet A C V W) (hA : w.heap.size ≤ A) : Below w.heap.size w W :=
  ⟨k.os.trans h.os, k.tape.trans h.tape, k.output.trans h.output, Nat.le_trans h.size k.size, fun q hq => (k.block q (.inl (by omega))).trans (h.block q hq)⟩
theorem own_keepB {w w' : World} {B g cap n : Nat} {xs : List Value} (h : w.ownsRow B 5 1 (.slice (some ⟨g, 0, none⟩) n cap) n xs) (hb : Below w.heap.size w w') : w'.ownsRow B 5 1 (.slice (some ⟨g, 0, none⟩) n cap) n xs := ownS_of h (fun k hk => hb.block k (h.lt k hk).2)

set_option maxHeartbeats 32000000 in
theorem lawGet_of (cap : Nat) (bs : List Int) (w : World) (hm : bs.length ≤ maxLen) (a : Option Addr) (ha : By.Has w a bs) (hA : Byt bs) (KS : ∀ (V : World) (g : Nat), bs.length ≤ 1048576 → (∀ i, i < bs.length → V.cell? ⟨g, 0 + i, none⟩ = some (.int .u8 (bs.getD i 0))) → Calls Try.prog 14 #[.slice (some ⟨g, 0, none⟩) bs.length bs.length] V fun e V' => ∃ v, e = .returned v ∧ GsQ bs V.heap.size V' v ∧ Below V.heap.size V V') :
    Calls Try.prog 4 #[.slice a bs.length cap] w fun e w' => e = .returned (.bool true) ∧ Below w.heap.size w w' := by
  unfold maxLen at hm
  by_cases hbig : 1048576 < bs.length
  · have hbi : (1048576 : Int) < (bs.length : Int) := by omega
    clear hA KS ha
    go_enter Try.func4, Try.ntmps4
    go_wp2
    go_ret
    exact ⟨rfl, Below.refl _ _⟩
  have hbi : ¬ (1048576 : Int) < (bs.length : Int) := by omega
  have hl : bs.length ≤ 1099511627776 := by omega
  have KT := Hid.mk' (fun (V : World) (h : Below w.heap.size w V) => By.toBytes_any a cap bs V hl (By.Has.keep ha h))
  have KG := Hid.mk' (fun (V : World) (g : Nat) (h : ∀ i, i < bs.length → V.cell? ⟨g, 0 + i, none⟩ = some (.int .u8 (bs.getD i 0))) => KS V g (by omega) h)
  have KI := Hid.mk' (fun (V : World) (g : Nat) (h : ∀ i, i < bs.length → V.cell? ⟨g, 0 + i, none⟩ = some (.int .u8 (bs.getD i 0))) => iget_c g 0 bs.length bs V (Nat.le_refl _) (by omega) h hA)
  have OC : ∀ (V : World) (B g cp : Nat), V.ownsRow B 5 1 (.slice (some ⟨g, 0, none⟩) bs.length cp) bs.length (U bs) → ∀ i, i < bs.length → V.cell? ⟨g, 0 + i, none⟩ = some (.int .u8 (bs.getD i 0)) := fun V B g cp ho i hi => by
    rw [Nat.zero_add, ho.cellAt i (by omega)]; simp [U, List.getD, hi]
  have HOC := Hid.mk' OC
  clear hA hbig hm KS ha OC
  go_enter Try.func4, Try.ntmps4
  go_wp2_with fail
  refine (KT.out _ (Below.refl _ _)).mono ?_
  rintro e w1 ⟨rfl, o1, b1⟩
  have B1 := Hid.mk' b1
  have H1 := Hid.mk' (HOC.out _ _ _ _ o1)
  clear o1 b1
  go_wp2_with fail
  refine (KG.out _ _ H1.out).mono ?_
  rintro e w2 ⟨vq, rfl, hgq, b2⟩
  obtain ⟨ok, st, tr, ws, fs, s1, s2, hD, rfl, hAS⟩ := of_gsq hgq b2.size
  have HD := Hid.mk' hD
  have hsz := hD.sz
  have B2 := Hid.mk' (B1.out.trans (b2.mono B1.out.size))
  have z2 := b2.size
  have z1 := B1.out.size
  obtain ⟨V2, hV2⟩ : ∃ V2, V2 = w2.alloc (.cells #[.bool ok, .int .i64 st, .int .i64 tr, s1, s2] 39) := ⟨_, rfl⟩
  have bV2 : Below w2.heap.size w2 V2 := by rw [hV2]; exact (Below.refl _ _).alloc (Nat.le_refl _) _
  have hs2 : w2.heap.size < V2.heap.size := by rw [hV2]; simp
  have S2 := Hid.mk' (show Bk V2 w2.heap.size [.bool ok, .int .i64 st, .int .i64 tr, s1, s2] by rw [hV2]; exact Bk.new)
  have P2 := Hid.mk' (hAS.below bV2)
  have BV2 := Hid.mk' (B2.out.trans (bV2.mono B2.out.size))
  have HV2 := Hid.mk' hV2
  obtain ⟨sa1, sc1, sa2, sc2, es1, es2, -⟩ := hAS.is st tr
  subst es1 es2
  have KE := Hid.mk' (fun (x1 x2 y1 y2 : Value) (A C B D : Nat) (V : World) (h : AnsV V A C ws fs x1 x2) (h' : AnsV V B D ws fs y1 y2) => eR2_c ok st tr ws fs x1 x2 y1 y2 A C B D V h h' hD.lb)
  have KM := Hid.mk' (fun (x1 x2 : Value) (A C : Nat) (V : World) (h : AnsV V A C ws fs x1 x2) (hA : A ≤ V.heap.size) => mR2_c ok st tr ws fs x1 x2 A C V h hA (by omega) (by omega))
  have KH := Hid.mk' (fun (x1 x2 : Value) (A C : Nat) (V : World) (h : AnsV V A C (mkW 1 ws.length) (mkFs (1 + ws.length) fs) x1 x2) => hR2_c ok st tr ws.length fs x1 x2 A C V h (by omega) (by omega))
  clear hgq b2 bV2 hV2 H1 hAS hD KG
  generalize (fs.map szF).sum = S at *
  obtain ⟨A0, hA0⟩ : ∃ A0, A0 = w1.heap.size := ⟨_, rfl⟩
  rw [← hA0] at P2
  go_wp2_with fail
  rw [← HV2.out]
  refine (KT.out _ BV2.out).mono ?_
  rintro e w3 ⟨rfl, o3, b3⟩
  have B3 := Hid.mk' (BV2.out.trans (b3.mono BV2.out.size))
  have O3 := Hid.mk' o3
  have z3 : V2.heap.size < w3.heap.size := (o3.lt _ rfl).2
  have S3 := Hid.mk' (S2.out.keep b3)
  have P3 := Hid.mk' (P2.out.below b3)
  clear o3 b3 HV2 S2 P2 B2 BV2
  go_wp2_with fail
  refine (KI.out _ _ (HOC.out _ _ _ _ O3.out)).mono ?_
  rintro e w4 ⟨vp, rfl, hgp, b4⟩
  obtain ⟨t1, t2, rfl, hAT⟩ := of_gsp hgp b4.size HD.out
  have B4 := Hid.mk' (B3.out.trans (b4.mono B3.out.size))
  have z4 := b4.size
  obtain ⟨V4, hV4⟩ : ∃ V4, V4 = w4.alloc (.cells #[.bool ok, .int .i64 st, .int .i64 tr, t1, t2] 39) := ⟨_, rfl⟩
  have bV4 : Below w4.heap.size w4 V4 := by rw [hV4]; exact (Below.refl _ _).alloc (Nat.le_refl _) _
  have hs4 : w4.heap.size < V4.heap.size := by rw [hV4]; simp
  have T4 := Hid.mk' (show Bk V4 w4.heap.size [.bool ok, .int .i64 st, .int .i64 tr, t1, t2] by rw [hV4]; exact Bk.new)
  have S4 := Hid.mk' ((S3.out.keep b4).keep bV4)
  have P4 := Hid.mk' ((P3.out.below b4).below bV4)
  have Q4 := Hid.mk' (hAT.below bV4)
  have X4 := Hid.mk' (own_keepB (own_keepB O3.out b4) bV4)
  have BV4 := Hid.mk' (B4.out.trans (bV4.mono B4.out.size))
  have HV4 := Hid.mk' hV4
  obtain ⟨ta1, tc1, ta2, tc2, et1, et2, -⟩ := hAT.is st tr
  subst et1 et2
  clear hgp b4 bV4 hV4 O3 P3 S3 B3 B4 hAT
  have m0 := S4.out.2.1 0 _ rfl
  have m1 := S4.out.2.1 1 _ rfl
  have m2 := S4.out.2.1 2 _ rfl
  have m3 := S4.out.2.1 3 _ rfl
  have m4 := S4.out.2.1 4 _ rfl
  have n0 := T4.out.2.1 0 _ rfl
  have n1 := T4.out.2.1 1 _ rfl
  have n2 := T4.out.2.1 2 _ rfl
  have n3 := T4.out.2.1 3 _ rfl
  have n4 := T4.out.2.1 4 _ rfl
  go_upto_region 6 with fail
  rw [← HV4.out]
  go_wp2_with fail
  refine (KE.out _ _ _ _ _ _ _ _ _ Q4.out P4.out).mono ?_
  rintro e w5 ⟨rfl, b5⟩
  have B5 := Hid.mk' (BV4.out.trans (b5.mono BV4.out.size))
  have T5 := Hid.mk' (T4.out.keep b5)
  have S5 := Hid.mk' (S4.out.keep b5)
  have P5 := Hid.mk' (P4.out.below b5)
  have Q5 := Hid.mk' (Q4.out.below b5)
  have X5 := Hid.mk' (own_keepB X4.out b5)
  have s5 := b5.size
  clear b5 HV4 T4 S4 P4 Q4 X4 BV4
  clear m0 m1 m2 m3 m4
  clear n0 n1 n2 n3 n4
  go_wp2_with fail
  refine (KT.out _ B5.out).mono ?_
  rintro e w6 ⟨rfl, o6, b6⟩
  have B6 := Hid.mk' (B5.out.trans (b6.mono B5.out.size))
  have X6 := Hid.mk' (own_keepB X5.out b6)
  have C6 := Hid.mk' o6
  have T6 := Hid.mk' (T5.out.keep b6)
  have S6 := Hid.mk' (S5.out.keep b6)
  have P6 := Hid.mk' (P5.out.below b6)
  have Q6 := Hid.mk' (Q5.out.below b6)
  have s6 := b6.size
  clear o6 b6 T5 S5 P5 Q5 X5 B5
  go_wp2_with fail
  refine (By.eq_any _ _ _ _ bs _ hl (By.own_has X6.out) (By.own_has C6.out)).mono ?_
  rintro e w7 ⟨rfl, n7, rfl⟩
  have bd7 : Below w6.heap.size w6 (w6.drewN n7) := below_drewN' (Below.refl _ _) n7
  have X7 := Hid.mk' (own_keepB X6.out bd7)
  have B7 := Hid.mk' (below_drewN' B6.out n7)
  have T7 := Hid.mk' (T6.out.keep bd7)
  have S7 := Hid.mk' (S6.out.keep bd7)
  have P7 := Hid.mk' (P6.out.below bd7)
  have Q7 := Hid.mk' (Q6.out.below bd7)
  have s7 : w5.heap.size ≤ (w6.drewN n7).heap.size := s6
  clear X6 C6 B6 T6 S6 P6 Q6 s6 bd7
  generalize w6.drewN n7 = w7 at *
  go_wp2_with fail
  refine (By.mark_any V2.heap.size V2.heap.size bs.length bs.length bs _ hl X7.out).mono ?_
  rintro e w8 ⟨rfl, o8, g8⟩
  have B8 := Hid.mk' (B7.out.grown g8 B7.out.size (fun k hk => by simp at hk; omega))
  have T8 := Hid.mk' (T7.out.grownB g8 (by simp; omega))
  have S8 := Hid.mk' (S7.out.grownB g8 (by simp; omega))
  have P8 := Hid.mk' (P7.out.keep g8.size (fun q h1 h2 h3 => g8.block q h3 (by simp; omega)))
  have Q8 := Hid.mk' (Q7.out.keep g8.size (fun q h1 h2 h3 => g8.block q h3 (by simp; omega)))
  have s8 := g8.size
  clear o8 g8 X7 B7 T7 S7 P7 Q7
  have hk1 : ¬ ((1 : Int) + bs.length) < 0 := by omega
  have hd1 : decide (((1 : Int) + bs.length) < 0) = false := decide_eq_false hk1
  have m0 := S8.out.2.1 0 _ rfl
  have m1 := S8.out.2.1 1 _ rfl
  have m2 := S8.out.2.1 2 _ rfl
  have m3 := S8.out.2.1 3 _ rfl
  have m4 := S8.out.2.1 4 _ rfl
  have n0 := T8.out.2.1 0 _ rfl
  have n1 := T8.out.2.1 1 _ rfl
  have n2 := T8.out.2.1 2 _ rfl
  have n3 := T8.out.2.1 3 _ rfl
  have n4 := T8.out.2.1 4 _ rfl
  go_wp2_with fail
  refine (KE.out _ _ _ _ _ _ _ _ _ Q8.out P8.out).mono ?_
  rintro e w9 ⟨rfl, b9⟩
  have B9 := Hid.mk' (B8.out.trans (b9.mono B8.out.size))
  have T9 := Hid.mk' (T8.out.keep b9)
  have S9 := Hid.mk' (S8.out.keep b9)
  have P9 := Hid.mk' (P8.out.below b9)
  have Q9 := Hid.mk' (Q8.out.below b9)
  have s9 := b9.size
  clear b9 T8 S8 P8 Q8 B8
  clear m0 m1 m2 m3 m4
  clear n0 n1 n2 n3 n4
  have n0 := T9.out.2.1 0 _ rfl
  have n1 := T9.out.2.1 1 _ rfl
  have n2 := T9.out.2.1 2 _ rfl
  have n3 := T9.out.2.1 3 _ rfl
  have n4 := T9.out.2.1 4 _ rfl
  go_wp2_with fail
  refine (KM.out _ _ _ _ _ Q9.out (by omega)).mono ?_
  rintro e w10 ⟨rfl, o10, g10⟩
  have B10 := Hid.mk' (bet_below B9.out g10 (by omega))
  have T10 := Hid.mk' (bk_bet T9.out g10 (Nat.le_refl _))
  have S10 := Hid.mk' (S9.out.of g10.size (g10.block _ (.inl (by omega))))
  have P10 := Hid.mk' (P9.out.keep g10.size (fun q h1 h2 h3 => g10.block q (.inl (by omega))))
  have Q10 := Hid.mk' o10
  have s10 := g10.size
  clear o10 g10 T9 S9 P9 Q9 B9
  clear n0 n1 n2 n3 n4
  have n0 := T10.out.2.1 0 _ rfl
  have n1 := T10.out.2.1 1 _ rfl
  have n2 := T10.out.2.1 2 _ rfl
  have n3 := T10.out.2.1 3 _ rfl
  have n4 := T10.out.2.1 4 _ rfl
  go_wp2_with fail
  refine (KH.out _ _ _ _ _ Q10.out).mono ?_
  rintro e w11 ⟨rfl, b11⟩
  have B11 := Hid.mk' (B10.out.trans (b11.mono B10.out.size))
  have T11 := Hid.mk' (T10.out.keep b11)
  have S11 := Hid.mk' (S10.out.keep b11)
  have P11 := Hid.mk' (P10.out.below b11)
  have Q11 := Hid.mk' (Q10.out.below b11)
  have s11 := b11.size
  clear b11 T10 S10 P10 Q10 B10
  clear n0 n1 n2 n3 n4
  have hq1 : ¬ ((1 : Int) + ws.length + (S : Int)) < 0 := by omega
  have hq2 : (((1 : Int) + ws.length + (S : Int)) != ((1 : Int) + ws.length + (S : Int))) = false := by simp
  go_wp2_with fail
  refine (KT.out _ B11.out).mono ?_
  rintro e w12 ⟨rfl, o12, b12⟩
  have B12 := Hid.mk' (B11.out.trans (b12.mono B11.out.size))
  have T12 := Hid.mk' (T11.out.keep b12)
  have S12 := Hid.mk' (S11.out.keep b12)
  have P12 := Hid.mk' (P11.out.below b12)
  have Q12 := Hid.mk' (Q11.out.below b12)
  have H12 := Hid.mk' (HOC.out _ _ _ _ o12)
  clear o12 b12 T11 S11 P11 Q11 B11
  go_wp2_with fail
  refine (KI.out _ _ H12.out).mono ?_
  rintro e w13 ⟨vr, rfl, hgr, b13⟩
  obtain ⟨r1, r2, rfl, hAR⟩ := of_gsp hgr b13.size HD.out
  have B13 := Hid.mk' (B12.out.trans (b13.mono B12.out.size))
  obtain ⟨V13, hV13⟩ : ∃ V13, V13 = w13.alloc (.cells #[.bool ok, .int .i64 st, .int .i64 tr, r1, r2] 39) := ⟨_, rfl⟩
  have bV13 : Below w13.heap.size w13 V13 := by rw [hV13]; exact (Below.refl _ _).alloc (Nat.le_refl _) _
  have R13 := Hid.mk' (show Bk V13 w13.heap.size [.bool ok, .int .i64 st, .int .i64 tr, r1, r2] by rw [hV13]; exact Bk.new)
  have T13 := Hid.mk' ((T12.out.keep b13).keep bV13)
  have S13 := Hid.mk' ((S12.out.keep b13).keep bV13)
  have P13 := Hid.mk' ((P12.out.below b13).below bV13)
  have Q13 := Hid.mk' ((Q12.out.below b13).below bV13)
  have O13 := Hid.mk' (hAR.below bV13)
  have BV13 := Hid.mk' (B13.out.trans (bV13.mono B13.out.size))
  have HV13 := Hid.mk' hV13
  obtain ⟨ra1, rc1, ra2, rc2, er1, er2, -⟩ := hAR.is st tr
  subst er1 er2
  clear hgr b13 bV13 hV13 T12 S12 P12 Q12 B12 H12 B13 hAR
  have m0 := S13.out.2.1 0 _ rfl
  have m1 := S13.out.2.1 1 _ rfl
  have m2 := S13.out.2.1 2 _ rfl
  have m3 := S13.out.2.1 3 _ rfl
  have m4 := S13.out.2.1 4 _ rfl
  have r0 := R13.out.2.1 0 _ rfl
  have r1 := R13.out.2.1 1 _ rfl
  have r2 := R13.out.2.1 2 _ rfl
  have r3 := R13.out.2.1 3 _ rfl
  have r4 := R13.out.2.1 4 _ rfl
  go_upto_region 23 with fail
  rw [← HV13.out]
  go_wp2_with fail
  refine (KE.out _ _ _ _ _ _ _ _ _ O13.out P13.out).mono ?_
  rintro e w14 ⟨rfl, b14⟩
  have B14 := Hid.mk' (BV13.out.trans (b14.mono BV13.out.size))
  have T14 := Hid.mk' (T13.out.keep b14)
  have Q14 := Hid.mk' (Q13.out.below b14)
  clear b14 T13 S13 P13 Q13 O13 R13 BV13 HV13
  clear m0 m1 m2 m3 m4
  clear r0 r1 r2 r3 r4
  have n0 := T14.out.2.1 0 _ rfl
  have n1 := T14.out.2.1 1 _ rfl
  have n2 := T14.out.2.1 2 _ rfl
  have n3 := T14.out.2.1 3 _ rfl
  have n4 := T14.out.2.1 4 _ rfl
  go_wp2_with fail
  refine (KH.out _ _ _ _ _ Q14.out).mono ?_
  rintro e w15 ⟨rfl, b15⟩
  have B15 := Hid.mk' (B14.out.trans (b15.mono B14.out.size))
  clear b15
  go_wp2
  go_ret
  exact ⟨rfl, B15.out⟩
end Go.Proofs.Ytfaajmhmcdoibaa
