import Derived.Test.YteaegmlnacnofaaS9x
import Derived.Test.YteaegmlnacnofaaS9y
import Derived.Test.YteaegmlnacnofaaSC
import Derived.Test.YteaegmlnacnofaaD13
import Derived.Deep.Cut
import Derived.Test.YteaegmlnacnofaaDC
import Derived.Test.YteaegmlnacnofaaK4
import Derived.Laws.OwnMore
import Derived.OpenShut
set_option linter.all false
set_option linter.unusedVariables false
namespace Go.Proofs.Yteaegmlnacnofaa
open Go.RowKit Go.Sort
set_option maxRecDepth 100000
theorem sins_c (s : Nat) (ba : Option Addr) (bc : BC) (bs : List Int) (p : Nat) (op : Int) (w : World) (hf : 0 ≤ formR (rowOf op)) (hev : bc.ev = .slice none 0 0) (h : Sr w s ba bc bs p 0 0) (hA : AllB bs) (hl : bs.length ≤ 1099511627776) :
    Calls Try.prog 26 #[.pointer (some ⟨s, 0, none⟩), .int .i64 op, .int .i64 0] w (SiP (decF (formR (rowOf op)) op bs p) w s ba bc.n bs) := by
  rcases form_range op with e | e | e | e | e | e | e | e | e | e | e | e
  · omega
  · rw [e]; exact sins_0 s ba bc bs p op 0 w e h hA hl
  · rw [e]; exact sins_1 s ba bc bs p op w e hev h hA hl
  · rw [e]; exact sins_2 s ba bc bs p op 0 w e h hA hl
  · rw [e]; exact sins_3 s ba bc bs p op w e hev h hA hl
  · rw [e]; exact sins_4 s ba bc bs p op 0 w e h hA hl
  · rw [e]; exact sins_5 s ba bc bs p op 0 w e h hA hl
  · rw [e]; exact sins_6 s ba bc bs p op 0 w e h hA hl
  · rw [e]; exact sins_7 s ba bc bs p op 0 w e h hA hl
  · rw [e]; exact sins_8 s ba bc bs p op 0 w e h hA hl
  · rw [e]; exact sins_9 s ba bc bs p op 0 w e h hA hl
  · rw [e]; exact sins_10 s ba bc bs p op 0 w e h hA hl
set_option maxHeartbeats 2000000 in
theorem sdec_out (ba : Option Addr) (bc : Nat) (bs : List Int) (at_ : Int) (w : World) (hl : bs.length ≤ 1099511627776) (h : ¬ (0 ≤ at_ ∧ at_ ≤ bs.length)) :
    Calls Try.prog 5 #[.slice ba bs.length bc, .int .i64 at_] w (DrP ⟨2, bs.length, I0⟩ w) := by
  have KI := Hid.mk' (fun V => l1In_f at_ 0 bs.length V h)
  go_enter Try.func5, Try.ntmps5
  go_wp2_with (refine (KI.out _).mono ?_; rintro e w1 ⟨rfl, rfl⟩)
  exact bodyPost_ret (v := drV ⟨2, bs.length, I0⟩ none 0) (by simp [results, Try.results5, go_sem, I0]) rfl ⟨none, 0, rfl, World.ownsRow_nil _ _ _ _, (Below.refl _ _).alloc (Nat.le_refl _) _⟩
theorem top_cell (w : World) (o1 : Obj) (cs : Array Value) (t : TypeId) (i : Nat) (u : Value) (hu : cs[i]? = some u) : ((w.alloc o1).alloc (.cells cs t)).cell? ⟨w.heap.size + 1, i, none⟩ = some u := cell_new (by simp) hu
theorem top_frozen (w : World) (o1 : Obj) (cs : Array Value) (t : TypeId) (i : Nat) : ((w.alloc o1).alloc (.cells cs t)).frozen? ⟨w.heap.size + 1, i, none⟩ = false := by
  have := World.frozen?_alloc_new (w.alloc o1) cs t i
  simpa using this
/-- The opcode as the specification reads it: op is 0 where the byte is missing. -/
theorem op0 : formR (rowOf 0) = 0 := by decide +kernel
end Go.Proofs.Yteaegmlnacnofaa

set_option linter.unusedVariables false
namespace Go.Proofs.Yteaegmlnacnofaa
open Go.RowKit Go.Sort
set_option maxRecDepth 100000
theorem seven_undrew {W : World} {g : Nat} {a b c d e f h : Value} (H : Seven W g a b c d e f h) : Seven W.drew g a b c d e f h := H
theorem below_undrew {B : Nat} {w U : World} (h : Below B w U) : Below B w U.drew := ⟨h.os, h.tape, h.output, h.size, h.block⟩
theorem own_undrew {U : World} {B e n : Nat} {v : Value} {zs : List Value} (h : U.ownsRow B e 1 v n zs) : U.drew.ownsRow B e 1 v n zs := h
theorem grown_below' {w w1 : World} {B g0 : Nat} (h : w.grownBy w1 (some g0)) (hB : B ≤ g0) (hs : B ≤ w.heap.size) : Below B w w1 := ⟨h.os, h.tape, h.output, h.size, fun k hk => h.block k (by omega) (by simp; omega)⟩
theorem z7_grown {W w3 : World} {g s : Nat} {cs : Array Value} {t : TypeId} (hZ : W.heap[g]? = some (.cells cs t)) (hg : W.grownBy w3 (some s)) (hne : g ≠ s) (i : Nat) (u : Value) (hu : cs[i]? = some u) : w3.cell? ⟨g, i, none⟩ = some u ∧ w3.frozen? ⟨g, i, none⟩ = false := by
  have hl : g < W.heap.size := (Array.getElem?_eq_some_iff.1 hZ).1
  have h3 : w3.heap[g]? = some (.cells cs t) := (hg.block g hl (by simpa using hne)).trans hZ
  exact ⟨by simp only [World.cell?, h3]; exact hu, by simp [World.frozen?, h3]⟩
end Go.Proofs.Yteaegmlnacnofaa

set_option linter.unusedVariables false
namespace Go.Proofs.Yteaegmlnacnofaa.By
open Go.RowKit
set_option maxRecDepth 100000
theorem copy_step (k : Nat) (xs : List Int) (h : k < xs.length) : (U (xs.take k ++ List.replicate (xs.length - k) 0)).set k (.int .u8 (xs.getD k 0)) = U (xs.take (k + 1) ++ List.replicate (xs.length - (k + 1)) 0) := by
  have e : List.replicate (xs.length - k) (0 : Int) = 0 :: List.replicate (xs.length - (k + 1)) 0 := by
    rw [← List.replicate_succ, show xs.length - (k + 1) + 1 = xs.length - k by omega]
  rw [e, List.take_succ_eq_append_getElem h]
  simp only [U, List.map_append, List.map_cons, List.append_assoc, List.cons_append, List.nil_append]
  rw [List.set_append_right _ _ (by simp; omega)]
  simp [List.getD, h, Nat.min_eq_left (Nat.le_of_lt h)]

set_option maxHeartbeats 400000 in
theorem toBytes_any (a : Option Addr) (cap : Nat) (xs : List Int) (w : World) (hl : xs.length ≤ 1099511627776) (ha : Has w a xs) :
    Calls Try.prog 6 #[.slice a xs.length cap] w fun e w' => e = .returned (.slice (some ⟨w.heap.size, 0, none⟩) xs.length xs.length) ∧
      w'.ownsRow w.heap.size 5 1 (.slice (some ⟨w.heap.size, 0, none⟩) xs.length xs.length) xs.length (U xs) ∧ Below w.heap.size w w' := by
  obtain ⟨i0, hi, hz0, hz1, hz2⟩ := info_parts Try.info5
  have HA : Hid (Has w a xs) := ha
  clear ha
  go_enter Try.func6, Try.ntmps6
  go_wp2_with (at_make; refine wpList_make_full _ rfl _ _ 22 rfl w.heap.size 5 i0 (.int .u8 0) 1 Try.underlying22 hi hz0 hz1 .i64 .i64 _ _ xs.length rfl rfl rfl rfl (by rw [hz2]; omega) (by unfold maxLen; omega) (Nat.le_refl _) ?_)
  intro w1 ho hg
  have hb : Below w.heap.size w w1 := (Below.refl _ _).grown hg (Nat.le_refl _) (fun k hk => by cases hk)
  have ho' : w1.ownsRow w.heap.size 5 1 (.slice (some ⟨w.heap.size, 0, none⟩) xs.length xs.length) xs.length (U (xs.take 0 ++ List.replicate (xs.length - 0) 0)) := by
    have e : (madeCells #[Value.int .u8 0] xs.length).toList = U (xs.take 0 ++ List.replicate (xs.length - 0) 0) := by
      rw [toList_madeCells_one]; simp
    rw [← e]; exact ho
  clear ho hg hi hz0 hz1 hz2
  go_wp2
  go_loopw [4] (fun i wr => ∃ k : Nat, k ≤ xs.length ∧ i = .int .i64 k ∧ wr.ownsRow w.heap.size 5 1 (.slice (some ⟨w.heap.size, 0, none⟩) xs.length xs.length) xs.length (U (xs.take k ++ List.replicate (xs.length - k) 0)) ∧ Below w.heap.size w wr) (fun i _ => xs.length - (intOf i).toNat)
  case atStart => exact ⟨0, Nat.zero_le _, rfl, ho', hb⟩
  case round =>
    obtain ⟨k, hk, rfl, ho, hb'⟩ := hrel
    clear ho' hb
    by_cases hlt : k < xs.length
    · rcases HA.out with hx | ⟨b1, o1, ea, hc1⟩
      · subst hx; simp at hlt
      subst ea
      have hki : (k : Int) < (xs.length : Int) := by omega
      have d0 := hc1 k hlt
      have d1 : wr.cell? ⟨b1, o1 + k, none⟩ = some (.int .u8 (xs.getD k 0)) := (hb'.cell (World.block_lt_of_cell? w _ d0)).trans d0
      obtain ⟨q, hqq⟩ : ∃ q, q = xs.getD k 0 := ⟨_, rfl⟩
      rw [← hqq] at d1
      have hcell : ∃ u, wr.cell? ⟨w.heap.size, k, none⟩ = some u := by
        rw [ho.cellAt k (by omega)]
        exact ⟨_, List.getElem?_eq_getElem (by simp; omega)⟩
      obtain ⟨u, hu⟩ := hcell
      have hfz := ho.frozenAt k
      obtain ⟨s1, s2⟩ := ho.stored k (.int .u8 q)
      rw [hqq, copy_step k xs hlt, ← hqq] at s1
      have hsz := hb'.size
      have R := And.intro s1 (hb'.grown s2 hsz (fun j hj => by simp at hj; omega))
      clear s1 s2 ho hb' hsz hqq d0 hc1 HA
      go_wp2
      go_roundw
      case rel => exact ⟨k + 1, by omega, by go_num, R.1, R.2⟩
      case measure => simp [intOf]; omega
    · have e : k = xs.length := by omega
      subst e
      rw [List.take_length, Nat.sub_self, List.replicate_zero, List.append_nil] at ho
      go_wp2
      go_ret
      exact ⟨rfl, ho, hb'⟩
/-- What came in as a slice of bytes. -/
theorem row_has {w : World} {a : Option Addr} {len cap : Nat} {zs : List Int}
    (h : (a = none ∧ len = 0 ∧ cap = 0 ∧ zs = []) ∨ ∃ x, a = some x ∧ len ≤ cap ∧ cap ≤ maxLen ∧ zs.length = cap ∧ (∀ i, i < zs.length → w.cell? (x.add i) = some (.int .u8 (zs.getD i 0))) ∧ ∀ n ∈ zs, (Lit.int .u8 n).wf = true) :
    ∃ xs : List Int, xs.length = len ∧ len ≤ maxLen ∧ Has w a xs ∧ AllB xs := by
  rcases h with ⟨rfl, rfl, rfl, rfl⟩ | ⟨x, rfl, hlc, hcm, hz, hc, hw⟩
  · exact ⟨[], rfl, Nat.zero_le _, .inl rfl, fun i => by simp⟩
  · refine ⟨zs.take len, by simp; omega, by omega, ?_, ?_⟩
    · by_cases h0 : len = 0
      · subst h0; exact .inl (by simp)
      · obtain ⟨b, off, spot⟩ := x
        have h1 := hc 0 (by omega)
        have hspot : spot = none := by simpa [Addr.add] using World.cell?_spot h1
        subst hspot
        refine .inr ⟨b, off, rfl, fun i hi => ?_⟩
        have hi' : i < len := by simp at hi; omega
        have h2 := hc i (by omega)
        have e : (zs.take len).getD i 0 = zs.getD i 0 := by simp [List.getD, hi']
        rw [e]
        rwa [Addr.add_lit] at h2
    · intro i
      by_cases hi : i < (zs.take len).length
      · have hm : (zs.take len)[i] ∈ zs := List.mem_of_mem_take (List.getElem_mem hi)
        have hb := bounds_u8 (hw _ hm)
        simpa [List.getD, List.getElem?_eq_getElem hi] using hb
      · rw [List.getD_eq_getElem?_getD, List.getElem?_eq_none (by omega)]
        simp

theorem own_shape {w : World} {B : Nat} {v : Value} {xs : List Int} (h : w.ownsRow B 5 1 v xs.length (U xs)) : ∃ a c, v = .slice a xs.length c ∧ Has w a xs := by
  rcases h.2 with ⟨e, h0⟩ | ⟨g, cap, cur, hv, hB, hg, r⟩
  · rw [h0]; exact ⟨_, _, e, .inl (List.length_eq_zero_iff.1 h0)⟩
  · subst hv; exact ⟨_, _, rfl, own_has h⟩
end Go.Proofs.Yteaegmlnacnofaa.By
namespace Go.Proofs.Yteaegmlnacnofaa
open Go.RowKit Go.Sort
set_option maxRecDepth 100000
def Rs.len (r : Rs In) : Prop := ∀ x p, r = .ok x p → x.l.length ≤ 4294967295
theorem len_bind {α : Type} {r : Rs α} {k : α → Nat → Rs In} (h : ∀ v p, r = .ok v p → (k v p).len) : (r.bind k).len := by
  cases r with
  | bad er a => intro x p e; cases e
  | ok v p => exact h v p rfl
theorem len_ok (op a b v : Int) (p : Nat) : (Rs.ok (⟨op, a, b, v, []⟩ : In) p).len := fun x q e => by cases e; simp
theorem rep_len (bs : List Int) : ∀ (n : Nat) (acc : List Int) (p : Nat) (l : List Int) (p' : Nat), repM bs n acc p = .ok l p' → l.length = acc.length + n := by
  intro n
  induction n with
  | zero => intro acc p l p' h; simp only [repM] at h; cases h; simp
  | succ n ih =>
    intro acc p l p' h
    simp only [repM] at h
    cases hM : numM false 32 bs p with
    | bad er a => rw [hM] at h; cases h
    | ok v p1 =>
      rw [hM] at h
      have := ih _ _ _ _ h
      simp at this
      omega
theorem vec_len {bs : List Int} (hA : AllB bs) {p p' : Nat} {l : List Int} (h : vecM bs p = .ok l p') : l.length ≤ 4294967295 := by
  unfold vecM at h
  cases hM : numM false 32 bs p with
  | bad er a => rw [hM] at h; cases h
  | ok n p1 =>
    rw [hM] at h
    have h1 := rep_len bs n.toNat [] p1 l p' h
    have h2 := numU_bd hA hM
    simp at h1
    omega
theorem dec_len (f op : Int) (bs : List Int) (hA : AllB bs) (p : Nat) : (decF f op bs p).len := by
  unfold decF
  split
  · exact len_bind fun v p _ => len_ok _ _ _ _ _
  · split
    · exact len_bind fun v p _ => len_ok _ _ _ _ _
    · split
      · exact len_bind fun l p1 hv => len_bind fun v p _ => fun x q e => by cases e; exact vec_len hA hv
      · split
        · exact len_bind fun v p _ => len_bind fun v p _ => len_ok _ _ _ _ _
        · split
          · exact len_bind fun v p _ => len_bind fun v p _ => len_ok _ _ _ _ _
          · split
            · exact len_bind fun v p _ => len_ok _ _ _ _ _
            · split
              · exact len_bind fun v p _ => len_ok _ _ _ _ _
              · split
                · exact len_bind fun v p _ => len_ok _ _ _ _ _
                · split
                  · exact len_bind fun v p _ => len_ok _ _ _ _ _
                  · split
                    · exact len_bind fun v p _ => len_ok _ _ _ _ _
                    · exact len_ok _ _ _ _ _
theorem dres_len (bs : List Int) (hA : AllB bs) (at_ : Int) : (dresM bs at_).x.l.length ≤ 4294967295 := by
  unfold dresM
  split
  · cases hM : insM bs at_.toNat with
    | bad er a => simp [I0]
    | ok x p => exact len_bind (fun op p1 _ => dec_len _ _ bs hA p1) x p hM
  · simp [I0]
set_option maxHeartbeats 2000000 in
theorem eqRes_c (d : DR) (la la' : Option Addr) (lc lc' : Nat) (w : World) (hl : d.x.l.length ≤ 1099511627776) (h : Has w la d.x.l) (h' : Has w la' d.x.l) :
    Calls Try.prog 8 #[drV d la lc, drV d la' lc'] w fun e w' => e = .returned (.bool true) ∧ Below w.heap.size w w' := by
  have b2 : ∀ o1 o2, Below w.heap.size w ((w.alloc o1).alloc o2) := fun o1 o2 => ((Below.refl _ _).alloc (Nat.le_refl _) _).alloc (by simp) _
  have H := Hid.mk' (fun o1 o2 => eqIn_c d.x la la' lc lc' ((w.alloc o1).alloc o2) hl (h.keep (b2 o1 o2)) (h'.keep (b2 o1 o2)))
  have HB := Hid.mk' b2
  clear h h' b2
  go_enter Try.func8, Try.ntmps8
  go_wp2_with fail
  refine (H.out _ _).mono ?_
  rintro e w1 ⟨rfl, hb⟩
  have HB1 := Hid.mk' ((HB.out _ _).trans (hb.mono (by simp; omega)))
  clear hb H HB
  go_wp2
  go_ret
  exact ⟨rfl, HB1.out⟩
theorem grown_alloc' {w w1 : World} {o : Obj} {r : Option Nat} (h : (w.alloc o).grownBy w1 r) : w.grownBy w1 r :=
  ⟨h.os, h.tape, h.output, by have := h.size; simp at this; omega, fun k hk hne => (h.block k (by simp; omega) hne).trans (heap_old w o k hk)⟩
set_option maxHeartbeats 1000000 in
theorem markInV (B : Nat) (x : In) (la : Option Addr) (lc : Nat) (w : World) (hn : x.l.length ≤ 1099511627776) (hG : w.ownsRow B 2 1 (.slice la x.l.length lc) x.l.length (I x.l)) :
    Calls Try.prog 32 #[inV x la lc, .int .i64 1] w fun e w' => e = .returned (.int .i64 ((1 : Int) + x.l.length)) ∧ w'.ownsRow B 2 1 (.slice la x.l.length lc) x.l.length (I (marks 1 x.l.length)) ∧ w.grownBy w' (Value.slice la x.l.length lc).ownBlock := by
  have KM := Hid.mk' (fun o => markV B 1 x.l.length _ x.l (w.alloc o) (by omega) hn (ownE_keep hG ((Below.refl _ _).alloc (Nat.le_refl _) o) (Nat.le_refl _)))
  clear hG
  go_enter Try.func32, Try.ntmps32
  go_wp2_with fail
  refine (KM.out _).mono ?_
  rintro e w1 ⟨rfl, ho, hg⟩
  have HO := Hid.mk' ho
  have HG := Hid.mk' hg
  clear ho hg KM
  go_wp2
  go_ret
  exact ⟨rfl, HO.out, grown_alloc' HG.out⟩
set_option maxHeartbeats 1000000 in
theorem heldInV (B : Nat) (x : In) (la : Option Addr) (lc : Nat) (w : World) (hn : x.l.length ≤ 1099511627776) (hG : w.ownsRow B 2 1 (.slice la x.l.length lc) x.l.length (I (marks 1 x.l.length))) :
    Calls Try.prog 33 #[inV x la lc, .int .i64 1] w fun e w' => e = .returned (.int .i64 ((1 : Int) + x.l.length)) ∧ Below w.heap.size w w' := by
  have KM := Hid.mk' (fun o => heldV B 1 x.l.length _ (w.alloc o) (by omega) hn (ownE_keep hG ((Below.refl _ _).alloc (Nat.le_refl _) o) (Nat.le_refl _)))
  clear hG
  have hneg : ¬ ((1 : Int) + x.l.length) < 0 := by omega
  go_enter Try.func33, Try.ntmps33
  go_wp2_with fail
  refine (KM.out _).mono ?_
  rintro e w1 ⟨rfl, rfl⟩
  go_wp2
  go_ret
  exact ⟨rfl, (Below.refl _ _).alloc (Nat.le_refl _) _⟩
set_option maxHeartbeats 1000000 in
theorem markRes_c (B : Nat) (d : DR) (la : Option Addr) (lc : Nat) (w : World) (hn : d.x.l.length ≤ 1099511627776) (hG : w.ownsRow B 2 1 (.slice la d.x.l.length lc) d.x.l.length (I d.x.l)) :
    Calls Try.prog 11 #[drV d la lc, .int .i64 1] w fun e w' => e = .returned (.int .i64 ((1 : Int) + d.x.l.length)) ∧ w'.ownsRow B 2 1 (.slice la d.x.l.length lc) d.x.l.length (I (marks 1 d.x.l.length)) ∧ w.grownBy w' (Value.slice la d.x.l.length lc).ownBlock := by
  have KM := Hid.mk' (fun o => markInV B d.x la lc (w.alloc o) hn (ownE_keep hG ((Below.refl _ _).alloc (Nat.le_refl _) o) (Nat.le_refl _)))
  clear hG
  go_enter Try.func11, Try.ntmps11
  go_wp2_with fail
  refine (KM.out _).mono ?_
  rintro e w1 ⟨rfl, ho, hg⟩
  have HO := Hid.mk' ho
  have HG := Hid.mk' hg
  clear ho hg KM
  go_wp2
  go_ret
  exact ⟨rfl, HO.out, grown_alloc' HG.out⟩
set_option maxHeartbeats 1000000 in
theorem heldRes_c (B : Nat) (d : DR) (la : Option Addr) (lc : Nat) (w : World) (hn : d.x.l.length ≤ 1099511627776) (hG : w.ownsRow B 2 1 (.slice la d.x.l.length lc) d.x.l.length (I (marks 1 d.x.l.length))) :
    Calls Try.prog 12 #[drV d la lc, .int .i64 1] w fun e w' => e = .returned (.int .i64 ((1 : Int) + d.x.l.length)) ∧ Below w.heap.size w w' := by
  have KM := Hid.mk' (fun o => heldInV B d.x la lc (w.alloc o) hn (ownE_keep hG ((Below.refl _ _).alloc (Nat.le_refl _) o) (Nat.le_refl _)))
  clear hG
  have hneg : ¬ ((1 : Int) + d.x.l.length) < 0 := by omega
  go_enter Try.func12, Try.ntmps12
  go_wp2_with fail
  refine (KM.out _).mono ?_
  rintro e w1 ⟨rfl, hb⟩
  have HB := Hid.mk' (((Below.refl w.heap.size w).alloc (Nat.le_refl _) _).trans (hb.mono (by simp)))
  clear hb KM
  go_wp2
  go_ret
  exact ⟨rfl, HB.out⟩
end Go.Proofs.Yteaegmlnacnofaa
