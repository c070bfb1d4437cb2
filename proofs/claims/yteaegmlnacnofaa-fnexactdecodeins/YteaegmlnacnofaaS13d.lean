import Derived.Test.YteaegmlnacnofaaS12q
set_option linter.all false
set_option linter.unusedVariables false
namespace Go.Proofs.Yteaegmlnacnofaa
open Go.RowKit Go.Sort
set_option maxRecDepth 100000
set_option maxHeartbeats 16000000 in
theorem sdec_D (ba : Option Addr) (bc : Nat) (bs : List Int) (P : Nat) (w : World) (hA : AllB bs) (hl : bs.length ≤ 1099511627776) (hP : P ≤ bs.length) (hH : By.Has w ba bs) (hba : ∀ a, ba = some a → a.block < w.heap.size) (c : Int) (p1 : Nat) (hM : takeM bs P = .ok c p1) (hf : ¬ formR (rowOf c) < 0) (xx : In) (p' : Nat) (hD : decF (formR (rowOf c)) c bs p1 = .ok xx p') :
    Calls Try.prog 5 #[.slice ba bs.length bc, .int .i64 P] w (DrP (drOf (insM bs P)) w) := by
  obtain ⟨W, hW⟩ : ∃ W, W = (w.alloc (.cells #[.int .i64 0, .int .i64 0, .int .i64 0, .int .i64 0, .int .i64 0, .int .u64 0, .slice none 0 0] 28)).alloc (.cells #[.slice ba bs.length bc, .int .i64 P, .slice none 0 0, .int .i64 0, .int .i64 0, .slice none 0 0, .slice none 0 0, .slice none 0 0, .slice none 0 0, .slice none 0 0, .slice none 0 0, .slice none 0 0, .bool false, .int .i64 0, .slice none 0 0, .slice none 0 0, .slice none 0 0, .slice none 0 0, .slice none 0 0, .int .i64 0, .int .i64 0, .int .i64 0] 62) := ⟨_, rfl⟩
  have hb : Below w.heap.size w W := by rw [hW]; exact ((Below.refl _ _).alloc (Nat.le_refl _) _).alloc (by simp) _
  have hws : W.heap.size = w.heap.size + 2 := by rw [hW]; simp
  have hR : Sr W (w.heap.size + 1) ba ⟨bc, .slice none 0 0⟩ bs P 0 0 := by
    refine ⟨?_, ?_, ?_, ?_, ?_, ?_, ?_, fun i => ?_, hH.keep hb, fun a ha => by have := hba a ha; omega, hP⟩
    · rw [hW]; exact top_cell _ _ _ _ 0 _ rfl
    · rw [hW]; exact top_cell _ _ _ _ 1 _ rfl
    · rw [hW]; exact top_cell _ _ _ _ 2 _ rfl
    · rw [hW]; exact top_cell _ _ _ _ 3 _ rfl
    · rw [hW]; exact top_cell _ _ _ _ 4 _ rfl
    · rw [hW]; exact top_cell _ _ _ _ 18 _ rfl
    · rw [hW]; exact top_cell _ _ _ _ 19 _ rfl
    · rw [hW]; exact top_frozen _ _ _ _ i
  have hZ : W.heap[w.heap.size]? = some (.cells #[.int .i64 0, .int .i64 0, .int .i64 0, .int .i64 0, .int .i64 0, .int .u64 0, .slice none 0 0] 28) := by
    rw [hW, heap_old _ _ _ (by simp)]; exact heap_new w _
  have KI := Hid.mk' (fun V => l1In_t (P : Int) 0 bs.length V (by omega))
  have KB := Hid.mk' (byte_sc (w.heap.size + 1) ba ⟨bc, .slice none 0 0⟩ bs P W hR hl)
  have HA := Hid.mk' hA
  have HW := Hid.mk' hW
  have HB := Hid.mk' hb
  have HZ := Hid.mk' hZ
  have hnz := nz_take bs P
  have hbd := fun v p1 => takeM_bd (p := P) (p1 := p1) (v := v) hA
  have HI : Hid (insM bs P = (takeM bs P).bind (fun x p1 => if formR (rowOf x) < 0 then .bad 10 p1 else decF (formR (rowOf x)) x bs p1)) := by
    show _ = _
    unfold insM opM
    cases takeM bs P with
    | bad er a => rfl
    | ok x p1 =>
      by_cases h : formR (rowOf x) < 0 <;> simp [Rs.bind, h]
  clear hR hW hb hH hA hZ hba hP
  obtain ⟨hc0, hc1⟩ := hbd c p1 hM
  rw [hM] at KB
  have KO := Hid.mk' (sform_c c)
  have HF := Hid.mk' (rfl : formR (rowOf c) = formR (rowOf c))
  have KR := Hid.mk' (fun V (hV : Sr V (w.heap.size + 1) ba ⟨bc, .slice none 0 0⟩ bs p1 0 0) => sins_c (w.heap.size + 1) ba ⟨bc, .slice none 0 0⟩ bs p1 c V (by omega) rfl hV HA.out hl)
  have HM0 : Hid (insM bs P = decF (formR (rowOf c)) c bs p1) := by show _ = _; rw [HI.out, hM]; simp only [Rs.bind, hf, if_false]
  rw [hD] at HM0
  generalize formR (rowOf c) = f at *
  clear hM HI hnz hbd HF
  rw [hD] at KR
  clear hD
  have HM : Hid (drOf (insM bs P) = ⟨0, p', xx⟩) := by show _ = _; rw [HM0.out]; rfl
  clear HM0
  go_enter Try.func5, Try.ntmps5
  go_wp2_with (refine (KI.out _).mono ?_; rintro e w0 ⟨rfl, rfl⟩)
  rw [← HW.out]
  refine (KB.out).mono ?_
  rintro e w1 ⟨hg1, rfl, hr1⟩
  have HGV := Hid.mk' hg1
  have HR1 := Hid.mk' hr1
  have c3 := hr1.c3
  clear hg1 hr1 KB HW KI
  go_wp2_with (first | (go_at_call 24; refine (KO.out _).mono ?_; rintro e w5 ⟨rfl, rfl⟩))
  refine (KR.out _ HR1.out).mono ?_
  rintro e w3 ⟨hg3, x, la, lc, rfl, hxx, ho3, ev, hr3⟩
  subst hxx
  have HG3 := Hid.mk' (grown_trans HGV.out hg3)
  have hz3 := HG3.out.size
  have hlt2 : w.heap.size < w3.heap.size := by omega
  have HZ3 := Hid.mk' (fun i u hu => z7_grown HZ.out HG3.out (show w.heap.size ≠ w.heap.size + 1 by omega) i u hu)
  clear hg3
  go_upto_region 9 with fail
  refine wp_gen (fun U => C5 U w3.heap.size 0 (.int .i64 x.op) (.int .i64 x.a) (.int .i64 x.b) (.int .u64 x.v) (.slice la x.l.length lc) ∧ Below w3.heap.size w3 U) ⟨C5.new, (Below.refl _ _).alloc (Nat.le_refl _) _⟩ ?_
  rintro U ⟨⟨⟨x0, x1, x2, x3, x4⟩, xf⟩, hU⟩
  have q : ∀ i u, #[Value.int .i64 0, .int .i64 0, .int .i64 0, .int .i64 0, .int .i64 0, .int .u64 0, .slice none 0 0][i]? = some u → U.cell? ⟨w.heap.size, i, none⟩ = some u ∧ U.frozen? ⟨w.heap.size, i, none⟩ = false := fun i u hu => ⟨(hU.cell (p := ⟨w.heap.size, i, none⟩) hlt2).trans (HZ3.out i u hu).1, (hU.frozen (p := ⟨w.heap.size, i, none⟩) hlt2).trans (HZ3.out i u hu).2⟩
  obtain ⟨q0, s0⟩ := q 0 _ rfl
  obtain ⟨q1, s1⟩ := q 1 _ rfl
  obtain ⟨q2, s2⟩ := q 2 _ rfl
  obtain ⟨q3, s3⟩ := q 3 _ rfl
  obtain ⟨q4, s4⟩ := q 4 _ rfl
  obtain ⟨q5, s5⟩ := q 5 _ rfl
  obtain ⟨q6, s6⟩ := q 6 _ rfl
  have HBU := Hid.mk' ((HB.out.trans (grown_below' HG3.out (show w.heap.size ≤ w.heap.size + 1 by omega) (by omega))).trans (hU.mono (by omega)))
  have e1 := (hr3.keep hU).c1
  have e3 := (hr3.keep hU).c3
  have e4 := (hr3.keep hU).c4
  have HO := Hid.mk' (ownE_keep (ownE_down ho3 (show w.heap.size ≤ _ by have := HGV.out.size; omega)) hU (Nat.le_refl _))
  have HN : Hid ((Value.slice la x.l.length lc).ownBlock ≠ some w.heap.size) := fun e => by have h1 := (ho3.lt _ e).1; have := HGV.out.size; omega
  clear hU q xf hr3 HZ3 HG3 ho3
  go_wp2_with fail
  go_big_region
  all_goals
    go_wp2_with fail
    refine body_gen (fun V => Seven V w.heap.size (.int .i64 0) (.int .i64 p') (.int .i64 x.op) (.int .i64 x.a) (.int .i64 x.b) (.int .u64 x.v) (.slice la x.l.length lc) ∧ Below w.heap.size w V ∧ V.ownsRow w.heap.size 2 1 (.slice la x.l.length lc) x.l.length (I x.l)) ⟨seven_undrew (seven_set q0 q1 q2 q3 q4 q5 q6), below_undrew (bel7 HBU.out), own_undrew (own7 HO.out HN.out)⟩ ?_
    rintro V ⟨⟨t0, t1, t2, t3, t4, t5, t6⟩, hV, hOV⟩
    have HV := Hid.mk' hV
    have HOV := Hid.mk' hOV
    clear hV hOV q0 q1 q2 q3 q4 q5 q6 s0 s1 s2 s3 s4 s5 s6 x0 x1 x2 x3 x4 e1 e3 e4
    exact bodyPost_ret (v := drV ⟨0, p', x⟩ la lc) (by simp [results, Try.results5, go_sem, t0, t1, t2, t3, t4, t5, t6]) rfl (by
      rw [HM.out]
      exact ⟨la, lc, rfl, HOV.out, HV.out⟩)
end Go.Proofs.Yteaegmlnacnofaa
