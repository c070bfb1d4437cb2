import Derived.Test.YteaegmlnacnofaaS13a
import Derived.Test.YteaegmlnacnofaaS13b
import Derived.Test.YteaegmlnacnofaaS13c
import Derived.Test.YteaegmlnacnofaaS13d
import Derived.Test.YteaegmlnacnofaaS12q
set_option linter.all false
set_option linter.unusedVariables false
namespace Go.Proofs.Yteaegmlnacnofaa
open Go.RowKit Go.Sort
set_option maxRecDepth 100000
theorem sdec_in (ba : Option Addr) (bc : Nat) (bs : List Int) (P : Nat) (w : World) (hA : AllB bs) (hl : bs.length ≤ 1099511627776) (hP : P ≤ bs.length) (hH : By.Has w ba bs) (hba : ∀ a, ba = some a → a.block < w.heap.size) :
    Calls Try.prog 5 #[.slice ba bs.length bc, .int .i64 P] w (DrP (drOf (insM bs P)) w) := by
  cases hM : takeM bs P with
  | bad er a => exact sdec_A ba bc bs P w hA hl hP hH hba er a hM
  | ok c p1 =>
    by_cases hf : formR (rowOf c) < 0
    · exact sdec_B ba bc bs P w hA hl hP hH hba c p1 hM hf
    · cases hD : decF (formR (rowOf c)) c bs p1 with
      | bad er a => exact sdec_C ba bc bs P w hA hl hP hH hba c p1 hM hf er a hD
      | ok xx p' => exact sdec_D ba bc bs P w hA hl hP hH hba c p1 hM hf xx p' hD
theorem sdec_c (ba : Option Addr) (bc : Nat) (bs : List Int) (at_ : Int) (w : World) (hA : AllB bs) (hl : bs.length ≤ 1099511627776) (hH : By.Has w ba bs) (hba : ∀ a, ba = some a → a.block < w.heap.size) :
    Calls Try.prog 5 #[.slice ba bs.length bc, .int .i64 at_] w (DrP (dresM bs at_) w) := by
  unfold dresM
  by_cases h : 0 ≤ at_ ∧ at_ ≤ bs.length
  · rw [if_pos h]
    obtain ⟨P, rfl⟩ := Int.eq_ofNat_of_zero_le h.1
    rw [Int.toNat_natCast]
    show Calls _ _ _ _ (DrP (drOf (insM bs P)) w)
    exact sdec_in ba bc bs P w hA hl (by omega) hH hba
  · rw [if_neg h]
    exact sdec_out ba bc bs at_ w hl h
end Go.Proofs.Yteaegmlnacnofaa

set_option linter.unusedVariables false
namespace Go.Proofs.Yteaegmlnacnofaa
open Go.RowKit Go.Sort
set_option maxRecDepth 100000
theorem hasOf {w : World} {B : Nat} {la : Option Addr} {lc : Nat} {xs : List Int} (h : w.ownsRow B 2 1 (.slice la xs.length lc) xs.length (I xs)) : Has w la xs := by
  obtain ⟨a, c, e, hh⟩ := own_shape h
  cases e
  exact hh
def SV (w : World) (b : Nat) (d : DR) (la : Option Addr) (lc : Nat) : Prop := Seven w b (.int .i64 d.err) (.int .i64 d.nxt) (.int .i64 d.x.op) (.int .i64 d.x.a) (.int .i64 d.x.b) (.int .u64 d.x.v) (.slice la d.x.l.length lc)
theorem SV.new (w : World) (d : DR) (la : Option Addr) (lc : Nat) : SV (w.alloc (.cells #[.int .i64 d.err, .int .i64 d.nxt, .int .i64 d.x.op, .int .i64 d.x.a, .int .i64 d.x.b, .int .u64 d.x.v, .slice la d.x.l.length lc] 28)) w.heap.size d la lc :=
  ⟨cell_new rfl rfl, cell_new rfl rfl, cell_new rfl rfl, cell_new rfl rfl, cell_new rfl rfl, cell_new rfl rfl, cell_new rfl rfl⟩
theorem SV.lt {w : World} {b : Nat} {d : DR} {la : Option Addr} {lc : Nat} (h : SV w b d la lc) : b < w.heap.size := World.block_lt_of_cell? w _ h.1
theorem SV.grown {w w1 : World} {b : Nat} {d : DR} {la : Option Addr} {lc : Nat} {r : Option Nat} (h : SV w b d la lc) (hg : w.grownBy w1 r) (hne : some b ≠ r) : SV w1 b d la lc := by
  have hk : w1.heap[b]? = w.heap[b]? := hg.block b h.lt hne
  obtain ⟨h0, h1, h2, h3, h4, h5, h6⟩ := h
  exact ⟨(World.cell?_of_block hk).trans h0, (World.cell?_of_block hk).trans h1, (World.cell?_of_block hk).trans h2, (World.cell?_of_block hk).trans h3, (World.cell?_of_block hk).trans h4, (World.cell?_of_block hk).trans h5, (World.cell?_of_block hk).trans h6⟩
theorem SV.keep {w w1 : World} {b : Nat} {d : DR} {la : Option Addr} {lc : Nat} (h : SV w b d la lc) (hb : Below w.heap.size w w1) : SV w1 b d la lc := h.grown (r := none) (below_grown' hb) (by simp)
set_option maxHeartbeats 16000000 in
theorem lawDec (a : Option Addr) (cap : Nat) (bs : List Int) (at_ : Int) (w : World) (hm : bs.length ≤ maxLen) (hH : By.Has w a bs) (hA : AllB bs) :
    Calls Try.prog 3 #[.slice a bs.length cap, .int .i64 at_] w fun e w' => e = .returned (.bool true) ∧ Below w.heap.size w w' := by
  unfold maxLen at hm
  by_cases hbig : 1048576 < bs.length
  · have hbi : (1048576 : Int) < (bs.length : Int) := by omega
    clear hH hA
    go_enter Try.func3, Try.ntmps3
    go_wp2
    go_ret
    exact ⟨rfl, Below.refl _ _⟩
  have hbi : ¬ (1048576 : Int) < (bs.length : Int) := by omega
  have hl : bs.length ≤ 1099511627776 := by omega
  have hdl := dres_len bs hA at_
  have KT := Hid.mk' (fun (V : World) (h : Below w.heap.size w V) => By.toBytes_any a cap bs V hl (By.Has.keep hH h))
  have KS := Hid.mk' (fun (V : World) (g : Nat) (h : By.Has V (some ⟨g, 0, none⟩) bs) (hg : g < V.heap.size) => sdec_c (some ⟨g, 0, none⟩) bs.length bs at_ V hA hl h (fun x hx => by cases hx; exact hg))
  have KI := Hid.mk' (fun (V : World) (g : Nat) (h : By.Has V (some ⟨g, 0, none⟩) bs) (hg : g < V.heap.size) => idec_c (some ⟨g, 0, none⟩) bs.length bs at_ V hA hl (Nat.le_refl _) h (fun x hx => by cases hx; exact hg))
  generalize dresM bs at_ = d at *
  have hdl2 : d.x.l.length ≤ 1099511627776 := by omega
  have KE := Hid.mk' (fun (la la' : Option Addr) (lc lc' : Nat) (V : World) (h : Has V la d.x.l) (h' : Has V la' d.x.l) => eqRes_c d la la' lc lc' V hdl2 h h')
  have KM := Hid.mk' (fun (B : Nat) (la : Option Addr) (lc : Nat) (V : World) (h : V.ownsRow B 2 1 (.slice la d.x.l.length lc) d.x.l.length (I d.x.l)) => markRes_c B d la lc V hdl2 h)
  have KH := Hid.mk' (fun (B : Nat) (la : Option Addr) (lc : Nat) (V : World) (h : V.ownsRow B 2 1 (.slice la d.x.l.length lc) d.x.l.length (I (marks 1 d.x.l.length))) => heldRes_c B d la lc V hdl2 h)
  clear hH hA hbig hm
  go_enter Try.func3, Try.ntmps3
  go_wp2_with fail
  refine (KT.out _ (Below.refl _ _)).mono ?_
  rintro e w1 ⟨rfl, o1, b1⟩
  have B1 := Hid.mk' b1
  have H1 := Hid.mk' (By.own_has o1)
  have z1 : w.heap.size < w1.heap.size := (o1.lt _ rfl).2
  clear o1 b1
  go_wp2_with fail
  refine (KS.out _ _ H1.out z1).mono ?_
  rintro e w2 ⟨la0, lc0, rfl, o2, b2⟩
  have B2 := Hid.mk' (B1.out.trans (b2.mono B1.out.size))
  have s2 := b2.size
  obtain ⟨V2, hV2⟩ : ∃ V2, V2 = w2.alloc (.cells #[.int .i64 d.err, .int .i64 d.nxt, .int .i64 d.x.op, .int .i64 d.x.a, .int .i64 d.x.b, .int .u64 d.x.v, .slice la0 d.x.l.length lc0] 28) := ⟨_, rfl⟩
  have bV2 : Below w2.heap.size w2 V2 := by rw [hV2]; exact (Below.refl _ _).alloc (Nat.le_refl _) _
  have hs2 : w2.heap.size < V2.heap.size := by rw [hV2]; simp
  have S2 := Hid.mk' (show SV V2 w2.heap.size d la0 lc0 by rw [hV2]; exact SV.new _ _ _ _)
  have O2 := Hid.mk' (ownE_keep o2 bV2 (Nat.le_refl _))
  have LO := Hid.mk' (fun k (hk : (Value.slice la0 d.x.l.length lc0).ownBlock = some k) => (o2.lt k hk).2)
  have BV2 := Hid.mk' (B2.out.trans (bV2.mono B2.out.size))
  have HV2 := Hid.mk' hV2
  clear o2 b2 bV2 hV2 H1
  go_wp2_with fail
  rw [← HV2.out]
  refine (KT.out _ BV2.out).mono ?_
  rintro e w3 ⟨rfl, o3, b3⟩
  have B3 := Hid.mk' (BV2.out.trans (b3.mono BV2.out.size))
  have O3 := Hid.mk' o3
  have z3' : V2.heap.size < w3.heap.size := (o3.lt _ rfl).2
  have S3 := Hid.mk' (S2.out.keep b3)
  have P3 := Hid.mk' (ownE_keep O2.out b3 (Nat.le_refl _))
  clear o3 b3 HV2 S2 O2 B2 BV2
  go_wp2_with fail
  refine (KI.out _ _ (By.own_has O3.out) z3').mono ?_
  rintro e w4 ⟨la1, lc1, rfl, o4, b4⟩
  have B4 := Hid.mk' (B3.out.trans (b4.mono B3.out.size))
  have s4 := b4.size
  obtain ⟨V4, hV4⟩ : ∃ V4, V4 = w4.alloc (.cells #[.int .i64 d.err, .int .i64 d.nxt, .int .i64 d.x.op, .int .i64 d.x.a, .int .i64 d.x.b, .int .u64 d.x.v, .slice la1 d.x.l.length lc1] 28) := ⟨_, rfl⟩
  have bV4 : Below w4.heap.size w4 V4 := by rw [hV4]; exact (Below.refl _ _).alloc (Nat.le_refl _) _
  have hs4 : w4.heap.size < V4.heap.size := by rw [hV4]; simp
  have T4 := Hid.mk' (show SV V4 w4.heap.size d la1 lc1 by rw [hV4]; exact SV.new _ _ _ _)
  have S4 := Hid.mk' ((S3.out.keep b4).keep bV4)
  have P4 := Hid.mk' (ownE_keep (ownE_keep P3.out b4 (Nat.le_refl _)) bV4 (Nat.le_refl _))
  have Q4 := Hid.mk' (ownE_keep o4 bV4 (Nat.le_refl _))
  have X4 := Hid.mk' (ownE_keep (ownE_keep O3.out b4 (Nat.le_refl _)) bV4 (Nat.le_refl _))
  have LQ := Hid.mk' (fun k (hk : (Value.slice la1 d.x.l.length lc1).ownBlock = some k) => o4.lt k hk)
  have BV4 := Hid.mk' (B4.out.trans (bV4.mono B4.out.size))
  have HV4 := Hid.mk' hV4
  clear o4 b4 bV4 hV4 O3 P3 S3 B3 B4
  obtain ⟨m0, m1, m2, m3, m4, m5, m6⟩ := S4.out
  obtain ⟨n0, n1, n2, n3, n4, n5, n6⟩ := T4.out
  go_upto_region 6 with fail
  rw [← HV4.out]
  go_wp2_with fail
  refine (KE.out _ _ _ _ _ (hasOf Q4.out) (hasOf P4.out)).mono ?_
  rintro e w5 ⟨rfl, b5⟩
  have B5 := Hid.mk' (BV4.out.trans (b5.mono BV4.out.size))
  have T5 := Hid.mk' (T4.out.keep b5)
  have S5 := Hid.mk' (S4.out.keep b5)
  have P5 := Hid.mk' (ownE_keep P4.out b5 (Nat.le_refl _))
  have Q5 := Hid.mk' (ownE_keep Q4.out b5 (Nat.le_refl _))
  have X5 := Hid.mk' (ownE_keep X4.out b5 (Nat.le_refl _))
  have s5 := b5.size
  clear b5 HV4 T4 S4 P4 Q4 X4 BV4
  clear m0 m1 m2 m3 m4 m5 m6
  clear n0 n1 n2 n3 n4 n5 n6
  go_wp2_with fail
  refine (KT.out _ B5.out).mono ?_
  rintro e w6 ⟨rfl, o6, b6⟩
  have B6 := Hid.mk' (B5.out.trans (b6.mono B5.out.size))
  have X6 := Hid.mk' (ownE_keep X5.out b6 (Nat.le_refl _))
  have C6 := Hid.mk' o6
  have T6 := Hid.mk' (T5.out.keep b6)
  have S6 := Hid.mk' (S5.out.keep b6)
  have P6 := Hid.mk' (ownE_keep P5.out b6 (Nat.le_refl _))
  have Q6 := Hid.mk' (ownE_keep Q5.out b6 (Nat.le_refl _))
  have s6 := b6.size
  clear o6 b6 T5 S5 P5 Q5 X5 B5
  go_wp2_with fail
  refine (By.eq_any _ _ _ _ bs _ hl (By.own_has X6.out) (By.own_has C6.out)).mono ?_
  rintro e w7 ⟨rfl, n7, rfl⟩
  have X7 := Hid.mk' (show (w6.drewN n7).ownsRow V2.heap.size 5 1 (.slice (some ⟨V2.heap.size, 0, none⟩) bs.length bs.length) bs.length (U bs) from X6.out)
  have B7 := Hid.mk' (below_drewN' B6.out n7)
  have T7 := Hid.mk' (show SV (w6.drewN n7) w4.heap.size d la1 lc1 from T6.out)
  have S7 := Hid.mk' (show SV (w6.drewN n7) w2.heap.size d la0 lc0 from S6.out)
  have P7 := Hid.mk' (show (w6.drewN n7).ownsRow w1.heap.size 2 1 (.slice la0 d.x.l.length lc0) d.x.l.length (I d.x.l) from P6.out)
  have Q7 := Hid.mk' (show (w6.drewN n7).ownsRow w3.heap.size 2 1 (.slice la1 d.x.l.length lc1) d.x.l.length (I d.x.l) from Q6.out)
  have s7 : w5.heap.size ≤ (w6.drewN n7).heap.size := s6
  clear X6 C6 B6 T6 S6 P6 Q6 s6
  generalize w6.drewN n7 = w7 at *
  go_wp2_with fail
  refine (By.mark_any V2.heap.size V2.heap.size bs.length bs.length bs _ hl X7.out).mono ?_
  rintro e w8 ⟨rfl, o8, g8⟩
  have B8 := Hid.mk' (B7.out.grown g8 B7.out.size (fun k hk => by simp at hk; omega))
  have T8 := Hid.mk' (T7.out.grown g8 (by simp; omega))
  have S8 := Hid.mk' (S7.out.grown g8 (by simp; omega))
  have P8 := Hid.mk' (ownE_grown' P7.out g8 (fun k hk => by have := LO.out k hk; simp; omega))
  have Q8 := Hid.mk' (ownE_grown' Q7.out g8 (fun k hk => by have := (LQ.out k hk).1; simp; omega))
  have s8 := g8.size
  clear o8 g8 X7 B7 T7 S7 P7 Q7
  have hk1 : ¬ ((1 : Int) + bs.length) < 0 := by omega
  have hd1 : decide (((1 : Int) + bs.length) < 0) = false := decide_eq_false hk1
  obtain ⟨m0, m1, m2, m3, m4, m5, m6⟩ := S8.out
  obtain ⟨n0, n1, n2, n3, n4, n5, n6⟩ := T8.out
  go_wp2_with fail
  refine (KE.out _ _ _ _ _ (hasOf Q8.out) (hasOf P8.out)).mono ?_
  rintro e w9 ⟨rfl, b9⟩
  have B9 := Hid.mk' (B8.out.trans (b9.mono B8.out.size))
  have T9 := Hid.mk' (T8.out.keep b9)
  have S9 := Hid.mk' (S8.out.keep b9)
  have P9 := Hid.mk' (ownE_keep P8.out b9 (Nat.le_refl _))
  have Q9 := Hid.mk' (ownE_keep Q8.out b9 (Nat.le_refl _))
  have s9 := b9.size
  clear b9 T8 S8 P8 Q8 B8
  clear m0 m1 m2 m3 m4 m5 m6
  clear n0 n1 n2 n3 n4 n5 n6
  obtain ⟨n0, n1, n2, n3, n4, n5, n6⟩ := T9.out
  go_wp2_with fail
  refine (KM.out _ _ _ _ Q9.out).mono ?_
  rintro e w10 ⟨rfl, o10, g10⟩
  have B10 := Hid.mk' (B9.out.grown g10 B9.out.size (fun k hk => by have := (LQ.out k hk).1; omega))
  have T10 := Hid.mk' (T9.out.grown g10 (fun e => by have := (LQ.out _ e.symm).2; omega))
  have S10 := Hid.mk' (S9.out.grown g10 (fun e => by have := (LQ.out _ e.symm).1; omega))
  have P10 := Hid.mk' (ownE_grown' P9.out g10 (fun k hk e => by have h1 := LO.out k hk; have := (LQ.out _ e).1; omega))
  have Q10 := Hid.mk' o10
  have s10 := g10.size
  clear o10 g10 T9 S9 P9 Q9 B9
  clear n0 n1 n2 n3 n4 n5 n6
  obtain ⟨n0, n1, n2, n3, n4, n5, n6⟩ := T10.out
  go_wp2_with fail
  refine (KH.out _ _ _ _ Q10.out).mono ?_
  rintro e w11 ⟨rfl, b11⟩
  have B11 := Hid.mk' (B10.out.trans (b11.mono B10.out.size))
  have T11 := Hid.mk' (T10.out.keep b11)
  have S11 := Hid.mk' (S10.out.keep b11)
  have P11 := Hid.mk' (ownE_keep P10.out b11 (Nat.le_refl _))
  have Q11 := Hid.mk' (ownE_keep Q10.out b11 (Nat.le_refl _))
  have s11 := b11.size
  clear b11 T10 S10 P10 Q10 B10
  clear n0 n1 n2 n3 n4 n5 n6
  have hq1 : ¬ ((1 : Int) + d.x.l.length) < 0 := by omega
  have hq2 : (((1 : Int) + d.x.l.length) != ((1 : Int) + d.x.l.length)) = false := by simp
  go_wp2_with fail
  refine (KT.out _ B11.out).mono ?_
  rintro e w12 ⟨rfl, o12, b12⟩
  have B12 := Hid.mk' (B11.out.trans (b12.mono B11.out.size))
  have T12 := Hid.mk' (T11.out.keep b12)
  have S12 := Hid.mk' (S11.out.keep b12)
  have P12 := Hid.mk' (ownE_keep P11.out b12 (Nat.le_refl _))
  have Q12 := Hid.mk' (ownE_keep Q11.out b12 (Nat.le_refl _))
  have H12 := Hid.mk' (By.own_has o12)
  have z12 : w11.heap.size < w12.heap.size := (o12.lt _ rfl).2
  clear o12 b12 T11 S11 P11 Q11 B11
  go_wp2_with fail
  refine (KI.out _ _ H12.out z12).mono ?_
  rintro e w13 ⟨la2, lc2, rfl, o13, b13⟩
  have B13 := Hid.mk' (B12.out.trans (b13.mono B12.out.size))
  obtain ⟨V13, hV13⟩ : ∃ V13, V13 = w13.alloc (.cells #[.int .i64 d.err, .int .i64 d.nxt, .int .i64 d.x.op, .int .i64 d.x.a, .int .i64 d.x.b, .int .u64 d.x.v, .slice la2 d.x.l.length lc2] 28) := ⟨_, rfl⟩
  have bV13 : Below w13.heap.size w13 V13 := by rw [hV13]; exact (Below.refl _ _).alloc (Nat.le_refl _) _
  have R13 := Hid.mk' (show SV V13 w13.heap.size d la2 lc2 by rw [hV13]; exact SV.new _ _ _ _)
  have T13 := Hid.mk' ((T12.out.keep b13).keep bV13)
  have S13 := Hid.mk' ((S12.out.keep b13).keep bV13)
  have P13 := Hid.mk' (ownE_keep (ownE_keep P12.out b13 (Nat.le_refl _)) bV13 (Nat.le_refl _))
  have Q13 := Hid.mk' (ownE_keep (ownE_keep Q12.out b13 (Nat.le_refl _)) bV13 (Nat.le_refl _))
  have O13 := Hid.mk' (ownE_keep o13 bV13 (Nat.le_refl _))
  have BV13 := Hid.mk' (B13.out.trans (bV13.mono B13.out.size))
  have HV13 := Hid.mk' hV13
  clear o13 b13 bV13 hV13 T12 S12 P12 Q12 B12 H12 B13
  obtain ⟨m0, m1, m2, m3, m4, m5, m6⟩ := S13.out
  obtain ⟨r0, r1, r2, r3, r4, r5, r6⟩ := R13.out
  go_upto_region 23 with fail
  rw [← HV13.out]
  go_wp2_with fail
  refine (KE.out _ _ _ _ _ (hasOf O13.out) (hasOf P13.out)).mono ?_
  rintro e w14 ⟨rfl, b14⟩
  have B14 := Hid.mk' (BV13.out.trans (b14.mono BV13.out.size))
  have T14 := Hid.mk' (T13.out.keep b14)
  have Q14 := Hid.mk' (ownE_keep Q13.out b14 (Nat.le_refl _))
  clear b14 T13 S13 P13 Q13 O13 R13 BV13 HV13
  clear m0 m1 m2 m3 m4 m5 m6
  clear r0 r1 r2 r3 r4 r5 r6
  obtain ⟨n0, n1, n2, n3, n4, n5, n6⟩ := T14.out
  go_wp2_with fail
  refine (KH.out _ _ _ _ Q14.out).mono ?_
  rintro e w15 ⟨rfl, b15⟩
  have B15 := Hid.mk' (B14.out.trans (b15.mono B14.out.size))
  clear b15
  go_wp2
  go_ret
  exact ⟨rfl, B15.out⟩
end Go.Proofs.Yteaegmlnacnofaa
