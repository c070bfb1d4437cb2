import Derived.Test.YthmppcfhbbjhlaaDoorDr3
import Derived.Test.YthmppcfhbbjhlaaDoorCuS
import Derived.Deep.RegionHeld3
set_option linter.all false
set_option linter.unusedVariables false
namespace Go.Proofs.YthmppcfhbbjhlaaDoor
open Go.RowKit Go.Sort
set_option maxRecDepth 100000
theorem f32_c (w : World) : Calls Tryd.prog 40 #[] w fun e w' => e = .returned FSn ∧ Below w.heap.size w w' := by
  go_enter Tryd.func40, Tryd.ntmps40
  go_wp2
  exact bodyPost_ret (v := FSn) (by simp [results, Tryd.results40, go_sem]) rfl ⟨rfl, (Below.refl _ _).alloc (Nat.le_refl _) _⟩
theorem f64_c (w : World) : Calls Tryd.prog 41 #[] w fun e w' => e = .returned FSw ∧ Below w.heap.size w w' := by
  go_enter Tryd.func41, Tryd.ntmps41
  go_wp2
  exact bodyPost_ret (v := FSw) (by simp [results, Tryd.results41, go_sem]) rfl ⟨rfl, (Below.refl _ _).alloc (Nat.le_refl _) _⟩
set_option maxHeartbeats 4000000 in
theorem formOf_c (op : Int) (w : World) (h0 : 167 ≤ op) (h1 : op ≤ 191) :
    Calls Tryd.prog 62 #[.int .i64 op] w fun e w' => ∃ v, e = .returned v ∧ (v = FSn ∨ v = FSw) ∧ Below w.heap.size w w' := by
  have K1 := Hid.mk' f32_c
  have K2 := Hid.mk' f64_c
  obtain ⟨W, hW⟩ : ∃ W, W = w.alloc (.cells #[.int .i64 0, .int .i64 0, .int .i64 0] 40) := ⟨_, rfl⟩
  have HW := Hid.mk' hW
  have hB : Below w.heap.size w W := by rw [hW]; exact (Below.refl _ _).alloc (Nat.le_refl _) _
  have HC : Hid ((W.cell? ⟨w.heap.size, 0, none⟩ = some (.int .i64 0) ∧ W.cell? ⟨w.heap.size, 1, none⟩ = some (.int .i64 0) ∧ W.cell? ⟨w.heap.size, 2, none⟩ = some (.int .i64 0)) ∧ (∀ i, W.frozen? ⟨w.heap.size, i, none⟩ = false) ∧ w.heap.size < W.heap.size) := by
    rw [hW]; exact ⟨⟨cell_new rfl rfl, cell_new rfl rfl, cell_new rfl rfl⟩, fun i => World.frozen?_alloc_new _ _ _ _, by simp⟩
  clear hW
  have g1 : ¬ op ≤ 96 := by omega
  have g2 : ¬ op ≤ 152 := by omega
  have g3 : 91 ≤ op := by omega
  have g4 : 139 ≤ op := by omega
  have main : ∀ b : Bool, (b = (decide (op = 168) || decide (op = 169) || decide (op = 174) || decide (op = 175) || decide (op = 187) || decide (op = 188))) → True := fun _ _ => trivial
  clear main
  go_enter Tryd.func62, Tryd.ntmps62
  go_upto_region 1 with fail
  rw [← HW.out]
  go_cut [40] from 3 to 40 (fun s V => ∃ b : Bool, s = .bool b ∧ V = W)
  case first =>
    rcases (show op = 168 ∨ op = 169 ∨ op = 174 ∨ op = 175 ∨ op = 187 ∨ op = 188 ∨ (op ≠ 168 ∧ op ≠ 169 ∧ op ≠ 174 ∧ op ≠ 175 ∧ op ≠ 187 ∧ op ≠ 188) by omega) with rfl | rfl | rfl | rfl | rfl | rfl | ⟨n1, n2, n3, n4, n5, n6⟩
    · go_wp2_with fail
      go_meet
      case rel => exact ⟨_, rfl, rfl⟩
    · go_wp2_with fail
      go_meet
      case rel => exact ⟨_, rfl, rfl⟩
    · go_wp2_with fail
      go_meet
      case rel => exact ⟨_, rfl, rfl⟩
    · go_wp2_with fail
      go_meet
      case rel => exact ⟨_, rfl, rfl⟩
    · go_wp2_with fail
      go_meet
      case rel => exact ⟨_, rfl, rfl⟩
    · go_wp2_with fail
      go_meet
      case rel => exact ⟨_, rfl, rfl⟩
    · have e1 : (op == 168) = false := beq_eq_false_iff_ne.2 n1
      have e2 : (op == 169) = false := beq_eq_false_iff_ne.2 n2
      have e3 : (op == 174) = false := beq_eq_false_iff_ne.2 n3
      have e4 : (op == 175) = false := beq_eq_false_iff_ne.2 n4
      have e5 : (op == 187) = false := beq_eq_false_iff_ne.2 n5
      have e6 : (op == 188) = false := beq_eq_false_iff_ne.2 n6
      go_wp2_with fail
      go_meet
      case rel => exact ⟨_, rfl, rfl⟩
  case rest =>
    obtain ⟨b, rfl, rfl⟩ := hcut
    clear HW
    cases b
    · go_wp2_with fail
      refine (K2.out _).mono ?_
      rintro e w1 ⟨rfl, hb⟩
      obtain ⟨⟨c0, c1, c2⟩, cf, cl⟩ := HC.out
      have d0 := (hb.cell (p := ⟨w.heap.size, 0, none⟩) cl).trans c0
      have d1 := (hb.cell (p := ⟨w.heap.size, 1, none⟩) cl).trans c1
      have d2 := (hb.cell (p := ⟨w.heap.size, 2, none⟩) cl).trans c2
      have df : ∀ i, w1.frozen? ⟨w.heap.size, i, none⟩ = false := fun i => (hb.frozen (p := ⟨w.heap.size, i, none⟩) cl).trans (cf i)
      have HB := Hid.mk' (hB.trans (hb.mono hB.size))
      clear hb c0 c1 c2 cf HC hB
      go_wp2
      exact bodyPost_ret (v := FSw) (by simp [results, Tryd.results62, go_sem, d0, d1, d2]) rfl ⟨FSw, rfl, .inr rfl, ((HB.out.setCell (Nat.le_refl _) _).setCell (Nat.le_refl _) _).setCell (Nat.le_refl _) _⟩
    · go_wp2_with fail
      refine (K1.out _).mono ?_
      rintro e w1 ⟨rfl, hb⟩
      obtain ⟨⟨c0, c1, c2⟩, cf, cl⟩ := HC.out
      have d0 := (hb.cell (p := ⟨w.heap.size, 0, none⟩) cl).trans c0
      have d1 := (hb.cell (p := ⟨w.heap.size, 1, none⟩) cl).trans c1
      have d2 := (hb.cell (p := ⟨w.heap.size, 2, none⟩) cl).trans c2
      have df : ∀ i, w1.frozen? ⟨w.heap.size, i, none⟩ = false := fun i => (hb.frozen (p := ⟨w.heap.size, i, none⟩) cl).trans (cf i)
      have HB := Hid.mk' (hB.trans (hb.mono hB.size))
      clear hb c0 c1 c2 cf HC hB
      go_wp2
      exact bodyPost_ret (v := FSn) (by simp [results, Tryd.results62, go_sem, d0, d1, d2]) rfl ⟨FSn, rfl, .inl rfl, ((HB.out.setCell (Nat.le_refl _) _).setCell (Nat.le_refl _) _).setCell (Nat.le_refl _) _⟩
theorem sn_one' {W : World} {B : Nat} {t : TypeId} {f : Nat × Nat} (h : W.heap[B]? = some (.cells #[.int .u64 1] t f)) : SN W (.slice (some ⟨B, 0, none⟩) 1 1) 1 := by
  have e : dg 1 = [1] := by rw [dg_pos (by decide)]; simp [dg_zero]
  refine ⟨some ⟨B, 0, none⟩, 1, by rw [e]; rfl, ?_⟩
  rw [e]
  refine .inr ⟨B, 0, rfl, fun i hi => ?_⟩
  have : i = 0 := by simpa using hi
  subst this
  simp [World.cell?, h]
theorem grown_new {w V : World} {g : Nat} (h : w.grownBy V (some g)) (hg : w.heap.size ≤ g) : Below w.heap.size w V :=
  ⟨h.os, h.tape, h.output, h.size, fun k hk => h.block k hk (fun e => by simp at e; omega)⟩
theorem below_of_grown {B g : Nat} {w V V' : World} (hb : Below B w V) (h : V.grownBy V' (some g)) (hg : B ≤ g) (hs : B ≤ V.heap.size) : Below B w V' :=
  ⟨h.os.trans hb.os, h.tape.trans hb.tape, h.output.trans hb.output, Nat.le_trans hb.size h.size, fun k hk => (h.block k (by omega) (fun e => by simp at e; omega)).trans (hb.block k hk)⟩
/-- The state of a draw, from outside. -/
structure DQ (w : World) (a : Option Addr) (cap : Nat) (xs : List Int) (V : World) : Prop where
  cur : Cur V w.heap.size a cap xs
  bel : Below w.heap.size w V
theorem DQ.step {w V V' : World} {a : Option Addr} {cap : Nat} {xs : List Int} (h : DQ w a cap xs V) (hc : Cur V' w.heap.size a cap xs) (hg : V.grownBy V' (some w.heap.size)) : DQ w a cap xs V' :=
  ⟨hc, below_of_grown h.bel hg (Nat.le_refl _) h.bel.size⟩
theorem DQ.below {w V V' : World} {a : Option Addr} {cap : Nat} {xs : List Int} (h : DQ w a cap xs V) (hb : Below V.heap.size V V') : DQ w a cap xs V' :=
  ⟨h.cur.below hb h.cur.lt, h.bel.trans (hb.mono h.bel.size)⟩
theorem DQ.drew {w V : World} {a : Option Addr} {cap : Nat} {xs : List Int} (h : DQ w a cap xs V) : DQ w a cap xs V.drew :=
  ⟨h.cur.of_heap rfl, ⟨h.bel.os, h.bel.tape, h.bel.output, h.bel.size, h.bel.block⟩⟩
theorem fsz (v : Value) (h : v = FSn ∨ v = FSw) : ∃ p e l : Int, v = .agg #[.int .i64 p, .int .i64 e, .int .i64 l] := by
  rcases h with rfl | rfl
  · exact ⟨_, _, _, rfl⟩
  · exact ⟨_, _, _, rfl⟩
theorem round_any (v : Value) (hv : v = FSn ∨ v = FSw) (g more : Bool) (sig : Nat) (ex : Int) (u : Value) (w : World) (hb : bl sig ≤ 4000) (hx0 : -4000 ≤ ex) (hx1 : ex ≤ 4000) (hS : SN w u sig) :
    Calls Tryd.prog 30 #[v, .bool g, u, .int .i64 ex, .bool more] w fun e w' => ∃ x : Int, e = .returned (.int .u64 x) ∧ Below w.heap.size w w' := by
  rcases hv with rfl | rfl
  · exact (round_n g more sig ex u w hb hx0 hx1 hS).mono fun e w' ⟨h1, h2⟩ => ⟨_, h1, h2⟩
  · exact (round_w g more sig ex u w hb hx0 hx1 hS).mono fun e w' ⟨h1, h2⟩ => ⟨_, h1, h2⟩
theorem draw3_any (v : Value) (hv : v = FSn ∨ v = FSw) (g : Nat) (a : Option Addr) (cap : Nat) (xs : List Int) (w : World) (hl : xs.length ≤ 1099511627776) (hB : AllB xs) (hC : Cur w g a cap xs) :
    Calls Tryd.prog 61 #[.pointer (some ⟨g, 0, none⟩), v] w fun e w' => ∃ x : Int, e = .returned (.int .u64 x) ∧ 0 ≤ x ∧ x ≤ 18446744073709551615 ∧ Cur w' g a cap xs ∧ w.grownBy w' (some g) := by
  rcases hv with rfl | rfl
  · exact draw3_n g a cap xs w hl hB hC
  · exact draw3_w g a cap xs w hl hB hC
set_option maxHeartbeats 8000000 in
theorem drawConvert_c (a : Option Addr) (cap : Nat) (xs : List Int) (w : World) (hl : xs.length ≤ 1099511627776) (hB : AllB xs) (ha : Has w a xs) :
    Calls Tryd.prog 18 #[.slice a xs.length cap] w fun e w' => ∃ op x : Int, e = .returned (.tuple #[.int .i64 op, .int .u64 x]) ∧ 167 ≤ op ∧ op ≤ 191 ∧ 0 ≤ x ∧ x ≤ 18446744073709551615 ∧ Below w.heap.size w w' := by
  have KN := Hid.mk' (new_any a cap xs w hl hB ha)
  have KB := Hid.mk' (fun W n hC h1 h2 => below_any w.heap.size a cap xs n W hl hB hC h1 h2)
  have KD := Hid.mk' (fun W hC => drawU64_any w.heap.size a cap xs W hl hB hC)
  have KO := Hid.mk' (fun W n hC h1 h2 => once_any w.heap.size a cap xs n W hl hB hC h1 h2)
  have KS := Hid.mk' (fun W n hC h1 h2 => once_sn w.heap.size a cap xs n W hl hB hC h1 h2)
  have K3 := Hid.mk' (fun v hv W hC => draw3_any v hv w.heap.size a cap xs W hl hB hC)
  clear hl hB ha
  go_enter Tryd.func18, Tryd.ntmps18
  go_wp2_with fail
  refine KN.out.mono ?_
  rintro e w1 ⟨rfl, hC1, hb1, hs1⟩
  have HQ := Hid.mk' (DQ.mk hC1 hb1)
  clear KN hC1 hb1 hs1
  go_wp2_with fail
  refine (KB.out _ 25 HQ.out.cur (by omega) (by omega)).mono ?_
  rintro e w2 ⟨k, rfl, hk0, hk1, hC1, hg1⟩
  replace HQ := Hid.mk' (HQ.out.step hC1 hg1)
  clear hC1 hg1
  obtain ⟨op, hop⟩ : ∃ op, op = 167 + k := ⟨_, rfl⟩
  have hop' : IntKind.i64.wrap (167 + k) = op := by rw [IntKind.wrap_i64]; omega
  have o0 : 167 ≤ op := by omega
  have o1 : op ≤ 191 := by omega
  clear hop
  go_wp2_with fail
  refine (KD.out _ HQ.out.cur).mono ?_
  rintro e w3 ⟨x, rfl, hx0, hx1, hC1, hg1⟩
  replace HQ := Hid.mk' (HQ.out.step hC1 hg1)
  clear hC1 hg1 hop' hk0 hk1
  go_upto_region 4 with fail
  go_cut [30] from 17 to 30 (fun s V => ∃ b : Bool, s = .bool b ∧ V = w3)
  case first =>
    rcases (show op = 167 ∨ (168 ≤ op ∧ op ≤ 177) ∨ (178 ≤ op ∧ op ≤ 181) ∨ op = 182 ∨ (183 ≤ op ∧ op ≤ 186) ∨ 187 ≤ op by omega) with rfl | ⟨n1, n2⟩ | ⟨n1, n2⟩ | rfl | ⟨n1, n2⟩ | n1
    · go_wp2_with fail
      go_meet
      case rel => exact ⟨_, rfl, rfl⟩
    · go_wp2_with fail
      go_meet
      case rel => exact ⟨_, rfl, rfl⟩
    · have e1 : (op == 182) = false := beq_eq_false_iff_ne.2 (by omega)
      have e2 : 168 ≤ op := by omega
      have e3 : ¬ op ≤ 177 := by omega
      have e4 : ¬ 187 ≤ op := by omega
      go_wp2_with fail
      go_meet
      case rel => exact ⟨_, rfl, rfl⟩
    · go_wp2_with fail
      go_meet
      case rel => exact ⟨_, rfl, rfl⟩
    · have e1 : (op == 182) = false := beq_eq_false_iff_ne.2 (by omega)
      have e2 : 168 ≤ op := by omega
      have e3 : ¬ op ≤ 177 := by omega
      have e4 : ¬ 187 ≤ op := by omega
      go_wp2_with fail
      go_meet
      case rel => exact ⟨_, rfl, rfl⟩
    · have e1 : (op == 182) = false := beq_eq_false_iff_ne.2 (by omega)
      have e2 : 168 ≤ op := by omega
      have e3 : ¬ op ≤ 177 := by omega
      go_wp2_with fail
      go_meet
      case rel => exact ⟨_, rfl, rfl⟩
  case rest =>
    obtain ⟨b, rfl, rfl⟩ := hcut
    go_upto_if 30 with fail
    go_cut [6] from 31 to 34 (fun s V => ∃ y : Int, s = .int .u64 y ∧ 0 ≤ y ∧ y ≤ 18446744073709551615 ∧ DQ w a cap xs V)
    case first =>
      cases b
      · go_wp2_with fail
        go_meet
        case rel => exact ⟨x, rfl, hx0, hx1, HQ.out⟩
      · go_wp2_with fail
        refine (formOf_c op _ o0 o1).mono ?_
        rintro e w4 ⟨v, rfl, hv, hb⟩
        replace HQ := Hid.mk' (HQ.out.below hb)
        clear hb
        go_wp2_with fail
        refine (K3.out v hv _ HQ.out.cur).mono ?_
        rintro e w5 ⟨y, rfl, y0, y1, hC1, hg1⟩
        replace HQ := Hid.mk' (HQ.out.step hC1 hg1)
        go_wp2_with fail
        go_meet
        case rel => exact ⟨y, rfl, y0, y1, HQ.out⟩
    case rest =>
      rename_i wd _ _
      obtain ⟨y, rfl, y0, y1, hQ⟩ := hcut
      clear HQ
      have HQ := Hid.mk' hQ
      clear hQ
      have C52 : Hid (∀ r : Bool, r = false ∨ r = true) := fun r => by cases r <;> simp
      go_upto_region 6 with fail
      go_cut [52] from 35 to 52 (fun s V => ∃ b : Bool, s = .bool b ∧ DQ w a cap xs V)
      case first =>
        go_wp2_with fail
        refine (KO.out _ 3 HQ.out.cur (by omega) (by omega)).mono ?_
        rintro e w4 ⟨r, rfl, hC1, hg1⟩
        replace HQ := Hid.mk' (HQ.out.step hC1 hg1)
        clear hC1 hg1
        cases r
        · go_wp2_with fail
          go_meet
          case rel => exact ⟨_, rfl, HQ.out⟩
        · rcases (show op = 167 ∨ (168 ≤ op ∧ op ≤ 171) ∨ op = 172 ∨ op = 173 ∨ (174 ≤ op ∧ op ≤ 177) ∨ 178 ≤ op by omega) with rfl | ⟨n1, n2⟩ | rfl | rfl | ⟨n1, n2⟩ | n1
          · go_wp2_with fail
            go_meet
            case rel => exact ⟨_, rfl, HQ.out⟩
          · have e1 : (op == 172) = false := beq_eq_false_iff_ne.2 (by omega)
            have e2 : (op == 173) = false := beq_eq_false_iff_ne.2 (by omega)
            have e1' : (op != 172) = true := by simp; omega
            have e2' : (op != 173) = true := by simp; omega
            have e3 : op ≤ 177 := by omega
            go_wp2_with fail
            go_meet
            case rel => exact ⟨_, rfl, HQ.out⟩
          · go_wp2_with fail
            go_meet
            case rel => exact ⟨_, rfl, HQ.out⟩
          · go_wp2_with fail
            go_meet
            case rel => exact ⟨_, rfl, HQ.out⟩
          · have e1 : (op == 172) = false := beq_eq_false_iff_ne.2 (by omega)
            have e2 : (op == 173) = false := beq_eq_false_iff_ne.2 (by omega)
            have e1' : (op != 172) = true := by simp; omega
            have e2' : (op != 173) = true := by simp; omega
            have e3 : 168 ≤ op := by omega
            go_wp2_with fail
            go_meet
            case rel => exact ⟨_, rfl, HQ.out⟩
          · have e2 : 168 ≤ op := by omega
            have e3 : ¬ op ≤ 177 := by omega
            go_wp2_with fail
            go_meet
            case rel => exact ⟨_, rfl, HQ.out⟩
      case rest =>
        rename_i we _ _
        obtain ⟨b, rfl, hQ⟩ := hcut
        clear HQ
        have HQ := Hid.mk' hQ
        clear hQ
        cases b
        · go_wp2
          go_ret2
          exact ⟨op, y, rfl, o0, o1, y0, y1, HQ.out.bel⟩
        · go_wp2_with fail
          refine (formOf_c op _ o0 o1).mono ?_
          rintro e w4 ⟨v, rfl, hv, hb⟩
          replace HQ := Hid.mk' (HQ.out.below hb)
          clear hb
          obtain ⟨p, ee, l, rfl⟩ := fsz v hv
          have HV := Hid.mk' hv
          clear hv
          obtain ⟨W5, hW5⟩ : ∃ W5, W5 = w4.alloc (.cells #[.int .i64 p, .int .i64 ee, .int .i64 l] 40) := ⟨_, rfl⟩
          obtain ⟨bF, hbF⟩ : ∃ bF, bF = w4.heap.size := ⟨_, rfl⟩
          have hgF : w.heap.size < bF := by rw [hbF]; exact HQ.out.cur.lt
          have HF5 : Hid (W5.heap[bF]? = some (.cells #[.int .i64 p, .int .i64 ee, .int .i64 l] 40) ∧ bF < W5.heap.size) := by
            refine ⟨?_, ?_⟩
            · rw [hW5, hbF]; show (w4.heap.push _)[w4.heap.size]? = _; simp
            · rw [hW5, hbF]; simp
          have HQ5 : Hid (DQ w a cap xs W5) := by rw [hW5]; exact HQ.out.below ((Below.refl _ _).alloc (Nat.le_refl _) _)
          have HW5 := Hid.mk' hW5
          have HbF := Hid.mk' hbF
          clear hW5 hbF HQ
          go_upto_region 8 with fail
          rw [← HW5.out, ← HbF.out]
          clear HW5 HbF
          go_cut [8] from 55 to 59 (fun s V => ∃ n : Int, s = .int .i64 n ∧ 0 ≤ n ∧ n ≤ 64 ∧ DQ w a cap xs V ∧ V.heap[bF]? = some (.cells #[.int .i64 p, .int .i64 ee, .int .i64 l] 40) ∧ bF < V.heap.size)
          case first =>
            obtain ⟨W6, hW6⟩ : ∃ W6, W6 = W5.alloc (.cells #[.int .i64 31, .int .i64 32, .int .i64 63, .int .i64 64] 2) := ⟨_, rfl⟩
            have HW6 := Hid.mk' hW6
            have HQ6 : Hid (DQ w a cap xs W6) := by rw [hW6]; exact HQ5.out.below ((Below.refl _ _).alloc (Nat.le_refl _) _)
            have HF6 : Hid ((W6.heap[bF]? = some (.cells #[.int .i64 p, .int .i64 ee, .int .i64 l] 40) ∧ bF < W6.heap.size) ∧ (W6.heap[W5.heap.size]? = some (.cells #[.int .i64 31, .int .i64 32, .int .i64 63, .int .i64 64] 2) ∧ W5.heap.size < W6.heap.size)) := by
              refine ⟨⟨?_, ?_⟩, ?_, ?_⟩
              · rw [hW6]; exact (((Below.refl W5.heap.size W5).alloc (Nat.le_refl _) _).block bF HF5.out.2).trans HF5.out.1
              · rw [hW6]; have := HF5.out.2; simp; omega
              · rw [hW6]; show (W5.heap.push _)[W5.heap.size]? = _; simp
              · rw [hW6]; simp
            have hlt5 : w.heap.size < W5.heap.size := HQ5.out.cur.lt
            clear hW6
            go_wp2_with fail
            rw [← HW6.out]
            clear HW6 HQ5 HF5
            refine (KB.out _ 4 HQ6.out.cur (by omega) (by omega)).mono ?_
            rintro e w6 ⟨z, rfl, hz0, hz1, hC1, hg1⟩
            have HQ7 := Hid.mk' (HQ6.out.step hC1 hg1)
            have hbb := (hg1.block _ HF6.out.2.2 (fun e => by simp at e; omega)).trans HF6.out.2.1
            have HF7 : Hid (w6.heap[bF]? = some (.cells #[.int .i64 p, .int .i64 ee, .int .i64 l] 40) ∧ bF < w6.heap.size) := ⟨(hg1.block _ HF6.out.1.2 (fun e => by simp at e; omega)).trans HF6.out.1.1, Nat.lt_of_lt_of_le HF6.out.1.2 hg1.size⟩
            have b0 : w6.cell? ⟨W5.heap.size, 0, none⟩ = some (.int .i64 31) := by simp [World.cell?, hbb]
            have b1 : w6.cell? ⟨W5.heap.size, 1, none⟩ = some (.int .i64 32) := by simp [World.cell?, hbb]
            have b2 : w6.cell? ⟨W5.heap.size, 2, none⟩ = some (.int .i64 63) := by simp [World.cell?, hbb]
            have b3 : w6.cell? ⟨W5.heap.size, 3, none⟩ = some (.int .i64 64) := by simp [World.cell?, hbb]
            clear hbb HF6 HQ6 hC1 hg1
            rcases (show z = 0 ∨ z = 1 ∨ z = 2 ∨ z = 3 by omega) with rfl | rfl | rfl | rfl
            · go_wp2_with fail
              go_meet
              case rel => exact ⟨_, rfl, by omega, by omega, HQ7.out, HF7.out⟩
            · go_wp2_with fail
              go_meet
              case rel => exact ⟨_, rfl, by omega, by omega, HQ7.out, HF7.out⟩
            · go_wp2_with fail
              go_meet
              case rel => exact ⟨_, rfl, by omega, by omega, HQ7.out, HF7.out⟩
            · go_wp2_with fail
              go_meet
              case rel => exact ⟨_, rfl, by omega, by omega, HQ7.out, HF7.out⟩
          case rest =>
            rename_i wf _ _
            obtain ⟨n, rfl, n0, n1, hQ, hF⟩ := hcut
            clear HQ5 HF5
            have HQ := Hid.mk' hQ
            have HF := Hid.mk' hF
            clear hQ hF
            go_wp2_with fail
            refine (KB.out _ 5 HQ.out.cur (by omega) (by omega)).mono ?_
            rintro e w7 ⟨q, rfl, hq0, hq1, hC1, hg1⟩
            replace HF : Hid (w7.heap[bF]? = some (.cells #[.int .i64 p, .int .i64 ee, .int .i64 l] 40) ∧ bF < w7.heap.size) := ⟨(hg1.block _ HF.out.2 (fun e => by simp at e; omega)).trans HF.out.1, Nat.lt_of_lt_of_le HF.out.2 hg1.size⟩
            replace HQ := Hid.mk' (HQ.out.step hC1 hg1)
            clear hC1 hg1
            have cells : Hid (∀ V : World, V.heap[bF]? = some (.cells #[.int .i64 p, .int .i64 ee, .int .i64 l] 40) → V.cell? ⟨bF, 0, none⟩ = some (.int .i64 p) ∧ V.cell? ⟨bF, 1, none⟩ = some (.int .i64 ee) ∧ V.cell? ⟨bF, 2, none⟩ = some (.int .i64 l)) := fun V h => by simp [World.cell?, h]
            obtain ⟨f0, f1, f2⟩ := cells.out _ HF.out.1
            have hF0 := HF.out
            have KS2 := Hid.mk' (fun W hC => KS.out W 2 hC (by omega) (by omega))
            have KL := Hid.mk' (fun (V : World) (u : Value) (h : SN V u 1) => left_int u 1 n V n0 (by omega) (by rw [show bl 1 = 1 by decide]; omega) h)
            have hbl : bl (1 * 2 ^ n.toNat) ≤ 4000 := by rw [bl_mul (by decide)]; rw [show bl 1 = 1 by decide]; omega
            have KR := Hid.mk' (fun (V : World) (u : Value) (b : Bool) (h : SN V u (1 * 2 ^ n.toNat)) => round_any _ HV.out b false _ 0 u V hbl (by omega) (by omega) h)
            have FN : Hid (∀ V V' : World, (V.heap[bF]? = some (.cells #[.int .i64 p, .int .i64 ee, .int .i64 l] 40) ∧ bF < V.heap.size) → V.grownBy V' (some w.heap.size) → (V'.heap[bF]? = some (.cells #[.int .i64 p, .int .i64 ee, .int .i64 l] 40) ∧ bF < V'.heap.size)) := fun V V' h hg => ⟨(hg.block _ h.2 (fun e => by simp at e; omega)).trans h.1, Nat.lt_of_lt_of_le h.2 hg.size⟩
            have al : Hid (∀ (V : World) (o : Obj), Below V.heap.size V (V.alloc o)) := fun V o => (Below.refl _ _).alloc (Nat.le_refl _) _
            clear KB KD KO KS K3 HV hbl
            go_upto_region 10 with fail
            go_cut [6] from 62 to 72 (fun s V => ∃ x : Int, s = .int .u64 x ∧ 0 ≤ x ∧ x ≤ 18446744073709551615 ∧ DQ w a cap xs V)
            case first =>
              have F7 : Hid (w7.drew.heap[bF]? = some (.cells #[.int .i64 p, .int .i64 ee, .int .i64 l] 40) ∧ bF < w7.drew.heap.size) := HF.out
              have Q7 : Hid (DQ w a cap xs w7.drew) := HQ.out.drew
              clear HF HQ hF0
              go_region_held3 (fun w' => w'.cell? ⟨bF, 0, none⟩ = some (.int .i64 p) ∧ w'.cell? ⟨bF, 1, none⟩ = some (.int .i64 ee) ∧ w'.cell? ⟨bF, 2, none⟩ = some (.int .i64 l)) (first | exact ⟨f0, f1, f2⟩ | exact cells.out _ Fr.out.1 | exact cells.out _ Fo.out.1 | exact cells.out _ Fl.out.1 | exact cells.out _ (grown_below (al.out _ _) |> FN.out _ _ F7.out).1 | exact cells.out _ (grown_below (al.out _ _) |> FN.out _ _ Fo.out).1) (first
                | (go_at_call 63; refine (KS2.out _ ?hcur).mono ?_; (case hcur => first | exact Ql.out.cur | exact (Q7.out.below (al.out _ _)).cur | exact Q7.out.cur); rintro e w8 ⟨r, rfl, hC1, hg1, hS1⟩; have Qo : Hid (DQ w a cap xs w8) := (by first | exact Ql.out.step hC1 hg1 | exact (Q7.out.below (al.out _ _)).step hC1 hg1 | exact Q7.out.step hC1 hg1); have Fo : Hid (w8.heap[bF]? = some (.cells #[.int .i64 p, .int .i64 ee, .int .i64 l] 40) ∧ bF < w8.heap.size) := (by first | exact FN.out _ _ Fl.out hg1 | exact FN.out _ _ (FN.out _ _ F7.out (grown_below (al.out _ _))) hg1 | exact FN.out _ _ F7.out hg1))
                | (go_at_call 64; refine (KL.out _ _ ?hsn).mono ?_; (case hsn => first | exact sn_one | exact hS1 _ _ sn_one); rintro e w9 ⟨⟨u, rfl, hS2⟩, hb2⟩; have Ql : Hid (DQ w a cap xs w9) := (by first | exact (Qo.out.below (al.out _ _)).below hb2 | exact Qo.out.below hb2 | exact (Q7.out.below (al.out _ _)).below hb2); have Fl : Hid (w9.heap[bF]? = some (.cells #[.int .i64 p, .int .i64 ee, .int .i64 l] 40) ∧ bF < w9.heap.size) := (by first | exact FN.out _ _ (FN.out _ _ Fo.out (grown_below (al.out _ _))) (grown_below hb2) | exact FN.out _ _ Fo.out (grown_below hb2) | exact FN.out _ _ (FN.out _ _ F7.out (grown_below (al.out _ _))) (grown_below hb2)))
                | (go_at_call 30; refine (KR.out _ _ _ ?hsn).mono ?_; (case hsn => first | exact hS2 | exact hS1 _ _ hS2); rintro e w10 ⟨x5, rfl, hb3⟩; have Qr : Hid (DQ w a cap xs w10) := (by first | exact Ql.out.below hb3 | exact Qo.out.below hb3); have Fr : Hid (w10.heap[bF]? = some (.cells #[.int .i64 p, .int .i64 ee, .int .i64 l] 40) ∧ bF < w10.heap.size) := (by first | exact FN.out _ _ Fl.out (grown_below hb3) | exact FN.out _ _ Fo.out (grown_below hb3))))
              all_goals
                go_wp2_with fail
                go_meet
                case rel => exact ⟨_, rfl, (u64w _).1, (u64w _).2, Qr.out⟩
            case rest =>
              rename_i wg _ _
              obtain ⟨x6, rfl, x60, x61, hQ⟩ := hcut
              go_wp2
              go_ret2
              exact ⟨op, x6, rfl, o0, o1, x60, x61, hQ.bel⟩
end Go.Proofs.YthmppcfhbbjhlaaDoor
