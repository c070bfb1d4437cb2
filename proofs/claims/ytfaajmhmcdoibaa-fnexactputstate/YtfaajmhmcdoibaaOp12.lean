import Derived.Test.YtfaajmhmcdoibaaLw12
import Derived.Deep.Slices
import Derived.ProofKit
import Derived.OpenShut
set_option linter.all false
set_option linter.unusedVariables false
namespace Go.Proofs.Ytfaajmhmcdoibaa
open Go.RowKit Go.ChangeShapes Go.WideShapes Go.ChangeAt
set_option maxRecDepth 100000
theorem big {n : Nat} (h : n ≤ maxLen) : n ≤ 9223372036854775807 := by unfold maxLen at h; omega
theorem ko2 : Try.prog.cellsOf 2 = 1 := by kernel_rfl
theorem ko4 : Try.prog.cellsOf 4 = 1 := by kernel_rfl
theorem kou : Try.prog.cellsOf 85 = 1 := by kernel_rfl
theorem kow : Try.prog.cellsOf 22 = 1 := by kernel_rfl
theorem ko_Lab : Try.prog.cellsOf 115 = 4 := by kernel_rfl
theorem kl_Lab : Try.prog.cellsOf 80 = 1 := by kernel_rfl
theorem ko_Frm : Try.prog.cellsOf 82 = 5 := by kernel_rfl
theorem kl_Frm : Try.prog.cellsOf 23 = 1 := by kernel_rfl
theorem ko_Sta : Try.prog.cellsOf 25 = 4 := by kernel_rfl
theorem hi_take {k : IntKind} {W : World} {a : Addr} {len : Nat} {zs : List Int} (hl : len ≤ zs.length) (hc : ∀ i, i < zs.length → W.cell? (a.add i) = some (.int k (zs.getD i 0))) : HI k 0 W (some a) (zs.take len) := by
  by_cases h0 : len = 0
  · subst h0; exact .inl (by simp)
  · obtain ⟨b, off, spot⟩ := a
    have h1 := hc 0 (by omega)
    have hspot : spot = none := by simpa [Addr.add] using World.cell?_spot h1
    subst hspot
    refine .inr ⟨b, off, rfl, Nat.zero_le _, fun i hi => ?_⟩
    have hi' : i < len := by simp at hi; omega
    have h2 := hc i (by omega)
    have e : (zs.take len).getD i 0 = zs.getD i 0 := by simp [List.getD, hi']
    rw [e]
    rwa [Addr.add_lit] at h2
/-- A list of records. -/
theorem open_list {R H : Type} {enc : TypeId × Value → H} {W : World} (z : R) (At : Nat → Nat → R → Prop) (Pr : R → Prop) {t te : TypeId} {sz n : Nat} {v : Value} {y : DataW H × List MemPlace} (hu : Try.prog.underlying t = some (.slice te)) (hc : Try.prog.cellsOf te = sz)
    (each : ∀ (ad : Addr) (cs' : List Value) (n : Nat) (y : DataW H × List MemPlace), W.cells? 0 ad sz = some cs' → DataW.trod enc Try.prog W 0 (fun _ => true) true n te cs' = some y → ∃ r : R, ad.spot = none ∧ At ad.block ad.off r ∧ Pr r)
    (h : DataW.trod enc Try.prog W 0 (fun _ => true) true n t [v] = some y) :
    ∃ (a : Option Addr) (c : Nat) (xs : List R), v = .slice a xs.length c ∧ xs.length ≤ maxLen ∧ (xs = [] ∨ ∃ b off, a = some ⟨b, off, none⟩ ∧ 0 ≤ b ∧ ∀ i, i < xs.length → At b (off + i * sz) (xs.getD i z)) ∧ ∀ i, i < xs.length → Pr (xs.getD i z) := by
  rcases Go.Deep.open_slice hu h with ⟨hcs, _⟩ | ⟨ad, len, cap, m, n', D, Pl, hcs, _, hl, hm, hmm, _, hx⟩
  · simp at hcs
    subst hcs
    exact ⟨none, 0, [], rfl, Nat.zero_le _, .inl rfl, fun i hi => by simp at hi⟩
  · simp at hcs
    subst hcs
    simp only [if_true] at hmm
    subst hmm
    have ea : ∀ i, i < len → ∃ r : R, (ad.add (i * sz)).spot = none ∧ At (ad.add (i * sz)).block (ad.add (i * sz)).off r ∧ Pr r := by
      intro i hi
      obtain ⟨cs', h1, h2⟩ := hx i (by omega)
      rw [hc] at h1
      exact each _ _ _ _ h1 h2
    obtain ⟨q, hq⟩ : ∃ q : Nat → R, ∀ i, i < len → (ad.add (i * sz)).spot = none ∧ At (ad.add (i * sz)).block (ad.add (i * sz)).off (q i) ∧ Pr (q i) :=
      ⟨fun i => if h : i < len then Classical.choose (ea i h) else z, fun i hi => by simp only [hi, dif_pos]; exact Classical.choose_spec (ea i hi)⟩
    have at_i : ∀ i, i < len → ((List.range len).map q).getD i z = q i := fun i hi => by simp [List.getD, hi]
    refine ⟨some ad, m, (List.range len).map q, by simp, by simp; omega, ?_, fun i hi => ?_⟩
    · by_cases h0 : len = 0
      · subst h0; exact .inl (by simp)
      · obtain ⟨b, off, spot⟩ := ad
        have hspot : spot = none := by simpa [Addr.add] using (hq 0 (by omega)).1
        subst hspot
        refine .inr ⟨b, off, rfl, Nat.zero_le _, fun i hi => ?_⟩
        have hi' : i < len := by simpa using hi
        rw [at_i i hi']
        have := (hq i hi').2.1
        rwa [Addr.add_lit] at this
    · have hi' : i < len := by simpa using hi
      rw [at_i i hi']; exact (hq i hi').2.2
theorem bounds_u64 {n : Int} (h : (Lit.int .u64 n).wf = true) : 0 ≤ n ∧ n ≤ 18446744073709551615 := by
  simp [Lit.wf, IntKind.min, IntKind.max, IntKind.signed, IntKind.bits] at h
  omega
theorem vl2_words {H : Type} {enc : TypeId × Value → H} {W : World} {n : Nat} {v : Value} {y : DataW H × List MemPlace} (g : DataW.trod enc Try.prog W 0 (fun _ => true) true n 22 [v] = some y) :
    ∃ (a : Option Addr) (c : Nat) (l : List Int), v = .slice a l.length c ∧ l.length ≤ maxLen ∧ HI .u64 0 W a l ∧ ∀ j, j < l.length → 0 ≤ l.getD j 0 ∧ l.getD j 0 ≤ 18446744073709551615 := by
  rcases open_ints Try.underlying22 Try.underlying85 kou g with ⟨hcs, _⟩ | ⟨x, len, cap, zs, hcs, _, hl, hm, hz, _, hc, hw⟩
  · simp at hcs
    subst hcs
    exact ⟨none, 0, [], rfl, Nat.zero_le _, .inl rfl, fun j hj => by simp at hj⟩
  · simp at hcs hz
    subst hcs
    refine ⟨some x, cap, zs.take len, by simp; omega, by simp; omega, hi_take (by omega) hc, fun j hj => ?_⟩
    have hm : (zs.take len).getD j 0 ∈ zs := by
      rw [List.getD_eq_getElem?_getD, List.getElem?_eq_getElem hj]
      exact List.mem_of_mem_take (List.getElem_mem hj)
    exact bounds_u64 (hw _ hm)
set_option maxHeartbeats 2000000 in
theorem vl2_Lab {H : Type} {enc : TypeId × Value → H} {W : World} {n : Nat} {cs : List Value} {y : DataW H × List MemPlace} (h : DataW.trod enc Try.prog W 0 (fun _ => true) true n 115 cs = some y) :
    ∃ (r : Lab), cs = [.int .i64 r.pc, .int .i64 r.ar, .int .i64 r.ht, .bool r.lp] ∧ Lab.Is 0 W r  ∧ Lab.LB 9223372036854775807 r ∧ (True) := by
  obtain ⟨xs, k, hk, hxy, hcl, hxl, hf⟩ := DataW.trod_struct Try.underlying115 h
  rw [ko_Lab] at hcl
  match xs, hxl, cs, hcl with
  | [y0, y1, y2, y3], _, [v0, v1, v2, v3], _ =>
    have g0 := hf 0 _ rfl
    have g1 := hf 1 _ rfl
    have g2 := hf 2 _ rfl
    have g3 := hf 3 _ rfl
    simp [ko2, ko4, kou, kow, ko_Lab, kl_Lab, ko_Frm, kl_Frm, ko_Sta] at g0 g1 g2 g3
    obtain ⟨n0, e0, _, _⟩ := DataW.trod_int Try.underlying2 g0
    simp at e0
    subst e0
    obtain ⟨n1, e1, _, _⟩ := DataW.trod_int Try.underlying2 g1
    simp at e1
    subst e1
    obtain ⟨n2, e2, _, _⟩ := DataW.trod_int Try.underlying2 g2
    simp at e2
    subst e2
    obtain ⟨n3, e3, _⟩ := DataW.trod_bool Try.underlying4 g3
    simp at e3
    subst e3
    exact ⟨⟨n0, n1, n2, n3⟩, rfl, trivial, trivial, trivial⟩
theorem ea2_Lab {H : Type} {enc : TypeId × Value → H} {W : World} (ad : Addr) (cs' : List Value) (n : Nat) (y : DataW H × List MemPlace) (h1 : W.cells? 0 ad 4 = some cs') (h2 : DataW.trod enc Try.prog W 0 (fun _ => true) true n 115 cs' = some y) :
    ∃ r : Lab, ad.spot = none ∧ Lab.At 0 W ad.block ad.off r ∧ Lab.LB 9223372036854775807 r ∧ (True) := by
  obtain ⟨_, hlen, hcell⟩ := World.cells?_some h1
  obtain ⟨r, e, hi, hl, hp⟩ := vl2_Lab h2
  subst e
  obtain ⟨b, off, spot⟩ := ad
  have q0 := hcell 0 (by omega)
  have hspot : spot = none := by simpa [Addr.add] using World.cell?_spot (a := Addr.add ⟨b, off, spot⟩ 0) q0
  subst hspot
  have q1 := hcell 1 (by omega)
  have q2 := hcell 2 (by omega)
  have q3 := hcell 3 (by omega)
  simp only [Addr.add_lit] at q0 q1 q2 q3
  exact ⟨r, rfl, ⟨⟨by simpa using q0, by simpa using q1, by simpa using q2, by simpa using q3⟩, hi⟩, hl, hp⟩
set_option maxHeartbeats 2000000 in
theorem vl2_Frm {H : Type} {enc : TypeId × Value → H} {W : World} {n : Nat} {cs : List Value} {y : DataW H × List MemPlace} (h : DataW.trod enc Try.prog W 0 (fun _ => true) true n 82 cs = some y) :
    ∃ (r : Frm) (a1 : Option Addr) (c1 : Nat) (a2 : Option Addr) (c2 : Nat), cs = [.int .i64 r.fn, .int .i64 r.pc, .slice a1 r.loc.length c1, .int .i64 r.ht, .slice a2 r.labs.length c2] ∧ Frm.Is 0 W r a1 a2 ∧ Frm.LB 9223372036854775807 r ∧ (∀ j, j < r.loc.length → 0 ≤ r.loc.getD j 0 ∧ r.loc.getD j 0 ≤ 18446744073709551615) := by
  obtain ⟨xs, k, hk, hxy, hcl, hxl, hf⟩ := DataW.trod_struct Try.underlying82 h
  rw [ko_Frm] at hcl
  match xs, hxl, cs, hcl with
  | [y0, y1, y2, y3, y4], _, [v0, v1, v2, v3, v4], _ =>
    have g0 := hf 0 _ rfl
    have g1 := hf 1 _ rfl
    have g2 := hf 2 _ rfl
    have g3 := hf 3 _ rfl
    have g4 := hf 4 _ rfl
    simp [ko2, ko4, kou, kow, ko_Lab, kl_Lab, ko_Frm, kl_Frm, ko_Sta] at g0 g1 g2 g3 g4
    obtain ⟨n0, e0, _, _⟩ := DataW.trod_int Try.underlying2 g0
    simp at e0
    subst e0
    obtain ⟨n1, e1, _, _⟩ := DataW.trod_int Try.underlying2 g1
    simp at e1
    subst e1
    obtain ⟨p2, d2, n2, e2, l2, h2, t2⟩ := vl2_words g2
    subst e2
    obtain ⟨n3, e3, _, _⟩ := DataW.trod_int Try.underlying2 g3
    simp at e3
    subst e3
    obtain ⟨p4, d4, n4, e4, l4, h4, z4⟩ := open_list Lab.z (fun b o x => Lab.At 0 W b o x) (fun x => Lab.LB 9223372036854775807 x ∧ (True)) Try.underlying80 ko_Lab (fun ad cs' n y h1 h2 => ea2_Lab ad cs' n y h1 h2) g4
    subst e4
    exact ⟨⟨n0, n1, n2, n3, n4⟩, p2, d2, p4, d4, rfl, ⟨h2, h4⟩, ⟨big l2, ⟨big l4, fun i hi => (z4 i hi).1⟩⟩, t2⟩
theorem ea2_Frm {H : Type} {enc : TypeId × Value → H} {W : World} (ad : Addr) (cs' : List Value) (n : Nat) (y : DataW H × List MemPlace) (h1 : W.cells? 0 ad 5 = some cs') (h2 : DataW.trod enc Try.prog W 0 (fun _ => true) true n 82 cs' = some y) :
    ∃ r : Frm, ad.spot = none ∧ Frm.At 0 W ad.block ad.off r ∧ Frm.LB 9223372036854775807 r ∧ (∀ j, j < r.loc.length → 0 ≤ r.loc.getD j 0 ∧ r.loc.getD j 0 ≤ 18446744073709551615) := by
  obtain ⟨_, hlen, hcell⟩ := World.cells?_some h1
  obtain ⟨r, a1, c1, a2, c2, e, hi, hl, hp⟩ := vl2_Frm h2
  subst e
  obtain ⟨b, off, spot⟩ := ad
  have q0 := hcell 0 (by omega)
  have hspot : spot = none := by simpa [Addr.add] using World.cell?_spot (a := Addr.add ⟨b, off, spot⟩ 0) q0
  subst hspot
  have q1 := hcell 1 (by omega)
  have q2 := hcell 2 (by omega)
  have q3 := hcell 3 (by omega)
  have q4 := hcell 4 (by omega)
  simp only [Addr.add_lit] at q0 q1 q2 q3 q4
  exact ⟨r, rfl, ⟨a1, c1, a2, c2, ⟨by simpa using q0, by simpa using q1, by simpa using q2, by simpa using q3, by simpa using q4⟩, hi⟩, hl, hp⟩
set_option maxHeartbeats 2000000 in
theorem vl2_Sta {H : Type} {enc : TypeId × Value → H} {W : World} {n : Nat} {cs : List Value} {y : DataW H × List MemPlace} (h : DataW.trod enc Try.prog W 0 (fun _ => true) true n 25 cs = some y) :
    ∃ (r : Sta) (a1 : Option Addr) (c1 : Nat) (a2 : Option Addr) (c2 : Nat), cs = [.int .i64 r.st, .int .i64 r.tr, .slice a1 r.stk.length c1, .slice a2 r.frs.length c2] ∧ Sta.Is 0 W r a1 a2 ∧ Sta.LB 9223372036854775807 r ∧ (r.Vs) := by
  obtain ⟨xs, k, hk, hxy, hcl, hxl, hf⟩ := DataW.trod_struct Try.underlying25 h
  rw [ko_Sta] at hcl
  match xs, hxl, cs, hcl with
  | [y0, y1, y2, y3], _, [v0, v1, v2, v3], _ =>
    have g0 := hf 0 _ rfl
    have g1 := hf 1 _ rfl
    have g2 := hf 2 _ rfl
    have g3 := hf 3 _ rfl
    simp [ko2, ko4, kou, kow, ko_Lab, kl_Lab, ko_Frm, kl_Frm, ko_Sta] at g0 g1 g2 g3
    obtain ⟨n0, e0, _, _⟩ := DataW.trod_int Try.underlying2 g0
    simp at e0
    subst e0
    obtain ⟨n1, e1, _, _⟩ := DataW.trod_int Try.underlying2 g1
    simp at e1
    subst e1
    obtain ⟨p2, d2, n2, e2, l2, h2, t2⟩ := vl2_words g2
    subst e2
    obtain ⟨p3, d3, n3, e3, l3, h3, z3⟩ := open_list Frm.z (fun b o x => Frm.At 0 W b o x) (fun x => Frm.LB 9223372036854775807 x ∧ (∀ j, j < x.loc.length → 0 ≤ x.loc.getD j 0 ∧ x.loc.getD j 0 ≤ 18446744073709551615)) Try.underlying23 ko_Frm (fun ad cs' n y h1 h2 => ea2_Frm ad cs' n y h1 h2) g3
    subst e3
    exact ⟨⟨n0, n1, n2, n3⟩, p2, d2, p3, d3, rfl, ⟨h2, h3⟩, ⟨big l2, ⟨big l3, fun i hi => (z3 i hi).1⟩⟩, ⟨t2, fun i hi => (z3 i hi).2⟩⟩
end Go.Proofs.Ytfaajmhmcdoibaa
