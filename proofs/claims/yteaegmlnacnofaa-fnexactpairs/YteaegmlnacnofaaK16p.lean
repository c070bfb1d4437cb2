import Derived.Test.YteaegmlnacnofaaPr7
import Derived.Deep.Slices
import Derived.ProofKit
import Derived.OpenShut
set_option linter.all false
set_option linter.unusedVariables false
namespace Go.Proofs.Yteaegmlnacnofaa
open Go.RowKit Go.ChangeShapes Go.WideShapes Go.ChangeAt
set_option maxRecDepth 100000
theorem c2' : Try.prog.cellsOf 2 = 1 := by kernel_rfl
theorem c57' : Try.prog.cellsOf 23 = 1 := by kernel_rfl
theorem c27' : Try.prog.cellsOf 24 = 1 := by kernel_rfl
theorem c59' : Try.prog.cellsOf 81 = 5 := by kernel_rfl
theorem has_take {W : World} {a : Addr} {len : Nat} {zs : List Int} (hl : len ≤ zs.length) (hc : ∀ i, i < zs.length → W.cell? (a.add i) = some (.int .i64 (zs.getD i 0))) : Has W (some a) (zs.take len) := by
  by_cases h0 : len = 0
  · subst h0; exact .inl (by simp)
  · obtain ⟨b, off, spot⟩ := a
    have h1 := hc 0 (by omega)
    have hspot : spot = none := by simpa [Addr.add] using World.cell?_spot h1
    subst hspot
    refine .inr ⟨b, off, rfl, fun i hi => ?_⟩
    have hi' : i < len := by simp at hi; omega
    have h2 := hc i (by omega)
    have e : (zs.take len).getD i 0 = zs.getD i 0 := by simp [List.getD, hi']
    rw [e]
    rwa [Addr.add_lit] at h2
theorem open_in {H : Type} {enc : TypeId × Value → H} {W : World} {n : Nat} {ad : Addr} {cs' : List Value} {y : DataW H × List MemPlace} (h1 : W.cells? 0 ad 5 = some cs') (h2 : DataW.trod enc Try.prog W 0 (fun _ => true) true n 81 cs' = some y) :
    ∃ x : In, ad.spot = none ∧ InAt W ad.block ad.off x ∧ x.l.length ≤ maxLen ∧ 0 ≤ x.v := by
  obtain ⟨_, hlen, hcell⟩ := World.cells?_some h1
  obtain ⟨xs, k, hk, hxy, _, hxl, hf⟩ := DataW.trod_struct Try.underlying81 h2
  match xs, hxl, cs', hlen with
  | [y0, y1, y2, y3, y4], _, [v0, v1, v2, v3, v4], _ =>
    have g0 := hf 0 _ rfl
    have g1 := hf 1 _ rfl
    have g2 := hf 2 _ rfl
    have g3 := hf 3 _ rfl
    have g4 := hf 4 _ rfl
    simp [c2', c57', c27'] at g0 g1 g2 g3 g4
    obtain ⟨n0, e0, _, _⟩ := DataW.trod_int Try.underlying2 g0
    obtain ⟨n1, e1, _, _⟩ := DataW.trod_int Try.underlying2 g1
    obtain ⟨n2, e2, _, _⟩ := DataW.trod_int Try.underlying2 g2
    obtain ⟨n3, e3, _, w3⟩ := DataW.trod_int Try.underlying23 g3
    simp at e0 e1 e2 e3
    subst e0 e1 e2 e3
    obtain ⟨hv, _⟩ := bounds_u64 w3
    have q0 := hcell 0 (by omega)
    have q1 := hcell 1 (by omega)
    have q2 := hcell 2 (by omega)
    have q3 := hcell 3 (by omega)
    have q4 := hcell 4 (by omega)
    obtain ⟨b, off, spot⟩ := ad
    have hspot : spot = none := by simpa [Addr.add] using World.cell?_spot (a := Addr.add ⟨b, off, spot⟩ 0) q0
    subst hspot
    simp only [Addr.add_lit] at q0 q1 q2 q3 q4
    have main : ∀ (la : Option Addr) (len lc : Nat) (l : List Int), v4 = .slice la len lc → l.length = len → l.length ≤ maxLen → Has W la l → ∃ x : In, InAt W b off x ∧ x.l.length ≤ maxLen ∧ 0 ≤ x.v := by
      intro la len lc l hv4 hll hlm hH
      subst hv4 hll
      exact ⟨⟨n0, n1, n2, n3, l⟩, ⟨la, lc, by simpa using q0, by simpa using q1, by simpa using q2, by simpa using q3, by simpa using q4, hH⟩, hlm, hv⟩
    rcases open_ints Try.underlying24 Try.underlying2 c2' g4 with ⟨hcs, _⟩ | ⟨x, len, cap, zs, hcs, _, hl, hm, hz, _, hc, _⟩
    · simp at hcs
      obtain ⟨x, r⟩ := main none 0 0 [] hcs rfl (Nat.zero_le _) (.inl rfl)
      exact ⟨x, rfl, r⟩
    · simp at hcs hz
      obtain ⟨x, r⟩ := main (some x) len cap (zs.take len) hcs (by simp; omega) (by simp; omega) (has_take (by omega) hc)
      exact ⟨x, rfl, r⟩
theorem open_ins {H : Type} {enc : TypeId × Value → H} {W : World} {a : Option Addr} {len cap : Nat} {d : DataW H} {p : List MemPlace} (h : DataW.Trod enc Try.prog W 0 (fun _ => true) true 36 (.slice a len cap) d p) :
    ∃ xs : List In, xs.length = len ∧ len ≤ maxLen ∧ Lst W a xs ∧ ∀ i, (xs.getD i I0).l.length ≤ maxLen ∧ 0 ≤ (xs.getD i I0).v := by
  obtain ⟨fuel, hf⟩ := h
  rcases Go.Deep.open_slice Try.underlying36 hf with ⟨hcs, _⟩ | ⟨ad, l, c, m, n, D, Pl, hcs, _, hl, hm, hmm, _, hx⟩
  · simp [Value.cells] at hcs
    obtain ⟨rfl, rfl, rfl⟩ := hcs
    exact ⟨[], rfl, Nat.zero_le _, .inl rfl, fun i => by simp [I0]⟩
  · simp [Value.cells] at hcs
    obtain ⟨rfl, rfl, rfl⟩ := hcs
    simp only [if_true] at hmm
    subst hmm
    have each : ∀ i, i < len → ∃ x : In, (ad.add (i * 5)).spot = none ∧ InAt W (ad.add (i * 5)).block (ad.add (i * 5)).off x ∧ x.l.length ≤ maxLen ∧ 0 ≤ x.v := by
      intro i hi
      obtain ⟨cs', h1, h2⟩ := hx i (by omega)
      rw [c59'] at h1
      exact open_in h1 h2
    obtain ⟨q, hq⟩ : ∃ q : Nat → In, ∀ i, i < len → (ad.add (i * 5)).spot = none ∧ InAt W (ad.add (i * 5)).block (ad.add (i * 5)).off (q i) ∧ (q i).l.length ≤ maxLen ∧ 0 ≤ (q i).v :=
      ⟨fun i => if h : i < len then Classical.choose (each i h) else I0, fun i hi => by simp only [hi, dif_pos]; exact Classical.choose_spec (each i hi)⟩
    have at_i : ∀ i, i < len → ((List.range len).map q).getD i I0 = q i := fun i hi => by simp [List.getD, hi]
    refine ⟨(List.range len).map q, by simp, by omega, ?_, fun i => ?_⟩
    · by_cases h0 : len = 0
      · subst h0; exact .inl (by simp)
      · obtain ⟨b, off, spot⟩ := ad
        have hspot : spot = none := by simpa [Addr.add] using (hq 0 (by omega)).1
        subst hspot
        refine .inr ⟨b, off, rfl, fun i hi => ?_⟩
        have hi' : i < len := by simpa using hi
        rw [at_i i hi']
        have := (hq i hi').2.1
        rwa [Addr.add_lit] at this
    · by_cases hi : i < len
      · rw [at_i i hi]; exact (hq i hi).2.2
      · have : ((List.range len).map q).getD i I0 = I0 := by simp [List.getD, hi]
        rw [this]; simp [I0]
end Go.Proofs.Yteaegmlnacnofaa
