import Derived.Test.YtfaajmhmcdoibaaGs3
import Derived.Test.YtfaajmhmcdoibaaWq13
set_option linter.all false
set_option linter.unusedVariables false
namespace Go.Proofs.Ytfaajmhmcdoibaa
open Go.RowKit Go.Sort
set_option maxRecDepth 100000
theorem gs_logic2 {bs : List Int} {x : Sta} {l' : List Int} {b' : Bool} (h : RP staE staO' ⟨0, 0, [], []⟩ sSz 2 (bs.drop 2) false x l' b') (h2 : 2 ≤ bs.length) : (b' = true → ∀ y : Sta, y.Vs → imgM y ≠ bs) ∧ (∀ y : Sta, y.Vs → imgM y = bs → x = y) := by
  have hb : bs ≠ [] := fun e => by rw [e] at h2; simp at h2
  have key : ∀ y : Sta, y.Vs → imgM y = bs → x = y ∧ b' = false := fun y hv hy => by
    obtain ⟨ho, hbs⟩ := img_some hy hb
    have hl : bs.drop 2 = staE y ++ [] := by rw [hbs]; simp
    obtain ⟨e, _, e2⟩ := h.back y [] (sta_ok ho hv) hl rfl
    exact ⟨e, e2⟩
  refine ⟨fun hb' y hv hy => ?_, fun y hv hy => (key y hv hy).1⟩
  have := (key y hv hy).2
  rw [hb'] at this
  cases this
/-- What the model's GetState answers. -/
def GsQ (bs : List Int) (A : Nat) (w' : World) (v : Value) : Prop := (v = .agg #[.bool false, .int .i64 0, .int .i64 0, .slice none 0 0, .slice none 0 0] ∧ ∀ y : Sta, y.Vs → bs ≠ [] → imgM y ≠ bs) ∨ (∃ st tr ws xs v1 v2 M, v = .agg #[.bool true, .int .i64 st, .int .i64 tr, v1, v2] ∧ StH w' A M ws xs v1 v2 ∧ bs ≠ [] ∧ imgM ⟨st, tr, ws, xs.map (·.1)⟩ = bs ∧ ∀ y : Sta, y.Vs → imgM y = bs → (⟨st, tr, ws, xs.map (·.1)⟩ : Sta) = y)
theorem lit1 (w : World) (cs : List Value) (t : TypeId) : ∀ j u, cs[j]? = some u → (w.alloc (.cells cs.toArray t)).cell? ((⟨w.heap.size, 0, none⟩ : Addr).add j) = some u := by
  intro j u hu
  rw [show (⟨w.heap.size, 0, none⟩ : Addr).add j = ⟨w.heap.size, j, none⟩ by unfold Addr.add; split <;> simp_all]
  exact cell_new rfl (by simpa using hu)
theorem Sb.bad {w0 w : World} {P : Nat} {bs : List Int} {p : Nat} {b : Bool} (h : Sb w0 w P bs p b) : w.cell? ⟨P, 2, none⟩ = some (.bool b) := by
  obtain ⟨ab, ao, c, h1, h2, h3, -⟩ := h; exact h3
theorem Sb.bel {w0 w : World} {P : Nat} {bs : List Int} {p : Nat} {b : Bool} (h : Sb w0 w P bs p b) : Below w0.heap.size w0 w := by
  obtain ⟨ab, ao, c, h1, h2, h3, h4, h5, h6, h7, h8, h9, h10⟩ := h; exact h8
/-- What is known at the end of the reading. -/
structure EndP (w : World) (bs : List Int) (R0 : Nat) (T : Nat) (st tr : Int) (ws : List Int) (xs : List (Frm × Value × Value)) (v1 v : Value) (b1 : Bool) (W : World) : Prop where
  bk : Bk W R0 [.bool false, .int .i64 0, .int .i64 0, .slice none 0 0, .slice none 0 0]
  box : Bk W T [.int .i64 st, .int .i64 tr, v1, v]
  bel : Below w.heap.size w W
  sth : ∃ M, StH W (w.heap.size + 1) M ws xs v1 v
  sz : sSz ⟨st, tr, ws, xs.map (·.1)⟩ ≤ 1000002
  no : b1 = true → ∀ y : Sta, y.Vs → imgM y ≠ bs
  uniq : ∀ y : Sta, y.Vs → imgM y = bs → (⟨st, tr, ws, xs.map (·.1)⟩ : Sta) = y
theorem end_of {w W1 W WT : World} {bs : List Int} {R0 P T A : Nat} {st tr N : Int} {ws : List Int} {xs : List (Frm × Value × Value)} {v1 : Value} {pa pb pc : Nat} {ba bb bc : Bool} (h2 : 2 ≤ bs.length) (hl : bs.length ≤ 1000000)
    (hT : T ≠ P) (hR : R0 ≠ P ∧ R0 ≠ T) (h1 : NumR (bs.drop 2) false st (bs.drop pa) ba) (h1' : NumR (bs.drop pa) ba tr (bs.drop pb) bb) (hw : RP (listE (fx 8)) (listO okW) [] wSz 1 (bs.drop pb) bb ws (bs.drop pc) bc) (hrg : ∀ x ∈ ws, 0 ≤ x ∧ x ≤ 18446744073709551615)
    (hbk : Bk W1 R0 [.bool false, .int .i64 0, .int .i64 0, .slice none 0 0, .slice none 0 0]) (hown : WT.ownsRow A 85 1 v1 ws.length (ws.flatMap ceW)) (hA : w.heap.size + 1 ≤ A) (hPA : P < A) (hTA : T < A) (hAW : A ≤ WT.heap.size) (hK1 : Kq (fun k => k = P ∨ k = T) WT W1)
    {v : Value} {p1 : Nat} {b1 : Bool} (hS : Sb w W P bs p1 b1) (hB : Bk W T [.int .i64 st, .int .i64 tr, v1, v]) (hK : Kq (fun k => k = P ∨ k = T) W1 W) (ho : W.ownsRow W1.heap.size 54 5 v xs.length (xs.flatMap ceF)) (hLI : LI frmE frmO' fSz 1 (bs.drop pc) bc N (xs.map (·.1)) (bs.drop p1) b1) (hfs : FsI W W1.heap.size v.ownBlock xs) (hd : b1 = true ∨ N ≤ (xs.length : Int)) : EndP w bs R0 T st tr ws xs v1 v b1 W := by
  have hrp := ssta_rp h1 h1' hw (hLI.done (by simpa using hd))
  have hg := gs_logic2 hrp h2
  have s1 := hK1.size
  have s2 := hK.size
  have hq : ∀ q, v1.ownBlock = some q → A ≤ q ∧ q < WT.heap.size := fun q hq => hown.lt q hq
  refine ⟨hbk.kq hK (fun h => by omega), hB, hS.bel, ⟨W1.heap.size, ownS_down (ownS_of hown (fun q h => ?_)) hA, ho, hfs, fun q h => by have := hq q h; omega, ?_, hrg⟩, ?_, hg.1, hg.2⟩
  · have := hq q h
    exact (hK.block q (by omega) (fun h => by omega)).trans (hK1.block q (by omega) (fun h => by omega))
  · omega
  · have := hrp.szb
    simp only [List.length_drop] at this
    omega

end Go.Proofs.Ytfaajmhmcdoibaa

set_option linter.all false
set_option linter.unusedVariables false
namespace Go.Proofs.Ytfaajmhmcdoibaa
open Go.RowKit Go.Sort
set_option maxRecDepth 100000
set_option maxHeartbeats 4000000 in
theorem sget_no (v : Value) (bs : List Int) (w : World) (a : Option Addr) (c : Nat) (hv : v = .slice a bs.length c) (hs : bs.length < 2 ∨ 1000000 < bs.length) :
    Calls Try.prog 14 #[v] w fun e w' => ∃ v, e = .returned v ∧ GsQ bs w.heap.size w' v ∧ Below w.heap.size w w' := by
  subst hv
  have HN : Hid (∀ y : Sta, y.Vs → bs ≠ [] → imgM y ≠ bs) := fun y _ hn e => by
    have h1 := imgM_le y
    obtain ⟨_, h2⟩ := img_some e hn
    rw [e] at h1
    rw [h2] at hs h1
    simp only [List.length_append, List.length_cons, List.length_nil] at hs h1
    omega
  by_cases hbig : 1000000 < bs.length
  · have hh : ((bs.length : Nat) : Int) > 1000000 := by omega
    clear hs hbig
    go_enter Try.func14, Try.ntmps14
    go_upto_region 1 with fail
    refine wp_gen (fun W => Bk W w.heap.size [.bool false, .int .i64 0, .int .i64 0, .slice none 0 0, .slice none 0 0] ∧ Below w.heap.size w W) ⟨Bk.new, (Below.refl _ _).alloc (Nat.le_refl _) _⟩ ?_
    rintro W0 ⟨bk, hb0⟩
    have q0 : W0.cell? ⟨w.heap.size, 0, none⟩ = some (.bool false) := bk.2.1 0 _ rfl
    have q1 : W0.cell? ⟨w.heap.size, 1, none⟩ = some (.int .i64 0) := bk.2.1 1 _ rfl
    have q2 : W0.cell? ⟨w.heap.size, 2, none⟩ = some (.int .i64 0) := bk.2.1 2 _ rfl
    have q3 : W0.cell? ⟨w.heap.size, 3, none⟩ = some (.slice none 0 0) := bk.2.1 3 _ rfl
    have q4 : W0.cell? ⟨w.heap.size, 4, none⟩ = some (.slice none 0 0) := bk.2.1 4 _ rfl
    have fz := bk.2.2
    have HB := Hid.mk' (And.intro bk hb0)
    clear bk hb0
    go_wp2
    refine body_gen (fun U => Bk U w.heap.size [.bool false, .int .i64 0, .int .i64 0, .slice none 0 0, .slice none 0 0] ∧ Below w.heap.size w U) ⟨HB.out.1.set.set.set.set.set, ((((HB.out.2.setCell (Nat.le_refl _) _).setCell (Nat.le_refl _) _).setCell (Nat.le_refl _) _).setCell (Nat.le_refl _) _).setCell (Nat.le_refl _) _⟩ ?_
    rintro U ⟨bu, hbu⟩
    have s0 : U.cell? ⟨w.heap.size, 0, none⟩ = some (.bool false) := bu.2.1 0 _ rfl
    have s1 : U.cell? ⟨w.heap.size, 1, none⟩ = some (.int .i64 0) := bu.2.1 1 _ rfl
    have s2 : U.cell? ⟨w.heap.size, 2, none⟩ = some (.int .i64 0) := bu.2.1 2 _ rfl
    have s3 : U.cell? ⟨w.heap.size, 3, none⟩ = some (.slice none 0 0) := bu.2.1 3 _ rfl
    have s4 : U.cell? ⟨w.heap.size, 4, none⟩ = some (.slice none 0 0) := bu.2.1 4 _ rfl
    exact bodyPost_ret (v := .agg #[.bool false, .int .i64 0, .int .i64 0, .slice none 0 0, .slice none 0 0]) (by simp [results, Try.results14, go_sem, s0, s1, s2, s3, s4]) rfl ⟨_, rfl, .inl ⟨rfl, HN.out⟩, hbu⟩
  · have hh : ¬ ((bs.length : Nat) : Int) > 1000000 := by omega
    have hh2 : ((bs.length : Nat) : Int) < 2 := by omega
    clear hs hbig
    go_enter Try.func14, Try.ntmps14
    go_upto_region 1 with fail
    refine wp_gen (fun W => Bk W w.heap.size [.bool false, .int .i64 0, .int .i64 0, .slice none 0 0, .slice none 0 0] ∧ Below w.heap.size w W) ⟨Bk.new, (Below.refl _ _).alloc (Nat.le_refl _) _⟩ ?_
    rintro W0 ⟨bk, hb0⟩
    have q0 : W0.cell? ⟨w.heap.size, 0, none⟩ = some (.bool false) := bk.2.1 0 _ rfl
    have q1 : W0.cell? ⟨w.heap.size, 1, none⟩ = some (.int .i64 0) := bk.2.1 1 _ rfl
    have q2 : W0.cell? ⟨w.heap.size, 2, none⟩ = some (.int .i64 0) := bk.2.1 2 _ rfl
    have q3 : W0.cell? ⟨w.heap.size, 3, none⟩ = some (.slice none 0 0) := bk.2.1 3 _ rfl
    have q4 : W0.cell? ⟨w.heap.size, 4, none⟩ = some (.slice none 0 0) := bk.2.1 4 _ rfl
    have fz := bk.2.2
    have HB := Hid.mk' (And.intro bk hb0)
    clear bk hb0
    go_wp2
    refine body_gen (fun U => Bk U w.heap.size [.bool false, .int .i64 0, .int .i64 0, .slice none 0 0, .slice none 0 0] ∧ Below w.heap.size w U) ⟨HB.out.1.set.set.set.set.set, ((((HB.out.2.setCell (Nat.le_refl _) _).setCell (Nat.le_refl _) _).setCell (Nat.le_refl _) _).setCell (Nat.le_refl _) _).setCell (Nat.le_refl _) _⟩ ?_
    rintro U ⟨bu, hbu⟩
    have s0 : U.cell? ⟨w.heap.size, 0, none⟩ = some (.bool false) := bu.2.1 0 _ rfl
    have s1 : U.cell? ⟨w.heap.size, 1, none⟩ = some (.int .i64 0) := bu.2.1 1 _ rfl
    have s2 : U.cell? ⟨w.heap.size, 2, none⟩ = some (.int .i64 0) := bu.2.1 2 _ rfl
    have s3 : U.cell? ⟨w.heap.size, 3, none⟩ = some (.slice none 0 0) := bu.2.1 3 _ rfl
    have s4 : U.cell? ⟨w.heap.size, 4, none⟩ = some (.slice none 0 0) := bu.2.1 4 _ rfl
    exact bodyPost_ret (v := .agg #[.bool false, .int .i64 0, .int .i64 0, .slice none 0 0, .slice none 0 0]) (by simp [results, Try.results14, go_sem, s0, s1, s2, s3, s4]) rfl ⟨_, rfl, .inl ⟨rfl, HN.out⟩, hbu⟩

end Go.Proofs.Ytfaajmhmcdoibaa

set_option linter.all false
set_option linter.unusedVariables false
namespace Go.Proofs.Ytfaajmhmcdoibaa
open Go.RowKit Go.Sort
set_option maxRecDepth 100000
theorem box_new {w : World} {ab ao c : Nat} {bs : List Int} (t1 t2 t3 : TypeId) (h1 : bs.length ≤ 1000000) (h2 : 2 ≤ bs.length) (hH : ∀ i, i < bs.length → w.cell? ⟨ab, ao + i, none⟩ = some (.int .u8 (bs.getD i 0))) (hB : Byt bs) : (fun W => Bk W w.heap.size [.bool false, .int .i64 0, .int .i64 0, .slice none 0 0, .slice none 0 0] ∧ Fp w W (w.heap.size + 1) (w.heap.size + 1 + 1) bs [.int .i64 0, .int .i64 0, .slice none 0 0, .slice none 0 0] 2 false W) (((w.alloc (.cells [.bool false, .int .i64 0, .int .i64 0, .slice none 0 0, .slice none 0 0].toArray t1)).alloc (.cells [.slice (some ⟨ab, ao, none⟩) bs.length c, .int .i64 2, .bool false].toArray t2)).alloc (.cells [.int .i64 0, .int .i64 0, .slice none 0 0, .slice none 0 0].toArray t3)) := by
  have e1 : (w.alloc (.cells [.bool false, .int .i64 0, .int .i64 0, .slice none 0 0, .slice none 0 0].toArray t1)).heap.size = w.heap.size + 1 := by simp
  have e2 : ((w.alloc (.cells [.bool false, .int .i64 0, .int .i64 0, .slice none 0 0, .slice none 0 0].toArray t1)).alloc (.cells [.slice (some ⟨ab, ao, none⟩) bs.length c, .int .i64 2, .bool false].toArray t2)).heap.size = w.heap.size + 1 + 1 := by simp
  have hbel : Below w.heap.size w (((w.alloc (.cells [.bool false, .int .i64 0, .int .i64 0, .slice none 0 0, .slice none 0 0].toArray t1)).alloc (.cells [.slice (some ⟨ab, ao, none⟩) bs.length c, .int .i64 2, .bool false].toArray t2)).alloc (.cells [.int .i64 0, .int .i64 0, .slice none 0 0, .slice none 0 0].toArray t3)) := (((Below.refl _ _).alloc (Nat.le_refl _) _).alloc (by simp) _).alloc (by simp; omega) _
  have bR : Bk (((w.alloc (.cells [.bool false, .int .i64 0, .int .i64 0, .slice none 0 0, .slice none 0 0].toArray t1)).alloc (.cells [.slice (some ⟨ab, ao, none⟩) bs.length c, .int .i64 2, .bool false].toArray t2)).alloc (.cells [.int .i64 0, .int .i64 0, .slice none 0 0, .slice none 0 0].toArray t3)) (w.heap.size + 1) [.slice (some ⟨ab, ao, none⟩) bs.length c, .int .i64 2, .bool false] := by
    have := (Bk.new (w := w.alloc (.cells [.bool false, .int .i64 0, .int .i64 0, .slice none 0 0, .slice none 0 0].toArray t1)) (cs := [.slice (some ⟨ab, ao, none⟩) bs.length c, .int .i64 2, .bool false]) (t := t2)).past (o := .cells [.int .i64 0, .int .i64 0, .slice none 0 0, .slice none 0 0].toArray t3)
    rw [e1] at this
    exact this
  have bT : Bk (((w.alloc (.cells [.bool false, .int .i64 0, .int .i64 0, .slice none 0 0, .slice none 0 0].toArray t1)).alloc (.cells [.slice (some ⟨ab, ao, none⟩) bs.length c, .int .i64 2, .bool false].toArray t2)).alloc (.cells [.int .i64 0, .int .i64 0, .slice none 0 0, .slice none 0 0].toArray t3)) (w.heap.size + 1 + 1) [.int .i64 0, .int .i64 0, .slice none 0 0, .slice none 0 0] := by
    have := (Bk.new (w := (w.alloc (.cells [.bool false, .int .i64 0, .int .i64 0, .slice none 0 0, .slice none 0 0].toArray t1)).alloc (.cells [.slice (some ⟨ab, ao, none⟩) bs.length c, .int .i64 2, .bool false].toArray t2)) (cs := [.int .i64 0, .int .i64 0, .slice none 0 0, .slice none 0 0]) (t := t3))
    rw [e2] at this
    exact this
  refine ⟨Bk.new.past.past, ⟨⟨ab, ao, c, bR.2.1 0 _ rfl, bR.2.1 1 _ rfl, bR.2.1 2 _ rfl, bR.2.2, h1, hH, byt_allB hB, hbel, by omega, h2⟩, bT, Kq.refl _ _, by omega, by omega⟩⟩

end Go.Proofs.Ytfaajmhmcdoibaa
