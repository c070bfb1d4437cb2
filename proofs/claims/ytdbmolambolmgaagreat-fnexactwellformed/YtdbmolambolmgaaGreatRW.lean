import Derived.Test.YtdbmolambolmgaaGreatW14
import Derived.Test.YtdbmolambolmgaaGreatRq
import Derived.Test.YtdbmolambolmgaaGreatRz
import Derived.Test.YtdbmolambolmgaaGreatR3g
import Derived.Deep.RegionWith
import Derived.Deep.CutRange
import Derived.Deep.Slices
import Derived.ProofKit
import Derived.OpenShut
import Derived.Test.YtdbmolambolmgaaGreatRows
import Derived.WalkKit
import Derived.ShutString
import Derived.ChangeOld
import Derived.Below
set_option linter.all false
set_option linter.unusedVariables false
namespace Go.Proofs.YtdbmolambolmgaaGreat
open Go.RowKit Go.Sort
theorem szs_nn (x : Mod) (n : Nat) : 0 ≤ (szs x).getD n 0 := by
  by_cases h : n < (szs x).length
  · have hm : (szs x)[n] ∈ szs x := List.getElem_mem h
    have hall : ∀ z ∈ szs x, 0 ≤ z := by
      intro z hz
      simp only [szs, List.mem_cons, List.not_mem_nil, or_false] at hz
      rcases hz with rfl | rfl | rfl | rfl | rfl | rfl | rfl | rfl | rfl | rfl | rfl | rfl <;> first | omega | (split <;> omega)
    have := hall _ hm
    simpa [List.getD, List.getElem?_eq_getElem h] using this
  · simp [List.getD, List.getElem?_eq_none (Nat.le_of_not_lt h)]
theorem one_cus (x : Mod) (k : Nat) (n : Int) (h0 : 0 ≤ n) (hk0 : k = 0 → n = 0) (hk1 : 0 < k → n = (x.customs.getD (k - 1) Cus.z).aft) :
    ((((x.customs.getD k Cus.z).aft == 0 || writ x (x.customs.getD k Cus.z).aft) && (decide (n ≤ (x.customs.getD k Cus.z).aft) && nameB (x.customs.getD k Cus.z).nm)) = true) ↔ cuB x k = true := by
  unfold cuB writ
  generalize (x.customs.getD k Cus.z).aft = a at *
  generalize nameB (x.customs.getD k Cus.z).nm = nm
  generalize (x.customs.getD (k - 1) Cus.z).aft = p at *
  have hs := szs_nn x a.toNat
  generalize hz : (szs x).getD a.toNat 0 = z at *
  simp only [Bool.and_eq_true, Bool.or_eq_true, beq_iff_eq, decide_eq_true_eq, Bool.not_eq_true', Bool.and_eq_false_iff, decide_eq_false_iff_not, beq_eq_false_iff_ne]
  constructor
  · rintro ⟨ha, hn, hm⟩
    refine ⟨?_, hm, ?_, ?_⟩
    · rcases ha with h | ⟨h, _⟩ <;> omega
    · rcases ha with h | ⟨_, h⟩
      · left; omega
      · right; omega
    · by_cases hk : 0 < k
      · right; have := hk1 hk; omega
      · left; exact hk
  · rintro ⟨ha, hm, h1, h2⟩
    refine ⟨?_, ?_, hm⟩
    · by_cases h : a = 0
      · exact .inl h
      · right
        rcases h1 with h1 | h1
        · omega
        · exact ⟨by omega, by omega⟩
    · rcases h2 with h2 | h2
      · have := hk0 (by omega); omega
      · by_cases hk : 0 < k
        · have := hk1 hk; omega
        · have := hk0 (by omega); omega
theorem cus_all (x : Mod) : ∀ (d k : Nat) (n : Int), x.customs.length - k = d → 0 ≤ n → (k = 0 → n = 0) → (0 < k → n = (x.customs.getD (k - 1) Cus.z).aft) →
    (cusM x (x.customs.drop k) n = true ↔ ∀ j, k ≤ j → j < x.customs.length → cuB x j = true)
  | 0, k, n, hd, h0, hk0, hk1 => by
    have e : x.customs.drop k = [] := List.drop_of_length_le (by omega)
    rw [e]
    simp only [cusM, true_iff]
    intro j h1 h2; omega
  | d + 1, k, n, hd, h0, hk0, hk1 => by
    have hlt : k < x.customs.length := by omega
    rw [cus_at x x.customs k n hlt]
    have e := one_cus x k n h0 hk0 hk1
    constructor
    · intro h
      simp only [Bool.and_eq_true] at h e
      obtain ⟨h1, h2, h3, h4⟩ := h
      have hk := e.1 ⟨h1, h2, h3⟩
      have hn : n ≤ (x.customs.getD k Cus.z).aft := of_decide_eq_true h2
      have ih := (cus_all x d (k + 1) (x.customs.getD k Cus.z).aft (by omega) (by omega) (by omega) (by intro _; simp)).1 h4
      intro j hj1 hj2
      rcases (by omega : j = k ∨ k + 1 ≤ j) with rfl | h
      · exact hk
      · exact ih j h hj2
    · intro h
      have hk := e.2 (h k (Nat.le_refl _) hlt)
      simp only [Bool.and_eq_true] at hk ⊢
      obtain ⟨h1, h2, h3⟩ := hk
      have hn : n ≤ (x.customs.getD k Cus.z).aft := of_decide_eq_true h2
      have ih := (cus_all x d (k + 1) (x.customs.getD k Cus.z).aft (by omega) (by omega) (by omega) (by intro _; simp)).2 (fun j hj1 hj2 => h j (by omega) hj2)
      exact ⟨h1, h2, h3, ih⟩
theorem cusA_eq (x : Mod) : cusA x = cusM x x.customs 0 := by
  have h := cus_all x _ 0 0 rfl (by omega) (fun _ => rfl) (fun h => by omega)
  rw [List.drop_zero] at h
  rw [Bool.eq_iff_iff, h, cusA, List.all_eq_true]
  constructor
  · intro hh j _ hj; exact hh j (by simpa using hj)
  · intro hh j hj; exact hh j (Nat.zero_le _) (by simpa using hj)
theorem swf_eq (x : Mod) : swfB x = wfB x := by
  unfold swfB hdB gpB wfB stB
  rw [cusA_eq, List.all_append]
  ac_rfl
end Go.Proofs.YtdbmolambolmgaaGreat

set_option linter.unusedVariables false
namespace Go.Proofs.YtdbmolambolmgaaGreat
open Go.RowKit Go.Sort
set_option maxRecDepth 100000
/-- A module's value, and what hangs on it. -/
def MV (w : World) (v : Value) (x : Mod) : Prop := ∃ a1 c1 a2 c2 a3 c3 a4 c4 a5 c5 a6 c6 a7 c7 a8 c8 a9 c9 a10 c10 a11 c11, v = .agg #[.slice a1 x.types.length c1, .slice a2 x.imps.length c2, .slice a3 x.funcs.length c3, .slice a4 x.tabs.length c4, .slice a5 x.mems.length c5, .slice a6 x.globs.length c6, .slice a7 x.exps.length c7, .bool x.hasS, .int .i64 x.start, .slice a8 x.elems.length c8, .slice a9 x.codes.length c9, .slice a10 x.datas.length c10, .slice a11 x.customs.length c11] ∧ Mod.Is 0 w x a1 a2 a3 a4 a5 a6 a7 a8 a9 a10 a11
theorem MV.keep {w w1 : World} {v : Value} {x : Mod} (h : MV w v x) (hb : Below w.heap.size w w1) : MV w1 v x := by
  obtain ⟨a1, c1, a2, c2, a3, c3, a4, c4, a5, c5, a6, c6, a7, c7, a8, c8, a9, c9, a10, c10, a11, c11, e, hi⟩ := h
  exact ⟨a1, c1, a2, c2, a3, c3, a4, c4, a5, c5, a6, c6, a7, c7, a8, c8, a9, c9, a10, c10, a11, c11, e, hi.up (up_below hb)⟩
theorem toMV_c (v : Value) (x : Mod) (w : World) (hl : Mod.LB 1048576 x) (h : MV w v x) :
    Calls Tryz.prog 8 #[v] w fun e w' => ∃ v', e = .returned v' ∧ MV w' v' x ∧ Below w.heap.size w w' := by
  obtain ⟨a1, c1, a2, c2, a3, c3, a4, c4, a5, c5, a6, c6, a7, c7, a8, c8, a9, c9, a10, c10, a11, c11, rfl, hi⟩ := h
  refine (rtMod_c x a1 c1 a2 c2 a3 c3 a4 c4 a5 c5 a6 c6 a7 c7 a8 c8 a9 c9 a10 c10 a11 c11 w hi hl).mono ?_
  rintro e w' ⟨b1, b2, b3, b4, b5, b6, b7, b8, b9, b10, b11, rfl, hi', hb⟩
  exact ⟨_, rfl, ⟨_, _, _, _, _, _, _, _, _, _, _, _, _, _, _, _, _, _, _, _, _, _, rfl, hi'.mono (Nat.zero_le _)⟩, hb⟩
theorem szMV_c (v : Value) (x : Mod) (w : World) (hl : Mod.LB 9223372036854775807 x) (h : MV w v x) :
    Calls Tryz.prog 6 #[v, .int .i64 1048576] w fun e w' => ∃ r : Int, e = .returned (.int .i64 r) ∧ Below w.heap.size w w' ∧ (r = -1 ∨ (0 ≤ r ∧ r ≤ 1048576 ∧ Mod.LB 1048576 x)) := by
  obtain ⟨a1, c1, a2, c2, a3, c3, a4, c4, a5, c5, a6, c6, a7, c7, a8, c8, a9, c9, a10, c10, a11, c11, rfl, hi⟩ := h
  exact rzMod_c x a1 c1 a2 c2 a3 c3 a4 c4 a5 c5 a6 c6 a7 c7 a8 c8 a9 c9 a10 c10 a11 c11 1048576 w (by omega) (by omega) hi hl
theorem eqMV_c (v v' : Value) (x : Mod) (w : World) (hl : Mod.LB 1048576 x) (h : MV w v x) (h' : MV w v' x) :
    Calls Tryz.prog 10 #[v, v'] w fun e w' => e = .returned (.bool true) ∧ Below w.heap.size w w' := by
  obtain ⟨a1, c1, a2, c2, a3, c3, a4, c4, a5, c5, a6, c6, a7, c7, a8, c8, a9, c9, a10, c10, a11, c11, rfl, hi⟩ := h
  obtain ⟨a1', c1', a2', c2', a3', c3', a4', c4', a5', c5', a6', c6', a7', c7', a8', c8', a9', c9', a10', c10', a11', c11', rfl, hi'⟩ := h'
  exact reMod_c x a1 c1 a2 c2 a3 c3 a4 c4 a5 c5 a6 c6 a7 c7 a8 c8 a9 c9 a10 c10 a11 c11 a1' c1' a2' c2' a3' c3' a4' c4' a5' c5' a6' c6' a7' c7' a8' c8' a9' c9' a10' c10' a11' c11' w hi hi' hl
theorem swfMV_c (v : Value) (x : Mod) (w : World) (hl : Mod.LB 1048576 x) (hp : x.Pos) (h : MV w v x) :
    Calls Tryz.prog 7 #[v] w fun e w' => e = .returned (.bool (wfB x)) ∧ Below w.heap.size w w' := by
  obtain ⟨a1, c1, a2, c2, a3, c3, a4, c4, a5, c5, a6, c6, a7, c7, a8, c8, a9, c9, a10, c10, a11, c11, rfl, hi⟩ := h
  rw [← swf_eq]
  exact swf_c x a1 c1 a2 c2 a3 c3 a4 c4 a5 c5 a6 c6 a7 c7 a8 c8 a9 c9 a10 c10 a11 c11 w hi hl hp
theorem iwfMV_c (v : Value) (x : Mod) (w : World) (hl : Mod.LB 1048576 x) (hp : x.Pos) (h : MV w v x) :
    Calls Tryz.prog 9 #[v] w fun e w' => e = .returned (.bool (wfB x)) ∧ Below w.heap.size w w' := by
  obtain ⟨a1, c1, a2, c2, a3, c3, a4, c4, a5, c5, a6, c6, a7, c7, a8, c8, a9, c9, a10, c10, a11, c11, rfl, hi⟩ := h
  exact iwf_c x a1 c1 a2 c2 a3 c3 a4 c4 a5 c5 a6 c6 a7 c7 a8 c8 a9 c9 a10 c10 a11 c11 w hi hl hp
theorem qcells {W : World} {g : Nat} {cs : List Value} (h : Bk W g cs) : ∀ j v, cs[j]? = some v → W.cell? ⟨g, j, none⟩ = some v := h.2.1
set_option maxHeartbeats 8000000 in
theorem lawWF (x : Mod) (a1 : Option Addr) (c1 : Nat) (a2 : Option Addr) (c2 : Nat) (a3 : Option Addr) (c3 : Nat) (a4 : Option Addr) (c4 : Nat) (a5 : Option Addr) (c5 : Nat) (a6 : Option Addr) (c6 : Nat) (a7 : Option Addr) (c7 : Nat) (a8 : Option Addr) (c8 : Nat) (a9 : Option Addr) (c9 : Nat) (a10 : Option Addr) (c10 : Nat) (a11 : Option Addr) (c11 : Nat) (w : World) (hI : Mod.Is 0 w x a1 a2 a3 a4 a5 a6 a7 a8 a9 a10 a11) (hl : Mod.LB 9223372036854775807 x) (hp : x.Pos) :
    Calls Tryz.prog 3 #[.agg #[.slice a1 x.types.length c1, .slice a2 x.imps.length c2, .slice a3 x.funcs.length c3, .slice a4 x.tabs.length c4, .slice a5 x.mems.length c5, .slice a6 x.globs.length c6, .slice a7 x.exps.length c7, .bool x.hasS, .int .i64 x.start, .slice a8 x.elems.length c8, .slice a9 x.codes.length c9, .slice a10 x.datas.length c10, .slice a11 x.customs.length c11]] w fun e w' => e = .returned (.bool true) ∧ Below w.heap.size w w' := by
  have hv : MV w (.agg #[.slice a1 x.types.length c1, .slice a2 x.imps.length c2, .slice a3 x.funcs.length c3, .slice a4 x.tabs.length c4, .slice a5 x.mems.length c5, .slice a6 x.globs.length c6, .slice a7 x.exps.length c7, .bool x.hasS, .int .i64 x.start, .slice a8 x.elems.length c8, .slice a9 x.codes.length c9, .slice a10 x.datas.length c10, .slice a11 x.customs.length c11]) x := ⟨_, _, _, _, _, _, _, _, _, _, _, _, _, _, _, _, _, _, _, _, _, _, rfl, hI⟩
  have HV := Hid.mk' hv
  have KZ := Hid.mk' (fun (V : World) (h : Below w.heap.size w V) => szMV_c _ x V hl (HV.out.keep h))
  have PP := Hid.mk' hp
  clear hI hl hp hv
  go_enter Tryz.func3, Tryz.ntmps3
  go_upto_region 1 with fail
  refine wp_gen (fun W => Bk W w.heap.size [.slice a1 x.types.length c1, .slice a2 x.imps.length c2, .slice a3 x.funcs.length c3, .slice a4 x.tabs.length c4, .slice a5 x.mems.length c5, .slice a6 x.globs.length c6, .slice a7 x.exps.length c7, .bool x.hasS, .int .i64 x.start, .slice a8 x.elems.length c8, .slice a9 x.codes.length c9, .slice a10 x.datas.length c10, .slice a11 x.customs.length c11] ∧ Below w.heap.size w W) ⟨Bk.new, (Below.refl _ _).alloc (Nat.le_refl _) _⟩ ?_
  rintro W0 ⟨bb, hb⟩
  have q0 : W0.cell? ⟨w.heap.size, 0, none⟩ = some (.slice a1 x.types.length c1) := bb.2.1 0 _ rfl
  have q1 : W0.cell? ⟨w.heap.size, 1, none⟩ = some (.slice a2 x.imps.length c2) := bb.2.1 1 _ rfl
  have q2 : W0.cell? ⟨w.heap.size, 2, none⟩ = some (.slice a3 x.funcs.length c3) := bb.2.1 2 _ rfl
  have q3 : W0.cell? ⟨w.heap.size, 3, none⟩ = some (.slice a4 x.tabs.length c4) := bb.2.1 3 _ rfl
  have q4 : W0.cell? ⟨w.heap.size, 4, none⟩ = some (.slice a5 x.mems.length c5) := bb.2.1 4 _ rfl
  have q5 : W0.cell? ⟨w.heap.size, 5, none⟩ = some (.slice a6 x.globs.length c6) := bb.2.1 5 _ rfl
  have q6 : W0.cell? ⟨w.heap.size, 6, none⟩ = some (.slice a7 x.exps.length c7) := bb.2.1 6 _ rfl
  have q7 : W0.cell? ⟨w.heap.size, 7, none⟩ = some (.bool x.hasS) := bb.2.1 7 _ rfl
  have q8 : W0.cell? ⟨w.heap.size, 8, none⟩ = some (.int .i64 x.start) := bb.2.1 8 _ rfl
  have q9 : W0.cell? ⟨w.heap.size, 9, none⟩ = some (.slice a8 x.elems.length c8) := bb.2.1 9 _ rfl
  have q10 : W0.cell? ⟨w.heap.size, 10, none⟩ = some (.slice a9 x.codes.length c9) := bb.2.1 10 _ rfl
  have q11 : W0.cell? ⟨w.heap.size, 11, none⟩ = some (.slice a10 x.datas.length c10) := bb.2.1 11 _ rfl
  have q12 : W0.cell? ⟨w.heap.size, 12, none⟩ = some (.slice a11 x.customs.length c11) := bb.2.1 12 _ rfl
  have KZ0 := Hid.mk' (KZ.out _ hb)
  go_wp2_with fail
  with_reducible refine KZ0.out.mono ?_
  rintro e W1 ⟨r, rfl, b1, hr⟩
  have hb1 := hb.trans (b1.mono hb.size)
  have bb1 := bb.keep b1
  clear KZ0 KZ b1 hb bb q0 q1 q2 q3 q4 q5 q6 q7 q8 q9 q10 q11 q12
  rcases hr with rfl | ⟨r0, r1, hl⟩
  · clear bb1
    go_wp2
    go_ret
    exact ⟨rfl, hb1⟩
  have f : ¬ r < 0 := by omega
  have KT := Hid.mk' (fun (V : World) (h : Below w.heap.size w V) => toMV_c _ x V hl (HV.out.keep h))
  have KS := Hid.mk' (fun (v : Value) (V : World) (h : MV V v x) => swfMV_c v x V hl PP.out h)
  have KI := Hid.mk' (fun (v : Value) (V : World) (h : MV V v x) => iwfMV_c v x V hl PP.out h)
  have KE := Hid.mk' (fun (v v' : Value) (V : World) (h : MV V v x) (h' : MV V v' x) => eqMV_c v v' x V hl h h')
  clear hl PP
  generalize wfB x = cm at *
  have bb := bb1
  have hb := hb1
  clear bb1 hb1
  have q0 : W1.cell? ⟨w.heap.size, 0, none⟩ = some (.slice a1 x.types.length c1) := bb.2.1 0 _ rfl
  have q1 : W1.cell? ⟨w.heap.size, 1, none⟩ = some (.slice a2 x.imps.length c2) := bb.2.1 1 _ rfl
  have q2 : W1.cell? ⟨w.heap.size, 2, none⟩ = some (.slice a3 x.funcs.length c3) := bb.2.1 2 _ rfl
  have q3 : W1.cell? ⟨w.heap.size, 3, none⟩ = some (.slice a4 x.tabs.length c4) := bb.2.1 3 _ rfl
  have q4 : W1.cell? ⟨w.heap.size, 4, none⟩ = some (.slice a5 x.mems.length c5) := bb.2.1 4 _ rfl
  have q5 : W1.cell? ⟨w.heap.size, 5, none⟩ = some (.slice a6 x.globs.length c6) := bb.2.1 5 _ rfl
  have q6 : W1.cell? ⟨w.heap.size, 6, none⟩ = some (.slice a7 x.exps.length c7) := bb.2.1 6 _ rfl
  have q7 : W1.cell? ⟨w.heap.size, 7, none⟩ = some (.bool x.hasS) := bb.2.1 7 _ rfl
  have q8 : W1.cell? ⟨w.heap.size, 8, none⟩ = some (.int .i64 x.start) := bb.2.1 8 _ rfl
  have q9 : W1.cell? ⟨w.heap.size, 9, none⟩ = some (.slice a8 x.elems.length c8) := bb.2.1 9 _ rfl
  have q10 : W1.cell? ⟨w.heap.size, 10, none⟩ = some (.slice a9 x.codes.length c9) := bb.2.1 10 _ rfl
  have q11 : W1.cell? ⟨w.heap.size, 11, none⟩ = some (.slice a10 x.datas.length c10) := bb.2.1 11 _ rfl
  have q12 : W1.cell? ⟨w.heap.size, 12, none⟩ = some (.slice a11 x.customs.length c11) := bb.2.1 12 _ rfl
  have KT0 := Hid.mk' (KT.out _ hb)
  have BB := Hid.mk' bb
  clear bb
  go_wp2_with fail
  with_reducible refine KT0.out.mono ?_
  rintro e W2 ⟨v2, rfl, m2, b2⟩
  have hb2 := hb.trans (b2.mono hb.size)
  have bb2 := BB.out.keep b2
  have KS2 := Hid.mk' (KS.out _ _ m2)
  clear KT0 BB b2 hb q0 q1 q2 q3 q4 q5 q6 q7 q8 q9 q10 q11 q12 m2 KS
  go_wp2_with fail
  with_reducible refine KS2.out.mono ?_
  rintro e W3 ⟨rfl, b3⟩
  have hb := hb2.trans (b3.mono hb2.size)
  have bb := bb2.keep b3
  clear KS2 b3 bb2 hb2
  have q0 : W3.cell? ⟨w.heap.size, 0, none⟩ = some (.slice a1 x.types.length c1) := bb.2.1 0 _ rfl
  have q1 : W3.cell? ⟨w.heap.size, 1, none⟩ = some (.slice a2 x.imps.length c2) := bb.2.1 1 _ rfl
  have q2 : W3.cell? ⟨w.heap.size, 2, none⟩ = some (.slice a3 x.funcs.length c3) := bb.2.1 2 _ rfl
  have q3 : W3.cell? ⟨w.heap.size, 3, none⟩ = some (.slice a4 x.tabs.length c4) := bb.2.1 3 _ rfl
  have q4 : W3.cell? ⟨w.heap.size, 4, none⟩ = some (.slice a5 x.mems.length c5) := bb.2.1 4 _ rfl
  have q5 : W3.cell? ⟨w.heap.size, 5, none⟩ = some (.slice a6 x.globs.length c6) := bb.2.1 5 _ rfl
  have q6 : W3.cell? ⟨w.heap.size, 6, none⟩ = some (.slice a7 x.exps.length c7) := bb.2.1 6 _ rfl
  have q7 : W3.cell? ⟨w.heap.size, 7, none⟩ = some (.bool x.hasS) := bb.2.1 7 _ rfl
  have q8 : W3.cell? ⟨w.heap.size, 8, none⟩ = some (.int .i64 x.start) := bb.2.1 8 _ rfl
  have q9 : W3.cell? ⟨w.heap.size, 9, none⟩ = some (.slice a8 x.elems.length c8) := bb.2.1 9 _ rfl
  have q10 : W3.cell? ⟨w.heap.size, 10, none⟩ = some (.slice a9 x.codes.length c9) := bb.2.1 10 _ rfl
  have q11 : W3.cell? ⟨w.heap.size, 11, none⟩ = some (.slice a10 x.datas.length c10) := bb.2.1 11 _ rfl
  have q12 : W3.cell? ⟨w.heap.size, 12, none⟩ = some (.slice a11 x.customs.length c11) := bb.2.1 12 _ rfl
  have KT0 := Hid.mk' (KT.out _ hb)
  have BB := Hid.mk' bb
  clear bb
  go_wp2_with fail
  with_reducible refine KT0.out.mono ?_
  rintro e W4 ⟨v4, rfl, m4, b4⟩
  have hb4 := hb.trans (b4.mono hb.size)
  have bb4 := BB.out.keep b4
  clear KT0 BB b4 hb q0 q1 q2 q3 q4 q5 q6 q7 q8 q9 q10 q11 q12
  obtain ⟨b1, d1, b2, d2, b3, d3, b4, d4, b5, d5, b6, d6, b7, d7, b8, d8, b9, d9, b10, d10, b11, d11, rfl, hi4⟩ := m4
  have m5 : MV (W4.alloc (.cells #[.slice b1 x.types.length d1, .slice b2 x.imps.length d2, .slice b3 x.funcs.length d3, .slice b4 x.tabs.length d4, .slice b5 x.mems.length d5, .slice b6 x.globs.length d6, .slice b7 x.exps.length d7, .bool x.hasS, .int .i64 x.start, .slice b8 x.elems.length d8, .slice b9 x.codes.length d9, .slice b10 x.datas.length d10, .slice b11 x.customs.length d11] 46)) (.agg #[.slice b1 x.types.length d1, .slice b2 x.imps.length d2, .slice b3 x.funcs.length d3, .slice b4 x.tabs.length d4, .slice b5 x.mems.length d5, .slice b6 x.globs.length d6, .slice b7 x.exps.length d7, .bool x.hasS, .int .i64 x.start, .slice b8 x.elems.length d8, .slice b9 x.codes.length d9, .slice b10 x.datas.length d10, .slice b11 x.customs.length d11]) x := ⟨_, _, _, _, _, _, _, _, _, _, _, _, _, _, _, _, _, _, _, _, _, _, rfl, hi4.up (up_below ((Below.refl _ _).alloc (Nat.le_refl _) _))⟩
  have p5 : Bk (W4.alloc (.cells #[.slice b1 x.types.length d1, .slice b2 x.imps.length d2, .slice b3 x.funcs.length d3, .slice b4 x.tabs.length d4, .slice b5 x.mems.length d5, .slice b6 x.globs.length d6, .slice b7 x.exps.length d7, .bool x.hasS, .int .i64 x.start, .slice b8 x.elems.length d8, .slice b9 x.codes.length d9, .slice b10 x.datas.length d10, .slice b11 x.customs.length d11] 46)) W4.heap.size [.slice b1 x.types.length d1, .slice b2 x.imps.length d2, .slice b3 x.funcs.length d3, .slice b4 x.tabs.length d4, .slice b5 x.mems.length d5, .slice b6 x.globs.length d6, .slice b7 x.exps.length d7, .bool x.hasS, .int .i64 x.start, .slice b8 x.elems.length d8, .slice b9 x.codes.length d9, .slice b10 x.datas.length d10, .slice b11 x.customs.length d11] := Bk.new
  have bb5 : Bk (W4.alloc (.cells #[.slice b1 x.types.length d1, .slice b2 x.imps.length d2, .slice b3 x.funcs.length d3, .slice b4 x.tabs.length d4, .slice b5 x.mems.length d5, .slice b6 x.globs.length d6, .slice b7 x.exps.length d7, .bool x.hasS, .int .i64 x.start, .slice b8 x.elems.length d8, .slice b9 x.codes.length d9, .slice b10 x.datas.length d10, .slice b11 x.customs.length d11] 46)) w.heap.size [.slice a1 x.types.length c1, .slice a2 x.imps.length c2, .slice a3 x.funcs.length c3, .slice a4 x.tabs.length c4, .slice a5 x.mems.length c5, .slice a6 x.globs.length c6, .slice a7 x.exps.length c7, .bool x.hasS, .int .i64 x.start, .slice a8 x.elems.length c8, .slice a9 x.codes.length c9, .slice a10 x.datas.length c10, .slice a11 x.customs.length c11] := bb4.past
  have hb5 : Below w.heap.size w (W4.alloc (.cells #[.slice b1 x.types.length d1, .slice b2 x.imps.length d2, .slice b3 x.funcs.length d3, .slice b4 x.tabs.length d4, .slice b5 x.mems.length d5, .slice b6 x.globs.length d6, .slice b7 x.exps.length d7, .bool x.hasS, .int .i64 x.start, .slice b8 x.elems.length d8, .slice b9 x.codes.length d9, .slice b10 x.datas.length d10, .slice b11 x.customs.length d11] 46)) := hb4.alloc hb4.size _
  obtain ⟨W5, hW5⟩ : ∃ W5, W5 = W4.alloc (.cells #[.slice b1 x.types.length d1, .slice b2 x.imps.length d2, .slice b3 x.funcs.length d3, .slice b4 x.tabs.length d4, .slice b5 x.mems.length d5, .slice b6 x.globs.length d6, .slice b7 x.exps.length d7, .bool x.hasS, .int .i64 x.start, .slice b8 x.elems.length d8, .slice b9 x.codes.length d9, .slice b10 x.datas.length d10, .slice b11 x.customs.length d11] 46) := ⟨_, rfl⟩
  obtain ⟨g5, hg5⟩ : ∃ g5, g5 = W4.heap.size := ⟨_, rfl⟩
  rw [← hW5] at m5 p5 bb5 hb5
  rw [← hg5] at p5
  have HW5 := Hid.mk' hW5
  have HG5 := Hid.mk' hg5
  have M5 := Hid.mk' m5
  have P5 := Hid.mk' p5
  have BB5 := Hid.mk' bb5
  have KI5 := Hid.mk' (KI.out _ _ m5)
  clear hW5 hg5 m5 hi4 bb4 hb4 bb5 KI
  go_upto_region 7 with fail
  rw [← HW5.out, ← HG5.out]
  clear HW5 HG5
  have s0 : W5.cell? ⟨g5, 0, none⟩ = some (.slice b1 x.types.length d1) := p5.2.1 0 _ rfl
  have s1 : W5.cell? ⟨g5, 1, none⟩ = some (.slice b2 x.imps.length d2) := p5.2.1 1 _ rfl
  have s2 : W5.cell? ⟨g5, 2, none⟩ = some (.slice b3 x.funcs.length d3) := p5.2.1 2 _ rfl
  have s3 : W5.cell? ⟨g5, 3, none⟩ = some (.slice b4 x.tabs.length d4) := p5.2.1 3 _ rfl
  have s4 : W5.cell? ⟨g5, 4, none⟩ = some (.slice b5 x.mems.length d5) := p5.2.1 4 _ rfl
  have s5 : W5.cell? ⟨g5, 5, none⟩ = some (.slice b6 x.globs.length d6) := p5.2.1 5 _ rfl
  have s6 : W5.cell? ⟨g5, 6, none⟩ = some (.slice b7 x.exps.length d7) := p5.2.1 6 _ rfl
  have s7 : W5.cell? ⟨g5, 7, none⟩ = some (.bool x.hasS) := p5.2.1 7 _ rfl
  have s8 : W5.cell? ⟨g5, 8, none⟩ = some (.int .i64 x.start) := p5.2.1 8 _ rfl
  have s9 : W5.cell? ⟨g5, 9, none⟩ = some (.slice b8 x.elems.length d8) := p5.2.1 9 _ rfl
  have s10 : W5.cell? ⟨g5, 10, none⟩ = some (.slice b9 x.codes.length d9) := p5.2.1 10 _ rfl
  have s11 : W5.cell? ⟨g5, 11, none⟩ = some (.slice b10 x.datas.length d10) := p5.2.1 11 _ rfl
  have s12 : W5.cell? ⟨g5, 12, none⟩ = some (.slice b11 x.customs.length d11) := p5.2.1 12 _ rfl
  clear p5
  go_wp2_with fail
  with_reducible refine KI5.out.mono ?_
  rintro e W6 ⟨rfl, b6⟩
  have hb6 := hb5.trans (b6.mono hb5.size)
  have M6 := Hid.mk' (M5.out.keep b6)
  have P6 := Hid.mk' (P5.out.keep b6)
  have BB6 := Hid.mk' (BB5.out.keep b6)
  clear KI5 M5 P5 BB5 b6 hb5 s0 s1 s2 s3 s4 s5 s6 s7 s8 s9 s10 s11 s12
  have hcm : (cm != cm) = false := by simp
  go_upto_region 10 with fail
  have bE : Below W6.heap.size W6 W6.drew := ⟨rfl, rfl, rfl, Nat.le_refl _, fun k hk => rfl⟩
  have bD : Below w.heap.size w W6.drew := ⟨hb6.os, hb6.tape, hb6.output, hb6.size, hb6.block⟩
  go_cut [26] from 22 to 26 (fun s V => s = .bool false ∧ Below W6.heap.size W6 V)
  case first =>
    have p6 := P6.out
    have bb := BB6.out
    have q0 : W6.cell? ⟨w.heap.size, 0, none⟩ = some (.slice a1 x.types.length c1) := bb.2.1 0 _ rfl
    have q1 : W6.cell? ⟨w.heap.size, 1, none⟩ = some (.slice a2 x.imps.length c2) := bb.2.1 1 _ rfl
    have q2 : W6.cell? ⟨w.heap.size, 2, none⟩ = some (.slice a3 x.funcs.length c3) := bb.2.1 2 _ rfl
    have q3 : W6.cell? ⟨w.heap.size, 3, none⟩ = some (.slice a4 x.tabs.length c4) := bb.2.1 3 _ rfl
    have q4 : W6.cell? ⟨w.heap.size, 4, none⟩ = some (.slice a5 x.mems.length c5) := bb.2.1 4 _ rfl
    have q5 : W6.cell? ⟨w.heap.size, 5, none⟩ = some (.slice a6 x.globs.length c6) := bb.2.1 5 _ rfl
    have q6 : W6.cell? ⟨w.heap.size, 6, none⟩ = some (.slice a7 x.exps.length c7) := bb.2.1 6 _ rfl
    have q7 : W6.cell? ⟨w.heap.size, 7, none⟩ = some (.bool x.hasS) := bb.2.1 7 _ rfl
    have q8 : W6.cell? ⟨w.heap.size, 8, none⟩ = some (.int .i64 x.start) := bb.2.1 8 _ rfl
    have q9 : W6.cell? ⟨w.heap.size, 9, none⟩ = some (.slice a8 x.elems.length c8) := bb.2.1 9 _ rfl
    have q10 : W6.cell? ⟨w.heap.size, 10, none⟩ = some (.slice a9 x.codes.length c9) := bb.2.1 10 _ rfl
    have q11 : W6.cell? ⟨w.heap.size, 11, none⟩ = some (.slice a10 x.datas.length c10) := bb.2.1 11 _ rfl
    have q12 : W6.cell? ⟨w.heap.size, 12, none⟩ = some (.slice a11 x.customs.length c11) := bb.2.1 12 _ rfl
    have s0 : W6.cell? ⟨g5, 0, none⟩ = some (.slice b1 x.types.length d1) := p6.2.1 0 _ rfl
    have s1 : W6.cell? ⟨g5, 1, none⟩ = some (.slice b2 x.imps.length d2) := p6.2.1 1 _ rfl
    have s2 : W6.cell? ⟨g5, 2, none⟩ = some (.slice b3 x.funcs.length d3) := p6.2.1 2 _ rfl
    have s3 : W6.cell? ⟨g5, 3, none⟩ = some (.slice b4 x.tabs.length d4) := p6.2.1 3 _ rfl
    have s4 : W6.cell? ⟨g5, 4, none⟩ = some (.slice b5 x.mems.length d5) := p6.2.1 4 _ rfl
    have s5 : W6.cell? ⟨g5, 5, none⟩ = some (.slice b6 x.globs.length d6) := p6.2.1 5 _ rfl
    have s6 : W6.cell? ⟨g5, 6, none⟩ = some (.slice b7 x.exps.length d7) := p6.2.1 6 _ rfl
    have s7 : W6.cell? ⟨g5, 7, none⟩ = some (.bool x.hasS) := p6.2.1 7 _ rfl
    have s8 : W6.cell? ⟨g5, 8, none⟩ = some (.int .i64 x.start) := p6.2.1 8 _ rfl
    have s9 : W6.cell? ⟨g5, 9, none⟩ = some (.slice b8 x.elems.length d8) := p6.2.1 9 _ rfl
    have s10 : W6.cell? ⟨g5, 10, none⟩ = some (.slice b9 x.codes.length d9) := p6.2.1 10 _ rfl
    have s11 : W6.cell? ⟨g5, 11, none⟩ = some (.slice b10 x.datas.length d10) := p6.2.1 11 _ rfl
    have s12 : W6.cell? ⟨g5, 12, none⟩ = some (.slice b11 x.customs.length d11) := p6.2.1 12 _ rfl
    clear p6 bb
    have KTD := Hid.mk' (KT.out _ bD)
    have QB := Hid.mk' (fun V (h : Below W6.heap.size W6 V) => BB6.out.keep h)
    have QP := Hid.mk' (fun V (h : Below W6.heap.size W6 V) => P6.out.keep h)
    clear KT
    go_region_with (first
      | (go_at_call 8; (with_reducible refine KTD.out.mono ?_); rintro e w7 ⟨v7, rfl, m7, bz7⟩; have ca : Below W6.heap.size W6 w7 := bE.trans (bz7.mono bE.size); have bq := QB.out _ ca; have pq := QP.out _ ca; have q0x : w7.cell? ⟨w.heap.size, 0, none⟩ = some (.slice a1 x.types.length c1) := bq.2.1 0 _ rfl; have q1x : w7.cell? ⟨w.heap.size, 1, none⟩ = some (.slice a2 x.imps.length c2) := bq.2.1 1 _ rfl; have q2x : w7.cell? ⟨w.heap.size, 2, none⟩ = some (.slice a3 x.funcs.length c3) := bq.2.1 2 _ rfl; have q3x : w7.cell? ⟨w.heap.size, 3, none⟩ = some (.slice a4 x.tabs.length c4) := bq.2.1 3 _ rfl; have q4x : w7.cell? ⟨w.heap.size, 4, none⟩ = some (.slice a5 x.mems.length c5) := bq.2.1 4 _ rfl; have q5x : w7.cell? ⟨w.heap.size, 5, none⟩ = some (.slice a6 x.globs.length c6) := bq.2.1 5 _ rfl; have q6x : w7.cell? ⟨w.heap.size, 6, none⟩ = some (.slice a7 x.exps.length c7) := bq.2.1 6 _ rfl; have q7x : w7.cell? ⟨w.heap.size, 7, none⟩ = some (.bool x.hasS) := bq.2.1 7 _ rfl; have q8x : w7.cell? ⟨w.heap.size, 8, none⟩ = some (.int .i64 x.start) := bq.2.1 8 _ rfl; have q9x : w7.cell? ⟨w.heap.size, 9, none⟩ = some (.slice a8 x.elems.length c8) := bq.2.1 9 _ rfl; have q10x : w7.cell? ⟨w.heap.size, 10, none⟩ = some (.slice a9 x.codes.length c9) := bq.2.1 10 _ rfl; have q11x : w7.cell? ⟨w.heap.size, 11, none⟩ = some (.slice a10 x.datas.length c10) := bq.2.1 11 _ rfl; have q12x : w7.cell? ⟨w.heap.size, 12, none⟩ = some (.slice a11 x.customs.length c11) := bq.2.1 12 _ rfl; have s0x : w7.cell? ⟨g5, 0, none⟩ = some (.slice b1 x.types.length d1) := pq.2.1 0 _ rfl; have s1x : w7.cell? ⟨g5, 1, none⟩ = some (.slice b2 x.imps.length d2) := pq.2.1 1 _ rfl; have s2x : w7.cell? ⟨g5, 2, none⟩ = some (.slice b3 x.funcs.length d3) := pq.2.1 2 _ rfl; have s3x : w7.cell? ⟨g5, 3, none⟩ = some (.slice b4 x.tabs.length d4) := pq.2.1 3 _ rfl; have s4x : w7.cell? ⟨g5, 4, none⟩ = some (.slice b5 x.mems.length d5) := pq.2.1 4 _ rfl; have s5x : w7.cell? ⟨g5, 5, none⟩ = some (.slice b6 x.globs.length d6) := pq.2.1 5 _ rfl; have s6x : w7.cell? ⟨g5, 6, none⟩ = some (.slice b7 x.exps.length d7) := pq.2.1 6 _ rfl; have s7x : w7.cell? ⟨g5, 7, none⟩ = some (.bool x.hasS) := pq.2.1 7 _ rfl; have s8x : w7.cell? ⟨g5, 8, none⟩ = some (.int .i64 x.start) := pq.2.1 8 _ rfl; have s9x : w7.cell? ⟨g5, 9, none⟩ = some (.slice b8 x.elems.length d8) := pq.2.1 9 _ rfl; have s10x : w7.cell? ⟨g5, 10, none⟩ = some (.slice b9 x.codes.length d9) := pq.2.1 10 _ rfl; have s11x : w7.cell? ⟨g5, 11, none⟩ = some (.slice b10 x.datas.length d10) := pq.2.1 11 _ rfl; have s12x : w7.cell? ⟨g5, 12, none⟩ = some (.slice b11 x.customs.length d11) := pq.2.1 12 _ rfl; clear bq pq)
      | (go_at_call 10; (with_reducible refine (KE.out _ _ _ ?hx ?hy).mono ?_); (case hx => exact M6.out.keep ca); (case hy => exact m7); rintro e w8 ⟨rfl, bz8⟩; have cc : Below W6.heap.size W6 w8 := ca.trans (bz8.mono ca.size)))
    all_goals
      go_wp2_with fail
      go_meet
      case rel => exact ⟨rfl, cc⟩
  case rest =>
    obtain ⟨rfl, bz9⟩ := hcut
    have hb9 := hb6.trans (bz9.mono hb6.size)
    clear bz9 bD bE hb6 M6 P6 BB6 KT KE HV
    go_wp2
    go_ret
    exact ⟨rfl, hb9⟩
end Go.Proofs.YtdbmolambolmgaaGreat

set_option linter.unusedVariables false
namespace Go.Proofs.YtdbmolambolmgaaGreat
open Go.RowKit Go.ChangeShapes Go.WideShapes Go.ChangeAt
set_option maxRecDepth 100000
theorem big {n : Nat} (h : n ≤ maxLen) : n ≤ 9223372036854775807 := by unfold maxLen at h; omega
theorem ko2 : Tryz.prog.cellsOf 2 = 1 := by kernel_rfl
theorem ko4 : Tryz.prog.cellsOf 4 = 1 := by kernel_rfl
theorem ko5 : Tryz.prog.cellsOf 5 = 1 := by kernel_rfl
theorem ko9 : Tryz.prog.cellsOf 9 = 1 := by kernel_rfl
theorem kou : Tryz.prog.cellsOf 133 = 1 := by kernel_rfl
theorem koi : Tryz.prog.cellsOf 24 = 1 := by kernel_rfl
theorem kob : Tryz.prog.cellsOf 50 = 1 := by kernel_rfl
theorem ko_Limits : Tryz.prog.cellsOf 162 = 3 := by kernel_rfl
theorem kl_Limits : Tryz.prog.cellsOf 25 = 1 := by kernel_rfl
theorem ko_GType : Tryz.prog.cellsOf 163 = 2 := by kernel_rfl
theorem ko_FType : Tryz.prog.cellsOf 160 = 2 := by kernel_rfl
theorem kl_FType : Tryz.prog.cellsOf 22 = 1 := by kernel_rfl
theorem ko_In : Tryz.prog.cellsOf 289 = 5 := by kernel_rfl
theorem kl_In : Tryz.prog.cellsOf 167 = 1 := by kernel_rfl
theorem ko_Imp : Tryz.prog.cellsOf 165 = 9 := by kernel_rfl
theorem kl_Imp : Tryz.prog.cellsOf 23 = 1 := by kernel_rfl
theorem ko_Glob : Tryz.prog.cellsOf 169 = 3 := by kernel_rfl
theorem kl_Glob : Tryz.prog.cellsOf 26 = 1 := by kernel_rfl
theorem ko_Exp : Tryz.prog.cellsOf 171 = 3 := by kernel_rfl
theorem kl_Exp : Tryz.prog.cellsOf 27 = 1 := by kernel_rfl
theorem ko_Ele : Tryz.prog.cellsOf 174 = 2 := by kernel_rfl
theorem kl_Ele : Tryz.prog.cellsOf 28 = 1 := by kernel_rfl
theorem ko_Grp : Tryz.prog.cellsOf 292 = 2 := by kernel_rfl
theorem kl_Grp : Tryz.prog.cellsOf 176 = 1 := by kernel_rfl
theorem ko_Cod : Tryz.prog.cellsOf 178 = 2 := by kernel_rfl
theorem kl_Cod : Tryz.prog.cellsOf 29 = 1 := by kernel_rfl
theorem ko_Dat : Tryz.prog.cellsOf 181 = 2 := by kernel_rfl
theorem kl_Dat : Tryz.prog.cellsOf 30 = 1 := by kernel_rfl
theorem ko_Cus : Tryz.prog.cellsOf 183 = 3 := by kernel_rfl
theorem kl_Cus : Tryz.prog.cellsOf 31 = 1 := by kernel_rfl
theorem ko_Mod : Tryz.prog.cellsOf 33 = 13 := by kernel_rfl

theorem hi_take {k : IntKind} {W : World} {a : Addr} {len : Nat} {zs : List Int} (hl : len ≤ zs.length) (hc : ∀ i, i < zs.length → W.cell? (a.add i) = some (.int k (zs.getD i 0))) : HI k 0 W (some a) (zs.take len) := by
  by_cases h0 : len = 0
  · subst h0; exact .inl (by simp)
  · obtain ⟨b, off, spot⟩ := a
    have h1 := hc 0 (by omega)
    have hspot : spot = none := by simpa [Addr.add] using World.cell?_spot h1
    subst hspot
    refine .inr ⟨b, off, rfl, Nat.zero_le _, fun i hi => ?_⟩
    have hi' : i < len := by simp at hi; omega
    have h2 := hc i (by omega)
    have e : (zs.take len).getD i 0 = zs.getD i 0 := by simp [List.getD, hi']
    rw [e]
    rwa [Addr.add_lit] at h2
theorem val_ints {H : Type} {enc : TypeId × Value → H} {W : World} {n : Nat} {v : Value} {y : DataW H × List MemPlace} (g : DataW.trod enc Tryz.prog W 0 (fun _ => true) true n 24 [v] = some y) :
    ∃ (a : Option Addr) (c : Nat) (l : List Int), v = .slice a l.length c ∧ l.length ≤ maxLen ∧ HI .i64 0 W a l := by
  rcases open_ints Tryz.underlying24 Tryz.underlying2 ko2 g with ⟨hcs, _⟩ | ⟨x, len, cap, zs, hcs, _, hl, hm, hz, _, hc, _⟩
  · simp at hcs
    subst hcs
    exact ⟨none, 0, [], rfl, Nat.zero_le _, .inl rfl⟩
  · simp at hcs hz
    subst hcs
    exact ⟨some x, cap, zs.take len, by simp; omega, by simp; omega, hi_take (by omega) hc⟩
theorem val_bytes {H : Type} {enc : TypeId × Value → H} {W : World} {n : Nat} {v : Value} {y : DataW H × List MemPlace} (g : DataW.trod enc Tryz.prog W 0 (fun _ => true) true n 50 [v] = some y) :
    ∃ (a : Option Addr) (c : Nat) (l : List Int), v = .slice a l.length c ∧ l.length ≤ maxLen ∧ HI .u8 0 W a l := by
  rcases open_ints Tryz.underlying50 Tryz.underlying5 ko5 g with ⟨hcs, _⟩ | ⟨x, len, cap, zs, hcs, _, hl, hm, hz, _, hc, _⟩
  · simp at hcs
    subst hcs
    exact ⟨none, 0, [], rfl, Nat.zero_le _, .inl rfl⟩
  · simp at hcs hz
    subst hcs
    exact ⟨some x, cap, zs.take len, by simp; omega, by simp; omega, hi_take (by omega) hc⟩
/-- A list of records. -/
theorem open_list {R H : Type} {enc : TypeId × Value → H} {W : World} (z : R) (At : Nat → Nat → R → Prop) (Pr : R → Prop) {t te : TypeId} {sz n : Nat} {v : Value} {y : DataW H × List MemPlace} (hu : Tryz.prog.underlying t = some (.slice te)) (hc : Tryz.prog.cellsOf te = sz)
    (each : ∀ (ad : Addr) (cs' : List Value) (n : Nat) (y : DataW H × List MemPlace), W.cells? 0 ad sz = some cs' → DataW.trod enc Tryz.prog W 0 (fun _ => true) true n te cs' = some y → ∃ r : R, ad.spot = none ∧ At ad.block ad.off r ∧ Pr r)
    (h : DataW.trod enc Tryz.prog W 0 (fun _ => true) true n t [v] = some y) :
    ∃ (a : Option Addr) (c : Nat) (xs : List R), v = .slice a xs.length c ∧ xs.length ≤ maxLen ∧ (xs = [] ∨ ∃ b off, a = some ⟨b, off, none⟩ ∧ 0 ≤ b ∧ ∀ i, i < xs.length → At b (off + i * sz) (xs.getD i z)) ∧ ∀ i, i < xs.length → Pr (xs.getD i z) := by
  rcases Go.Deep.open_slice hu h with ⟨hcs, _⟩ | ⟨ad, len, cap, m, n', D, Pl, hcs, _, hl, hm, hmm, _, hx⟩
  · simp at hcs
    subst hcs
    exact ⟨none, 0, [], rfl, Nat.zero_le _, .inl rfl, fun i hi => by simp at hi⟩
  · simp at hcs
    subst hcs
    simp only [if_true] at hmm
    subst hmm
    have ea : ∀ i, i < len → ∃ r : R, (ad.add (i * sz)).spot = none ∧ At (ad.add (i * sz)).block (ad.add (i * sz)).off r ∧ Pr r := by
      intro i hi
      obtain ⟨cs', h1, h2⟩ := hx i (by omega)
      rw [hc] at h1
      exact each _ _ _ _ h1 h2
    obtain ⟨q, hq⟩ : ∃ q : Nat → R, ∀ i, i < len → (ad.add (i * sz)).spot = none ∧ At (ad.add (i * sz)).block (ad.add (i * sz)).off (q i) ∧ Pr (q i) :=
      ⟨fun i => if h : i < len then Classical.choose (ea i h) else z, fun i hi => by simp only [hi, dif_pos]; exact Classical.choose_spec (ea i hi)⟩
    have at_i : ∀ i, i < len → ((List.range len).map q).getD i z = q i := fun i hi => by simp [List.getD, hi]
    refine ⟨some ad, m, (List.range len).map q, by simp, by simp; omega, ?_, fun i hi => ?_⟩
    · by_cases h0 : len = 0
      · subst h0; exact .inl (by simp)
      · obtain ⟨b, off, spot⟩ := ad
        have hspot : spot = none := by simpa [Addr.add] using (hq 0 (by omega)).1
        subst hspot
        refine .inr ⟨b, off, rfl, Nat.zero_le _, fun i hi => ?_⟩
        have hi' : i < len := by simpa using hi
        rw [at_i i hi']
        have := (hq i hi').2.1
        rwa [Addr.add_lit] at this
    · have hi' : i < len := by simpa using hi
      rw [at_i i hi']; exact (hq i hi').2.2
theorem pos_of {xs : List In} (h : ∀ i, i < xs.length → 0 ≤ (xs.getD i I0).v) : InsPos xs := by
  intro i
  by_cases hi : i < xs.length
  · exact h i hi
  · have : xs.getD i I0 = I0 := by simp [List.getD, List.getElem?_eq_none (Nat.le_of_not_lt hi)]
    rw [this]; simp [I0]
set_option maxHeartbeats 2000000 in
theorem val_Limits {H : Type} {enc : TypeId × Value → H} {W : World} {n : Nat} {cs : List Value} {y : DataW H × List MemPlace} (h : DataW.trod enc Tryz.prog W 0 (fun _ => true) true n 162 cs = some y) :
    ∃ (r : Limits), cs = [.int .i64 r.min, .int .i64 r.max, .bool r.has] ∧ Limits.Is 0 W r  ∧ Limits.LB 9223372036854775807 r ∧ (True) := by
  obtain ⟨xs, k, hk, hxy, hcl, hxl, hf⟩ := DataW.trod_struct Tryz.underlying162 h
  rw [ko_Limits] at hcl
  match xs, hxl, cs, hcl with
  | [y0, y1, y2], _, [v0, v1, v2], _ =>
    have g0 := hf 0 _ rfl
    have g1 := hf 1 _ rfl
    have g2 := hf 2 _ rfl
    simp [ko2, ko4, ko5, ko9, kou, koi, kob, ko_Limits, kl_Limits, ko_GType, ko_FType, kl_FType, ko_In, kl_In, ko_Imp, kl_Imp, ko_Glob, kl_Glob, ko_Exp, kl_Exp, ko_Ele, kl_Ele, ko_Grp, kl_Grp, ko_Cod, kl_Cod, ko_Dat, kl_Dat, ko_Cus, kl_Cus, ko_Mod] at g0 g1 g2
    obtain ⟨n0, e0, _, _⟩ := DataW.trod_int Tryz.underlying2 g0
    simp at e0
    subst e0
    obtain ⟨n1, e1, _, _⟩ := DataW.trod_int Tryz.underlying2 g1
    simp at e1
    subst e1
    obtain ⟨n2, e2, _⟩ := DataW.trod_bool Tryz.underlying4 g2
    simp at e2
    subst e2
    exact ⟨⟨n0, n1, n2⟩, rfl, trivial, trivial, trivial⟩
theorem each_Limits {H : Type} {enc : TypeId × Value → H} {W : World} (ad : Addr) (cs' : List Value) (n : Nat) (y : DataW H × List MemPlace) (h1 : W.cells? 0 ad 3 = some cs') (h2 : DataW.trod enc Tryz.prog W 0 (fun _ => true) true n 162 cs' = some y) :
    ∃ r : Limits, ad.spot = none ∧ Limits.At 0 W ad.block ad.off r ∧ Limits.LB 9223372036854775807 r ∧ (True) := by
  obtain ⟨_, hlen, hcell⟩ := World.cells?_some h1
  obtain ⟨r, e, hi, hl, hp⟩ := val_Limits h2
  subst e
  obtain ⟨b, off, spot⟩ := ad
  have q0 := hcell 0 (by omega)
  have hspot : spot = none := by simpa [Addr.add] using World.cell?_spot (a := Addr.add ⟨b, off, spot⟩ 0) q0
  subst hspot
  have q1 := hcell 1 (by omega)
  have q2 := hcell 2 (by omega)
  simp only [Addr.add_lit] at q0 q1 q2
  exact ⟨r, rfl, ⟨⟨by simpa using q0, by simpa using q1, by simpa using q2⟩, hi⟩, hl, hp⟩
set_option maxHeartbeats 2000000 in
theorem val_GType {H : Type} {enc : TypeId × Value → H} {W : World} {n : Nat} {cs : List Value} {y : DataW H × List MemPlace} (h : DataW.trod enc Tryz.prog W 0 (fun _ => true) true n 163 cs = some y) :
    ∃ (r : GType), cs = [.int .i64 r.ty, .bool r.mu] ∧ GType.Is 0 W r  ∧ GType.LB 9223372036854775807 r ∧ (True) := by
  obtain ⟨xs, k, hk, hxy, hcl, hxl, hf⟩ := DataW.trod_struct Tryz.underlying163 h
  rw [ko_GType] at hcl
  match xs, hxl, cs, hcl with
  | [y0, y1], _, [v0, v1], _ =>
    have g0 := hf 0 _ rfl
    have g1 := hf 1 _ rfl
    simp [ko2, ko4, ko5, ko9, kou, koi, kob, ko_Limits, kl_Limits, ko_GType, ko_FType, kl_FType, ko_In, kl_In, ko_Imp, kl_Imp, ko_Glob, kl_Glob, ko_Exp, kl_Exp, ko_Ele, kl_Ele, ko_Grp, kl_Grp, ko_Cod, kl_Cod, ko_Dat, kl_Dat, ko_Cus, kl_Cus, ko_Mod] at g0 g1
    obtain ⟨n0, e0, _, _⟩ := DataW.trod_int Tryz.underlying2 g0
    simp at e0
    subst e0
    obtain ⟨n1, e1, _⟩ := DataW.trod_bool Tryz.underlying4 g1
    simp at e1
    subst e1
    exact ⟨⟨n0, n1⟩, rfl, trivial, trivial, trivial⟩
theorem each_GType {H : Type} {enc : TypeId × Value → H} {W : World} (ad : Addr) (cs' : List Value) (n : Nat) (y : DataW H × List MemPlace) (h1 : W.cells? 0 ad 2 = some cs') (h2 : DataW.trod enc Tryz.prog W 0 (fun _ => true) true n 163 cs' = some y) :
    ∃ r : GType, ad.spot = none ∧ GType.At 0 W ad.block ad.off r ∧ GType.LB 9223372036854775807 r ∧ (True) := by
  obtain ⟨_, hlen, hcell⟩ := World.cells?_some h1
  obtain ⟨r, e, hi, hl, hp⟩ := val_GType h2
  subst e
  obtain ⟨b, off, spot⟩ := ad
  have q0 := hcell 0 (by omega)
  have hspot : spot = none := by simpa [Addr.add] using World.cell?_spot (a := Addr.add ⟨b, off, spot⟩ 0) q0
  subst hspot
  have q1 := hcell 1 (by omega)
  simp only [Addr.add_lit] at q0 q1
  exact ⟨r, rfl, ⟨⟨by simpa using q0, by simpa using q1⟩, hi⟩, hl, hp⟩
set_option maxHeartbeats 2000000 in
theorem val_FType {H : Type} {enc : TypeId × Value → H} {W : World} {n : Nat} {cs : List Value} {y : DataW H × List MemPlace} (h : DataW.trod enc Tryz.prog W 0 (fun _ => true) true n 160 cs = some y) :
    ∃ (r : FType) (a1 : Option Addr) (c1 : Nat) (a2 : Option Addr) (c2 : Nat), cs = [.slice a1 r.ps.length c1, .slice a2 r.rs.length c2] ∧ FType.Is 0 W r a1 a2 ∧ FType.LB 9223372036854775807 r ∧ (True) := by
  obtain ⟨xs, k, hk, hxy, hcl, hxl, hf⟩ := DataW.trod_struct Tryz.underlying160 h
  rw [ko_FType] at hcl
  match xs, hxl, cs, hcl with
  | [y0, y1], _, [v0, v1], _ =>
    have g0 := hf 0 _ rfl
    have g1 := hf 1 _ rfl
    simp [ko2, ko4, ko5, ko9, kou, koi, kob, ko_Limits, kl_Limits, ko_GType, ko_FType, kl_FType, ko_In, kl_In, ko_Imp, kl_Imp, ko_Glob, kl_Glob, ko_Exp, kl_Exp, ko_Ele, kl_Ele, ko_Grp, kl_Grp, ko_Cod, kl_Cod, ko_Dat, kl_Dat, ko_Cus, kl_Cus, ko_Mod] at g0 g1
    obtain ⟨p0, d0, n0, e0, l0, h0⟩ := val_ints g0
    subst e0
    obtain ⟨p1, d1, n1, e1, l1, h1⟩ := val_ints g1
    subst e1
    exact ⟨⟨n0, n1⟩, p0, d0, p1, d1, rfl, ⟨h0, h1⟩, ⟨big l0, big l1⟩, trivial⟩
theorem each_FType {H : Type} {enc : TypeId × Value → H} {W : World} (ad : Addr) (cs' : List Value) (n : Nat) (y : DataW H × List MemPlace) (h1 : W.cells? 0 ad 2 = some cs') (h2 : DataW.trod enc Tryz.prog W 0 (fun _ => true) true n 160 cs' = some y) :
    ∃ r : FType, ad.spot = none ∧ FType.At 0 W ad.block ad.off r ∧ FType.LB 9223372036854775807 r ∧ (True) := by
  obtain ⟨_, hlen, hcell⟩ := World.cells?_some h1
  obtain ⟨r, a1, c1, a2, c2, e, hi, hl, hp⟩ := val_FType h2
  subst e
  obtain ⟨b, off, spot⟩ := ad
  have q0 := hcell 0 (by omega)
  have hspot : spot = none := by simpa [Addr.add] using World.cell?_spot (a := Addr.add ⟨b, off, spot⟩ 0) q0
  subst hspot
  have q1 := hcell 1 (by omega)
  simp only [Addr.add_lit] at q0 q1
  exact ⟨r, rfl, ⟨a1, c1, a2, c2, ⟨by simpa using q0, by simpa using q1⟩, hi⟩, hl, hp⟩
set_option maxHeartbeats 2000000 in
theorem val_In {H : Type} {enc : TypeId × Value → H} {W : World} {n : Nat} {cs : List Value} {y : DataW H × List MemPlace} (h : DataW.trod enc Tryz.prog W 0 (fun _ => true) true n 289 cs = some y) :
    ∃ (r : In) (a1 : Option Addr) (c1 : Nat), cs = [.int .i64 r.op, .int .i64 r.a, .int .i64 r.b, .int .u64 r.v, .slice a1 r.l.length c1] ∧ In.Is 0 W r a1 ∧ In.LB 9223372036854775807 r ∧ (0 ≤ r.v) := by
  obtain ⟨xs, k, hk, hxy, hcl, hxl, hf⟩ := DataW.trod_struct Tryz.underlying289 h
  rw [ko_In] at hcl
  match xs, hxl, cs, hcl with
  | [y0, y1, y2, y3, y4], _, [v0, v1, v2, v3, v4], _ =>
    have g0 := hf 0 _ rfl
    have g1 := hf 1 _ rfl
    have g2 := hf 2 _ rfl
    have g3 := hf 3 _ rfl
    have g4 := hf 4 _ rfl
    simp [ko2, ko4, ko5, ko9, kou, koi, kob, ko_Limits, kl_Limits, ko_GType, ko_FType, kl_FType, ko_In, kl_In, ko_Imp, kl_Imp, ko_Glob, kl_Glob, ko_Exp, kl_Exp, ko_Ele, kl_Ele, ko_Grp, kl_Grp, ko_Cod, kl_Cod, ko_Dat, kl_Dat, ko_Cus, kl_Cus, ko_Mod] at g0 g1 g2 g3 g4
    obtain ⟨n0, e0, _, _⟩ := DataW.trod_int Tryz.underlying2 g0
    simp at e0
    subst e0
    obtain ⟨n1, e1, _, _⟩ := DataW.trod_int Tryz.underlying2 g1
    simp at e1
    subst e1
    obtain ⟨n2, e2, _, _⟩ := DataW.trod_int Tryz.underlying2 g2
    simp at e2
    subst e2
    obtain ⟨n3, e3, _, w3⟩ := DataW.trod_int Tryz.underlying133 g3
    simp at e3
    subst e3
    obtain ⟨hq, _⟩ := bounds_u64 w3
    obtain ⟨p4, d4, n4, e4, l4, h4⟩ := val_ints g4
    subst e4
    exact ⟨⟨n0, n1, n2, n3, n4⟩, p4, d4, rfl, h4, big l4, hq⟩
theorem each_In {H : Type} {enc : TypeId × Value → H} {W : World} (ad : Addr) (cs' : List Value) (n : Nat) (y : DataW H × List MemPlace) (h1 : W.cells? 0 ad 5 = some cs') (h2 : DataW.trod enc Tryz.prog W 0 (fun _ => true) true n 289 cs' = some y) :
    ∃ r : In, ad.spot = none ∧ In.At 0 W ad.block ad.off r ∧ In.LB 9223372036854775807 r ∧ (0 ≤ r.v) := by
  obtain ⟨_, hlen, hcell⟩ := World.cells?_some h1
  obtain ⟨r, a1, c1, e, hi, hl, hp⟩ := val_In h2
  subst e
  obtain ⟨b, off, spot⟩ := ad
  have q0 := hcell 0 (by omega)
  have hspot : spot = none := by simpa [Addr.add] using World.cell?_spot (a := Addr.add ⟨b, off, spot⟩ 0) q0
  subst hspot
  have q1 := hcell 1 (by omega)
  have q2 := hcell 2 (by omega)
  have q3 := hcell 3 (by omega)
  have q4 := hcell 4 (by omega)
  simp only [Addr.add_lit] at q0 q1 q2 q3 q4
  exact ⟨r, rfl, ⟨a1, c1, ⟨by simpa using q0, by simpa using q1, by simpa using q2, by simpa using q3, by simpa using q4⟩, hi⟩, hl, hp⟩
set_option maxHeartbeats 2000000 in
theorem val_Imp {H : Type} {enc : TypeId × Value → H} {W : World} {n : Nat} {cs : List Value} {y : DataW H × List MemPlace} (h : DataW.trod enc Tryz.prog W 0 (fun _ => true) true n 165 cs = some y) :
    ∃ (r : Imp), cs = [.string r.mod, .string r.nm, .int .i64 r.kind, .int .i64 r.ty, .int .i64 r.lim.min, .int .i64 r.lim.max, .bool r.lim.has, .int .i64 r.gl.ty, .bool r.gl.mu] ∧ Imp.Is 0 W r  ∧ Imp.LB 9223372036854775807 r ∧ (True) := by
  obtain ⟨xs, k, hk, hxy, hcl, hxl, hf⟩ := DataW.trod_struct Tryz.underlying165 h
  rw [ko_Imp] at hcl
  match xs, hxl, cs, hcl with
  | [y0, y1, y2, y3, y4, y5], _, [v0, v1, v2, v3, v4, v5, v6, v7, v8], _ =>
    have g0 := hf 0 _ rfl
    have g1 := hf 1 _ rfl
    have g2 := hf 2 _ rfl
    have g3 := hf 3 _ rfl
    have g4 := hf 4 _ rfl
    have g5 := hf 5 _ rfl
    simp [ko2, ko4, ko5, ko9, kou, koi, kob, ko_Limits, kl_Limits, ko_GType, ko_FType, kl_FType, ko_In, kl_In, ko_Imp, kl_Imp, ko_Glob, kl_Glob, ko_Exp, kl_Exp, ko_Ele, kl_Ele, ko_Grp, kl_Grp, ko_Cod, kl_Cod, ko_Dat, kl_Dat, ko_Cus, kl_Cus, ko_Mod] at g0 g1 g2 g3 g4 g5
    obtain ⟨n0, e0, _, s0⟩ := DataW.trod_string Tryz.underlying9 g0
    simp at e0
    subst e0
    obtain ⟨n1, e1, _, s1⟩ := DataW.trod_string Tryz.underlying9 g1
    simp at e1
    subst e1
    obtain ⟨n2, e2, _, _⟩ := DataW.trod_int Tryz.underlying2 g2
    simp at e2
    subst e2
    obtain ⟨n3, e3, _, _⟩ := DataW.trod_int Tryz.underlying2 g3
    simp at e3
    subst e3
    obtain ⟨n4, e4, _, _, _⟩ := val_Limits g4
    simp at e4
    obtain ⟨rfl, rfl, rfl⟩ := e4
    obtain ⟨n5, e5, _, _, _⟩ := val_GType g5
    simp at e5
    obtain ⟨rfl, rfl⟩ := e5
    exact ⟨⟨n0, n1, n2, n3, n4, n5⟩, rfl, trivial, ⟨big s0, big s1⟩, trivial⟩
theorem each_Imp {H : Type} {enc : TypeId × Value → H} {W : World} (ad : Addr) (cs' : List Value) (n : Nat) (y : DataW H × List MemPlace) (h1 : W.cells? 0 ad 9 = some cs') (h2 : DataW.trod enc Tryz.prog W 0 (fun _ => true) true n 165 cs' = some y) :
    ∃ r : Imp, ad.spot = none ∧ Imp.At 0 W ad.block ad.off r ∧ Imp.LB 9223372036854775807 r ∧ (True) := by
  obtain ⟨_, hlen, hcell⟩ := World.cells?_some h1
  obtain ⟨r, e, hi, hl, hp⟩ := val_Imp h2
  subst e
  obtain ⟨b, off, spot⟩ := ad
  have q0 := hcell 0 (by omega)
  have hspot : spot = none := by simpa [Addr.add] using World.cell?_spot (a := Addr.add ⟨b, off, spot⟩ 0) q0
  subst hspot
  have q1 := hcell 1 (by omega)
  have q2 := hcell 2 (by omega)
  have q3 := hcell 3 (by omega)
  have q4 := hcell 4 (by omega)
  have q5 := hcell 5 (by omega)
  have q6 := hcell 6 (by omega)
  have q7 := hcell 7 (by omega)
  have q8 := hcell 8 (by omega)
  simp only [Addr.add_lit] at q0 q1 q2 q3 q4 q5 q6 q7 q8
  exact ⟨r, rfl, ⟨⟨by simpa using q0, by simpa using q1, by simpa using q2, by simpa using q3, by simpa using q4, by simpa using q5, by simpa using q6, by simpa using q7, by simpa using q8⟩, hi⟩, hl, hp⟩
set_option maxHeartbeats 2000000 in
theorem val_Glob {H : Type} {enc : TypeId × Value → H} {W : World} {n : Nat} {cs : List Value} {y : DataW H × List MemPlace} (h : DataW.trod enc Tryz.prog W 0 (fun _ => true) true n 169 cs = some y) :
    ∃ (r : Glob) (a1 : Option Addr) (c1 : Nat), cs = [.int .i64 r.ty.ty, .bool r.ty.mu, .slice a1 r.ini.length c1] ∧ Glob.Is 0 W r a1 ∧ Glob.LB 9223372036854775807 r ∧ (InsPos r.ini) := by
  obtain ⟨xs, k, hk, hxy, hcl, hxl, hf⟩ := DataW.trod_struct Tryz.underlying169 h
  rw [ko_Glob] at hcl
  match xs, hxl, cs, hcl with
  | [y0, y1], _, [v0, v1, v2], _ =>
    have g0 := hf 0 _ rfl
    have g1 := hf 1 _ rfl
    simp [ko2, ko4, ko5, ko9, kou, koi, kob, ko_Limits, kl_Limits, ko_GType, ko_FType, kl_FType, ko_In, kl_In, ko_Imp, kl_Imp, ko_Glob, kl_Glob, ko_Exp, kl_Exp, ko_Ele, kl_Ele, ko_Grp, kl_Grp, ko_Cod, kl_Cod, ko_Dat, kl_Dat, ko_Cus, kl_Cus, ko_Mod] at g0 g1
    obtain ⟨n0, e0, _, _, _⟩ := val_GType g0
    simp at e0
    obtain ⟨rfl, rfl⟩ := e0
    obtain ⟨p1, d1, n1, e1, l1, h1, z1⟩ := open_list I0 (fun b o x => In.At 0 W b o x) (fun x => In.LB 9223372036854775807 x ∧ (0 ≤ x.v)) Tryz.underlying167 ko_In (fun ad cs' n y h1 h2 => each_In ad cs' n y h1 h2) g1
    subst e1
    exact ⟨⟨n0, n1⟩, p1, d1, rfl, h1, ⟨big l1, fun i hi => (z1 i hi).1⟩, pos_of fun i hi => (z1 i hi).2⟩
theorem each_Glob {H : Type} {enc : TypeId × Value → H} {W : World} (ad : Addr) (cs' : List Value) (n : Nat) (y : DataW H × List MemPlace) (h1 : W.cells? 0 ad 3 = some cs') (h2 : DataW.trod enc Tryz.prog W 0 (fun _ => true) true n 169 cs' = some y) :
    ∃ r : Glob, ad.spot = none ∧ Glob.At 0 W ad.block ad.off r ∧ Glob.LB 9223372036854775807 r ∧ (InsPos r.ini) := by
  obtain ⟨_, hlen, hcell⟩ := World.cells?_some h1
  obtain ⟨r, a1, c1, e, hi, hl, hp⟩ := val_Glob h2
  subst e
  obtain ⟨b, off, spot⟩ := ad
  have q0 := hcell 0 (by omega)
  have hspot : spot = none := by simpa [Addr.add] using World.cell?_spot (a := Addr.add ⟨b, off, spot⟩ 0) q0
  subst hspot
  have q1 := hcell 1 (by omega)
  have q2 := hcell 2 (by omega)
  simp only [Addr.add_lit] at q0 q1 q2
  exact ⟨r, rfl, ⟨a1, c1, ⟨by simpa using q0, by simpa using q1, by simpa using q2⟩, hi⟩, hl, hp⟩
set_option maxHeartbeats 2000000 in
theorem val_Exp {H : Type} {enc : TypeId × Value → H} {W : World} {n : Nat} {cs : List Value} {y : DataW H × List MemPlace} (h : DataW.trod enc Tryz.prog W 0 (fun _ => true) true n 171 cs = some y) :
    ∃ (r : Exp), cs = [.string r.nm, .int .i64 r.kind, .int .i64 r.ix] ∧ Exp.Is 0 W r  ∧ Exp.LB 9223372036854775807 r ∧ (True) := by
  obtain ⟨xs, k, hk, hxy, hcl, hxl, hf⟩ := DataW.trod_struct Tryz.underlying171 h
  rw [ko_Exp] at hcl
  match xs, hxl, cs, hcl with
  | [y0, y1, y2], _, [v0, v1, v2], _ =>
    have g0 := hf 0 _ rfl
    have g1 := hf 1 _ rfl
    have g2 := hf 2 _ rfl
    simp [ko2, ko4, ko5, ko9, kou, koi, kob, ko_Limits, kl_Limits, ko_GType, ko_FType, kl_FType, ko_In, kl_In, ko_Imp, kl_Imp, ko_Glob, kl_Glob, ko_Exp, kl_Exp, ko_Ele, kl_Ele, ko_Grp, kl_Grp, ko_Cod, kl_Cod, ko_Dat, kl_Dat, ko_Cus, kl_Cus, ko_Mod] at g0 g1 g2
    obtain ⟨n0, e0, _, s0⟩ := DataW.trod_string Tryz.underlying9 g0
    simp at e0
    subst e0
    obtain ⟨n1, e1, _, _⟩ := DataW.trod_int Tryz.underlying2 g1
    simp at e1
    subst e1
    obtain ⟨n2, e2, _, _⟩ := DataW.trod_int Tryz.underlying2 g2
    simp at e2
    subst e2
    exact ⟨⟨n0, n1, n2⟩, rfl, trivial, big s0, trivial⟩
theorem each_Exp {H : Type} {enc : TypeId × Value → H} {W : World} (ad : Addr) (cs' : List Value) (n : Nat) (y : DataW H × List MemPlace) (h1 : W.cells? 0 ad 3 = some cs') (h2 : DataW.trod enc Tryz.prog W 0 (fun _ => true) true n 171 cs' = some y) :
    ∃ r : Exp, ad.spot = none ∧ Exp.At 0 W ad.block ad.off r ∧ Exp.LB 9223372036854775807 r ∧ (True) := by
  obtain ⟨_, hlen, hcell⟩ := World.cells?_some h1
  obtain ⟨r, e, hi, hl, hp⟩ := val_Exp h2
  subst e
  obtain ⟨b, off, spot⟩ := ad
  have q0 := hcell 0 (by omega)
  have hspot : spot = none := by simpa [Addr.add] using World.cell?_spot (a := Addr.add ⟨b, off, spot⟩ 0) q0
  subst hspot
  have q1 := hcell 1 (by omega)
  have q2 := hcell 2 (by omega)
  simp only [Addr.add_lit] at q0 q1 q2
  exact ⟨r, rfl, ⟨⟨by simpa using q0, by simpa using q1, by simpa using q2⟩, hi⟩, hl, hp⟩
set_option maxHeartbeats 2000000 in
theorem val_Ele {H : Type} {enc : TypeId × Value → H} {W : World} {n : Nat} {cs : List Value} {y : DataW H × List MemPlace} (h : DataW.trod enc Tryz.prog W 0 (fun _ => true) true n 174 cs = some y) :
    ∃ (r : Ele) (a1 : Option Addr) (c1 : Nat) (a2 : Option Addr) (c2 : Nat), cs = [.slice a1 r.off.length c1, .slice a2 r.fs.length c2] ∧ Ele.Is 0 W r a1 a2 ∧ Ele.LB 9223372036854775807 r ∧ (InsPos r.off) := by
  obtain ⟨xs, k, hk, hxy, hcl, hxl, hf⟩ := DataW.trod_struct Tryz.underlying174 h
  rw [ko_Ele] at hcl
  match xs, hxl, cs, hcl with
  | [y0, y1], _, [v0, v1], _ =>
    have g0 := hf 0 _ rfl
    have g1 := hf 1 _ rfl
    simp [ko2, ko4, ko5, ko9, kou, koi, kob, ko_Limits, kl_Limits, ko_GType, ko_FType, kl_FType, ko_In, kl_In, ko_Imp, kl_Imp, ko_Glob, kl_Glob, ko_Exp, kl_Exp, ko_Ele, kl_Ele, ko_Grp, kl_Grp, ko_Cod, kl_Cod, ko_Dat, kl_Dat, ko_Cus, kl_Cus, ko_Mod] at g0 g1
    obtain ⟨p0, d0, n0, e0, l0, h0, z0⟩ := open_list I0 (fun b o x => In.At 0 W b o x) (fun x => In.LB 9223372036854775807 x ∧ (0 ≤ x.v)) Tryz.underlying167 ko_In (fun ad cs' n y h1 h2 => each_In ad cs' n y h1 h2) g0
    subst e0
    obtain ⟨p1, d1, n1, e1, l1, h1⟩ := val_ints g1
    subst e1
    exact ⟨⟨n0, n1⟩, p0, d0, p1, d1, rfl, ⟨h0, h1⟩, ⟨⟨big l0, fun i hi => (z0 i hi).1⟩, big l1⟩, pos_of fun i hi => (z0 i hi).2⟩
theorem each_Ele {H : Type} {enc : TypeId × Value → H} {W : World} (ad : Addr) (cs' : List Value) (n : Nat) (y : DataW H × List MemPlace) (h1 : W.cells? 0 ad 2 = some cs') (h2 : DataW.trod enc Tryz.prog W 0 (fun _ => true) true n 174 cs' = some y) :
    ∃ r : Ele, ad.spot = none ∧ Ele.At 0 W ad.block ad.off r ∧ Ele.LB 9223372036854775807 r ∧ (InsPos r.off) := by
  obtain ⟨_, hlen, hcell⟩ := World.cells?_some h1
  obtain ⟨r, a1, c1, a2, c2, e, hi, hl, hp⟩ := val_Ele h2
  subst e
  obtain ⟨b, off, spot⟩ := ad
  have q0 := hcell 0 (by omega)
  have hspot : spot = none := by simpa [Addr.add] using World.cell?_spot (a := Addr.add ⟨b, off, spot⟩ 0) q0
  subst hspot
  have q1 := hcell 1 (by omega)
  simp only [Addr.add_lit] at q0 q1
  exact ⟨r, rfl, ⟨a1, c1, a2, c2, ⟨by simpa using q0, by simpa using q1⟩, hi⟩, hl, hp⟩
set_option maxHeartbeats 2000000 in
theorem val_Grp {H : Type} {enc : TypeId × Value → H} {W : World} {n : Nat} {cs : List Value} {y : DataW H × List MemPlace} (h : DataW.trod enc Tryz.prog W 0 (fun _ => true) true n 292 cs = some y) :
    ∃ (r : Grp), cs = [.int .i64 r.n, .int .i64 r.ty] ∧ Grp.Is 0 W r  ∧ Grp.LB 9223372036854775807 r ∧ (True) := by
  obtain ⟨xs, k, hk, hxy, hcl, hxl, hf⟩ := DataW.trod_struct Tryz.underlying292 h
  rw [ko_Grp] at hcl
  match xs, hxl, cs, hcl with
  | [y0, y1], _, [v0, v1], _ =>
    have g0 := hf 0 _ rfl
    have g1 := hf 1 _ rfl
    simp [ko2, ko4, ko5, ko9, kou, koi, kob, ko_Limits, kl_Limits, ko_GType, ko_FType, kl_FType, ko_In, kl_In, ko_Imp, kl_Imp, ko_Glob, kl_Glob, ko_Exp, kl_Exp, ko_Ele, kl_Ele, ko_Grp, kl_Grp, ko_Cod, kl_Cod, ko_Dat, kl_Dat, ko_Cus, kl_Cus, ko_Mod] at g0 g1
    obtain ⟨n0, e0, _, _⟩ := DataW.trod_int Tryz.underlying2 g0
    simp at e0
    subst e0
    obtain ⟨n1, e1, _, _⟩ := DataW.trod_int Tryz.underlying2 g1
    simp at e1
    subst e1
    exact ⟨⟨n0, n1⟩, rfl, trivial, trivial, trivial⟩
theorem each_Grp {H : Type} {enc : TypeId × Value → H} {W : World} (ad : Addr) (cs' : List Value) (n : Nat) (y : DataW H × List MemPlace) (h1 : W.cells? 0 ad 2 = some cs') (h2 : DataW.trod enc Tryz.prog W 0 (fun _ => true) true n 292 cs' = some y) :
    ∃ r : Grp, ad.spot = none ∧ Grp.At 0 W ad.block ad.off r ∧ Grp.LB 9223372036854775807 r ∧ (True) := by
  obtain ⟨_, hlen, hcell⟩ := World.cells?_some h1
  obtain ⟨r, e, hi, hl, hp⟩ := val_Grp h2
  subst e
  obtain ⟨b, off, spot⟩ := ad
  have q0 := hcell 0 (by omega)
  have hspot : spot = none := by simpa [Addr.add] using World.cell?_spot (a := Addr.add ⟨b, off, spot⟩ 0) q0
  subst hspot
  have q1 := hcell 1 (by omega)
  simp only [Addr.add_lit] at q0 q1
  exact ⟨r, rfl, ⟨⟨by simpa using q0, by simpa using q1⟩, hi⟩, hl, hp⟩
set_option maxHeartbeats 2000000 in
theorem val_Cod {H : Type} {enc : TypeId × Value → H} {W : World} {n : Nat} {cs : List Value} {y : DataW H × List MemPlace} (h : DataW.trod enc Tryz.prog W 0 (fun _ => true) true n 178 cs = some y) :
    ∃ (r : Cod) (a1 : Option Addr) (c1 : Nat) (a2 : Option Addr) (c2 : Nat), cs = [.slice a1 r.locs.length c1, .slice a2 r.body.length c2] ∧ Cod.Is 0 W r a1 a2 ∧ Cod.LB 9223372036854775807 r ∧ (InsPos r.body) := by
  obtain ⟨xs, k, hk, hxy, hcl, hxl, hf⟩ := DataW.trod_struct Tryz.underlying178 h
  rw [ko_Cod] at hcl
  match xs, hxl, cs, hcl with
  | [y0, y1], _, [v0, v1], _ =>
    have g0 := hf 0 _ rfl
    have g1 := hf 1 _ rfl
    simp [ko2, ko4, ko5, ko9, kou, koi, kob, ko_Limits, kl_Limits, ko_GType, ko_FType, kl_FType, ko_In, kl_In, ko_Imp, kl_Imp, ko_Glob, kl_Glob, ko_Exp, kl_Exp, ko_Ele, kl_Ele, ko_Grp, kl_Grp, ko_Cod, kl_Cod, ko_Dat, kl_Dat, ko_Cus, kl_Cus, ko_Mod] at g0 g1
    obtain ⟨p0, d0, n0, e0, l0, h0, z0⟩ := open_list Grp.z (fun b o x => Grp.At 0 W b o x) (fun x => Grp.LB 9223372036854775807 x ∧ (True)) Tryz.underlying176 ko_Grp (fun ad cs' n y h1 h2 => each_Grp ad cs' n y h1 h2) g0
    subst e0
    obtain ⟨p1, d1, n1, e1, l1, h1, z1⟩ := open_list I0 (fun b o x => In.At 0 W b o x) (fun x => In.LB 9223372036854775807 x ∧ (0 ≤ x.v)) Tryz.underlying167 ko_In (fun ad cs' n y h1 h2 => each_In ad cs' n y h1 h2) g1
    subst e1
    exact ⟨⟨n0, n1⟩, p0, d0, p1, d1, rfl, ⟨h0, h1⟩, ⟨⟨big l0, fun i hi => (z0 i hi).1⟩, ⟨big l1, fun i hi => (z1 i hi).1⟩⟩, pos_of fun i hi => (z1 i hi).2⟩
theorem each_Cod {H : Type} {enc : TypeId × Value → H} {W : World} (ad : Addr) (cs' : List Value) (n : Nat) (y : DataW H × List MemPlace) (h1 : W.cells? 0 ad 2 = some cs') (h2 : DataW.trod enc Tryz.prog W 0 (fun _ => true) true n 178 cs' = some y) :
    ∃ r : Cod, ad.spot = none ∧ Cod.At 0 W ad.block ad.off r ∧ Cod.LB 9223372036854775807 r ∧ (InsPos r.body) := by
  obtain ⟨_, hlen, hcell⟩ := World.cells?_some h1
  obtain ⟨r, a1, c1, a2, c2, e, hi, hl, hp⟩ := val_Cod h2
  subst e
  obtain ⟨b, off, spot⟩ := ad
  have q0 := hcell 0 (by omega)
  have hspot : spot = none := by simpa [Addr.add] using World.cell?_spot (a := Addr.add ⟨b, off, spot⟩ 0) q0
  subst hspot
  have q1 := hcell 1 (by omega)
  simp only [Addr.add_lit] at q0 q1
  exact ⟨r, rfl, ⟨a1, c1, a2, c2, ⟨by simpa using q0, by simpa using q1⟩, hi⟩, hl, hp⟩
set_option maxHeartbeats 2000000 in
theorem val_Dat {H : Type} {enc : TypeId × Value → H} {W : World} {n : Nat} {cs : List Value} {y : DataW H × List MemPlace} (h : DataW.trod enc Tryz.prog W 0 (fun _ => true) true n 181 cs = some y) :
    ∃ (r : Dat) (a1 : Option Addr) (c1 : Nat) (a2 : Option Addr) (c2 : Nat), cs = [.slice a1 r.off.length c1, .slice a2 r.bs.length c2] ∧ Dat.Is 0 W r a1 a2 ∧ Dat.LB 9223372036854775807 r ∧ (InsPos r.off) := by
  obtain ⟨xs, k, hk, hxy, hcl, hxl, hf⟩ := DataW.trod_struct Tryz.underlying181 h
  rw [ko_Dat] at hcl
  match xs, hxl, cs, hcl with
  | [y0, y1], _, [v0, v1], _ =>
    have g0 := hf 0 _ rfl
    have g1 := hf 1 _ rfl
    simp [ko2, ko4, ko5, ko9, kou, koi, kob, ko_Limits, kl_Limits, ko_GType, ko_FType, kl_FType, ko_In, kl_In, ko_Imp, kl_Imp, ko_Glob, kl_Glob, ko_Exp, kl_Exp, ko_Ele, kl_Ele, ko_Grp, kl_Grp, ko_Cod, kl_Cod, ko_Dat, kl_Dat, ko_Cus, kl_Cus, ko_Mod] at g0 g1
    obtain ⟨p0, d0, n0, e0, l0, h0, z0⟩ := open_list I0 (fun b o x => In.At 0 W b o x) (fun x => In.LB 9223372036854775807 x ∧ (0 ≤ x.v)) Tryz.underlying167 ko_In (fun ad cs' n y h1 h2 => each_In ad cs' n y h1 h2) g0
    subst e0
    obtain ⟨p1, d1, n1, e1, l1, h1⟩ := val_bytes g1
    subst e1
    exact ⟨⟨n0, n1⟩, p0, d0, p1, d1, rfl, ⟨h0, h1⟩, ⟨⟨big l0, fun i hi => (z0 i hi).1⟩, big l1⟩, pos_of fun i hi => (z0 i hi).2⟩
theorem each_Dat {H : Type} {enc : TypeId × Value → H} {W : World} (ad : Addr) (cs' : List Value) (n : Nat) (y : DataW H × List MemPlace) (h1 : W.cells? 0 ad 2 = some cs') (h2 : DataW.trod enc Tryz.prog W 0 (fun _ => true) true n 181 cs' = some y) :
    ∃ r : Dat, ad.spot = none ∧ Dat.At 0 W ad.block ad.off r ∧ Dat.LB 9223372036854775807 r ∧ (InsPos r.off) := by
  obtain ⟨_, hlen, hcell⟩ := World.cells?_some h1
  obtain ⟨r, a1, c1, a2, c2, e, hi, hl, hp⟩ := val_Dat h2
  subst e
  obtain ⟨b, off, spot⟩ := ad
  have q0 := hcell 0 (by omega)
  have hspot : spot = none := by simpa [Addr.add] using World.cell?_spot (a := Addr.add ⟨b, off, spot⟩ 0) q0
  subst hspot
  have q1 := hcell 1 (by omega)
  simp only [Addr.add_lit] at q0 q1
  exact ⟨r, rfl, ⟨a1, c1, a2, c2, ⟨by simpa using q0, by simpa using q1⟩, hi⟩, hl, hp⟩
set_option maxHeartbeats 2000000 in
theorem val_Cus {H : Type} {enc : TypeId × Value → H} {W : World} {n : Nat} {cs : List Value} {y : DataW H × List MemPlace} (h : DataW.trod enc Tryz.prog W 0 (fun _ => true) true n 183 cs = some y) :
    ∃ (r : Cus) (a1 : Option Addr) (c1 : Nat), cs = [.int .i64 r.aft, .string r.nm, .slice a1 r.bs.length c1] ∧ Cus.Is 0 W r a1 ∧ Cus.LB 9223372036854775807 r ∧ (True) := by
  obtain ⟨xs, k, hk, hxy, hcl, hxl, hf⟩ := DataW.trod_struct Tryz.underlying183 h
  rw [ko_Cus] at hcl
  match xs, hxl, cs, hcl with
  | [y0, y1, y2], _, [v0, v1, v2], _ =>
    have g0 := hf 0 _ rfl
    have g1 := hf 1 _ rfl
    have g2 := hf 2 _ rfl
    simp [ko2, ko4, ko5, ko9, kou, koi, kob, ko_Limits, kl_Limits, ko_GType, ko_FType, kl_FType, ko_In, kl_In, ko_Imp, kl_Imp, ko_Glob, kl_Glob, ko_Exp, kl_Exp, ko_Ele, kl_Ele, ko_Grp, kl_Grp, ko_Cod, kl_Cod, ko_Dat, kl_Dat, ko_Cus, kl_Cus, ko_Mod] at g0 g1 g2
    obtain ⟨n0, e0, _, _⟩ := DataW.trod_int Tryz.underlying2 g0
    simp at e0
    subst e0
    obtain ⟨n1, e1, _, s1⟩ := DataW.trod_string Tryz.underlying9 g1
    simp at e1
    subst e1
    obtain ⟨p2, d2, n2, e2, l2, h2⟩ := val_bytes g2
    subst e2
    exact ⟨⟨n0, n1, n2⟩, p2, d2, rfl, h2, ⟨big s1, big l2⟩, trivial⟩
theorem each_Cus {H : Type} {enc : TypeId × Value → H} {W : World} (ad : Addr) (cs' : List Value) (n : Nat) (y : DataW H × List MemPlace) (h1 : W.cells? 0 ad 3 = some cs') (h2 : DataW.trod enc Tryz.prog W 0 (fun _ => true) true n 183 cs' = some y) :
    ∃ r : Cus, ad.spot = none ∧ Cus.At 0 W ad.block ad.off r ∧ Cus.LB 9223372036854775807 r ∧ (True) := by
  obtain ⟨_, hlen, hcell⟩ := World.cells?_some h1
  obtain ⟨r, a1, c1, e, hi, hl, hp⟩ := val_Cus h2
  subst e
  obtain ⟨b, off, spot⟩ := ad
  have q0 := hcell 0 (by omega)
  have hspot : spot = none := by simpa [Addr.add] using World.cell?_spot (a := Addr.add ⟨b, off, spot⟩ 0) q0
  subst hspot
  have q1 := hcell 1 (by omega)
  have q2 := hcell 2 (by omega)
  simp only [Addr.add_lit] at q0 q1 q2
  exact ⟨r, rfl, ⟨a1, c1, ⟨by simpa using q0, by simpa using q1, by simpa using q2⟩, hi⟩, hl, hp⟩
set_option maxHeartbeats 2000000 in
theorem val_Mod {H : Type} {enc : TypeId × Value → H} {W : World} {n : Nat} {cs : List Value} {y : DataW H × List MemPlace} (h : DataW.trod enc Tryz.prog W 0 (fun _ => true) true n 33 cs = some y) :
    ∃ (r : Mod) (a1 : Option Addr) (c1 : Nat) (a2 : Option Addr) (c2 : Nat) (a3 : Option Addr) (c3 : Nat) (a4 : Option Addr) (c4 : Nat) (a5 : Option Addr) (c5 : Nat) (a6 : Option Addr) (c6 : Nat) (a7 : Option Addr) (c7 : Nat) (a8 : Option Addr) (c8 : Nat) (a9 : Option Addr) (c9 : Nat) (a10 : Option Addr) (c10 : Nat) (a11 : Option Addr) (c11 : Nat), cs = [.slice a1 r.types.length c1, .slice a2 r.imps.length c2, .slice a3 r.funcs.length c3, .slice a4 r.tabs.length c4, .slice a5 r.mems.length c5, .slice a6 r.globs.length c6, .slice a7 r.exps.length c7, .bool r.hasS, .int .i64 r.start, .slice a8 r.elems.length c8, .slice a9 r.codes.length c9, .slice a10 r.datas.length c10, .slice a11 r.customs.length c11] ∧ Mod.Is 0 W r a1 a2 a3 a4 a5 a6 a7 a8 a9 a10 a11 ∧ Mod.LB 9223372036854775807 r ∧ (r.Pos) := by
  obtain ⟨xs, k, hk, hxy, hcl, hxl, hf⟩ := DataW.trod_struct Tryz.underlying33 h
  rw [ko_Mod] at hcl
  match xs, hxl, cs, hcl with
  | [y0, y1, y2, y3, y4, y5, y6, y7, y8, y9, y10, y11, y12], _, [v0, v1, v2, v3, v4, v5, v6, v7, v8, v9, v10, v11, v12], _ =>
    have g0 := hf 0 _ rfl
    have g1 := hf 1 _ rfl
    have g2 := hf 2 _ rfl
    have g3 := hf 3 _ rfl
    have g4 := hf 4 _ rfl
    have g5 := hf 5 _ rfl
    have g6 := hf 6 _ rfl
    have g7 := hf 7 _ rfl
    have g8 := hf 8 _ rfl
    have g9 := hf 9 _ rfl
    have g10 := hf 10 _ rfl
    have g11 := hf 11 _ rfl
    have g12 := hf 12 _ rfl
    simp [ko2, ko4, ko5, ko9, kou, koi, kob, ko_Limits, kl_Limits, ko_GType, ko_FType, kl_FType, ko_In, kl_In, ko_Imp, kl_Imp, ko_Glob, kl_Glob, ko_Exp, kl_Exp, ko_Ele, kl_Ele, ko_Grp, kl_Grp, ko_Cod, kl_Cod, ko_Dat, kl_Dat, ko_Cus, kl_Cus, ko_Mod] at g0 g1 g2 g3 g4 g5 g6 g7 g8 g9 g10 g11 g12
    obtain ⟨p0, d0, n0, e0, l0, h0, z0⟩ := open_list FType.z (fun b o x => FType.At 0 W b o x) (fun x => FType.LB 9223372036854775807 x ∧ (True)) Tryz.underlying22 ko_FType (fun ad cs' n y h1 h2 => each_FType ad cs' n y h1 h2) g0
    subst e0
    obtain ⟨p1, d1, n1, e1, l1, h1, z1⟩ := open_list Imp.z (fun b o x => Imp.At 0 W b o x) (fun x => Imp.LB 9223372036854775807 x ∧ (True)) Tryz.underlying23 ko_Imp (fun ad cs' n y h1 h2 => each_Imp ad cs' n y h1 h2) g1
    subst e1
    obtain ⟨p2, d2, n2, e2, l2, h2⟩ := val_ints g2
    subst e2
    obtain ⟨p3, d3, n3, e3, l3, h3, z3⟩ := open_list Limits.z (fun b o x => Limits.At 0 W b o x) (fun x => Limits.LB 9223372036854775807 x ∧ (True)) Tryz.underlying25 ko_Limits (fun ad cs' n y h1 h2 => each_Limits ad cs' n y h1 h2) g3
    subst e3
    obtain ⟨p4, d4, n4, e4, l4, h4, z4⟩ := open_list Limits.z (fun b o x => Limits.At 0 W b o x) (fun x => Limits.LB 9223372036854775807 x ∧ (True)) Tryz.underlying25 ko_Limits (fun ad cs' n y h1 h2 => each_Limits ad cs' n y h1 h2) g4
    subst e4
    obtain ⟨p5, d5, n5, e5, l5, h5, z5⟩ := open_list Glob.z (fun b o x => Glob.At 0 W b o x) (fun x => Glob.LB 9223372036854775807 x ∧ (InsPos x.ini)) Tryz.underlying26 ko_Glob (fun ad cs' n y h1 h2 => each_Glob ad cs' n y h1 h2) g5
    subst e5
    obtain ⟨p6, d6, n6, e6, l6, h6, z6⟩ := open_list Exp.z (fun b o x => Exp.At 0 W b o x) (fun x => Exp.LB 9223372036854775807 x ∧ (True)) Tryz.underlying27 ko_Exp (fun ad cs' n y h1 h2 => each_Exp ad cs' n y h1 h2) g6
    subst e6
    obtain ⟨n7, e7, _⟩ := DataW.trod_bool Tryz.underlying4 g7
    simp at e7
    subst e7
    obtain ⟨n8, e8, _, _⟩ := DataW.trod_int Tryz.underlying2 g8
    simp at e8
    subst e8
    obtain ⟨p9, d9, n9, e9, l9, h9, z9⟩ := open_list Ele.z (fun b o x => Ele.At 0 W b o x) (fun x => Ele.LB 9223372036854775807 x ∧ (InsPos x.off)) Tryz.underlying28 ko_Ele (fun ad cs' n y h1 h2 => each_Ele ad cs' n y h1 h2) g9
    subst e9
    obtain ⟨p10, d10, n10, e10, l10, h10, z10⟩ := open_list Cod.z (fun b o x => Cod.At 0 W b o x) (fun x => Cod.LB 9223372036854775807 x ∧ (InsPos x.body)) Tryz.underlying29 ko_Cod (fun ad cs' n y h1 h2 => each_Cod ad cs' n y h1 h2) g10
    subst e10
    obtain ⟨p11, d11, n11, e11, l11, h11, z11⟩ := open_list Dat.z (fun b o x => Dat.At 0 W b o x) (fun x => Dat.LB 9223372036854775807 x ∧ (InsPos x.off)) Tryz.underlying30 ko_Dat (fun ad cs' n y h1 h2 => each_Dat ad cs' n y h1 h2) g11
    subst e11
    obtain ⟨p12, d12, n12, e12, l12, h12, z12⟩ := open_list Cus.z (fun b o x => Cus.At 0 W b o x) (fun x => Cus.LB 9223372036854775807 x ∧ (True)) Tryz.underlying31 ko_Cus (fun ad cs' n y h1 h2 => each_Cus ad cs' n y h1 h2) g12
    subst e12
    exact ⟨⟨n0, n1, n2, n3, n4, n5, n6, n7, n8, n9, n10, n11, n12⟩, p0, d0, p1, d1, p2, d2, p3, d3, p4, d4, p5, d5, p6, d6, p9, d9, p10, d10, p11, d11, p12, d12, rfl, ⟨h0, h1, h2, h3, h4, h5, h6, h9, h10, h11, h12⟩, ⟨⟨big l0, fun i hi => (z0 i hi).1⟩, ⟨big l1, fun i hi => (z1 i hi).1⟩, big l2, ⟨big l3, fun i hi => (z3 i hi).1⟩, ⟨big l4, fun i hi => (z4 i hi).1⟩, ⟨big l5, fun i hi => (z5 i hi).1⟩, ⟨big l6, fun i hi => (z6 i hi).1⟩, ⟨big l9, fun i hi => (z9 i hi).1⟩, ⟨big l10, fun i hi => (z10 i hi).1⟩, ⟨big l11, fun i hi => (z11 i hi).1⟩, ⟨big l12, fun i hi => (z12 i hi).1⟩⟩, ⟨fun i hi => (z5 i hi).2, fun i hi => (z9 i hi).2, fun i hi => (z10 i hi).2, fun i hi => (z11 i hi).2⟩⟩
end Go.Proofs.YtdbmolambolmgaaGreat

namespace Go.Proofs.YtdbmolambolmgaaGreat.fnExactWellFormed
open Go.ChangeShapes Go.WideShapes Go.ChangeAt Go.RowKit
open Go.ChangeMaps (open_string shut_string)
set_option linter.unusedVariables false

theorem own : ownKnob Tryz.prog.godebug = none := by kernel_rfl
theorem laidOut : laidOutB Tryz.prog = true := by kernel_rfl

set_option maxRecDepth 100000 in
theorem walk (v0 : Value) (w : World) (h : ∃ (x : Mod) (a1 : Option Addr) (c1 : Nat) (a2 : Option Addr) (c2 : Nat) (a3 : Option Addr) (c3 : Nat) (a4 : Option Addr) (c4 : Nat) (a5 : Option Addr) (c5 : Nat) (a6 : Option Addr) (c6 : Nat) (a7 : Option Addr) (c7 : Nat) (a8 : Option Addr) (c8 : Nat) (a9 : Option Addr) (c9 : Nat) (a10 : Option Addr) (c10 : Nat) (a11 : Option Addr) (c11 : Nat), v0 = .agg #[.slice a1 x.types.length c1, .slice a2 x.imps.length c2, .slice a3 x.funcs.length c3, .slice a4 x.tabs.length c4, .slice a5 x.mems.length c5, .slice a6 x.globs.length c6, .slice a7 x.exps.length c7, .bool x.hasS, .int .i64 x.start, .slice a8 x.elems.length c8, .slice a9 x.codes.length c9, .slice a10 x.datas.length c10, .slice a11 x.customs.length c11] ∧ Mod.Is 0 w x a1 a2 a3 a4 a5 a6 a7 a8 a9 a10 a11 ∧ Mod.LB 9223372036854775807 x ∧ x.Pos) :
    Calls Tryz.prog 3 #[v0] w fun e w' => e = .returned (.bool true) ∧ Below w.heap.size w w' := by
  obtain ⟨x, a1, c1, a2, c2, a3, c3, a4, c4, a5, c5, a6, c6, a7, c7, a8, c8, a9, c9, a10, c10, a11, c11, rfl, hi, hl, hp⟩ := h
  exact lawWF x a1 c1 a2 c2 a3 c3 a4 c4 a5 c5 a6 c6 a7 c7 a8 c8 a9 c9 a10 c10 a11 c11 w hi hl hp

set_option maxRecDepth 100000 in
theorem open_mod {H : Type} {enc : TypeId × Value → H} {W : World} {r : Reach} {b0 : Nat} {v : Value} {d : DataW H} {p : List MemPlace} (hv : Value.okWide Tryz.prog W r b0 33 v) (h : DataW.Trod enc Tryz.prog W 0 (fun _ => true) true 33 v d p) :
    ∃ (x : Mod) (a1 : Option Addr) (c1 : Nat) (a2 : Option Addr) (c2 : Nat) (a3 : Option Addr) (c3 : Nat) (a4 : Option Addr) (c4 : Nat) (a5 : Option Addr) (c5 : Nat) (a6 : Option Addr) (c6 : Nat) (a7 : Option Addr) (c7 : Nat) (a8 : Option Addr) (c8 : Nat) (a9 : Option Addr) (c9 : Nat) (a10 : Option Addr) (c10 : Nat) (a11 : Option Addr) (c11 : Nat), v = .agg #[.slice a1 x.types.length c1, .slice a2 x.imps.length c2, .slice a3 x.funcs.length c3, .slice a4 x.tabs.length c4, .slice a5 x.mems.length c5, .slice a6 x.globs.length c6, .slice a7 x.exps.length c7, .bool x.hasS, .int .i64 x.start, .slice a8 x.elems.length c8, .slice a9 x.codes.length c9, .slice a10 x.datas.length c10, .slice a11 x.customs.length c11] ∧ Mod.Is 0 W x a1 a2 a3 a4 a5 a6 a7 a8 a9 a10 a11 ∧ Mod.LB 9223372036854775807 x ∧ x.Pos := by
  obtain ⟨cs, rfl, hsz⟩ := okWide_struct Tryz.underlying33 hv
  obtain ⟨fuel, hf0⟩ := h
  obtain ⟨x, a1, c1, a2, c2, a3, c3, a4, c4, a5, c5, a6, c6, a7, c7, a8, c8, a9, c9, a10, c10, a11, c11, e, hi, hl, hp⟩ := val_Mod hf0
  refine ⟨x, a1, c1, a2, c2, a3, c3, a4, c4, a5, c5, a6, c6, a7, c7, a8, c8, a9, c9, a10, c10, a11, c11, ?_, hi, hl, hp⟩
  obtain ⟨cl⟩ := cs
  have e' : cl = [.slice a1 x.types.length c1, .slice a2 x.imps.length c2, .slice a3 x.funcs.length c3, .slice a4 x.tabs.length c4, .slice a5 x.mems.length c5, .slice a6 x.globs.length c6, .slice a7 x.exps.length c7, .bool x.hasS, .int .i64 x.start, .slice a8 x.elems.length c8, .slice a9 x.codes.length c9, .slice a10 x.datas.length c10, .slice a11 x.customs.length c11] := by simpa [Value.cells] using e
  rw [e']

set_option maxRecDepth 100000 in
theorem lifted (os : Os) (started : os.Started) (H : Type) (enc : TypeId × Value → H) :
    ReturnsInHanded {} Tryz.checked os 3 .any (Rows.fnExactWellFormedSpec.pre6 enc Tryz.prog Tryz.f3 Rows.fnExactWellFormedRow.domain false) (Rows.fnExactWellFormedSpec.post enc Tryz.prog Tryz.f3 false true false false) := by
  refine returnsInHanded_of_change (C := Tryz.checked) own started (by kernel_rfl) Tryz.func3
    (ChangeSpec.witness6 (enc := enc) (C := Tryz.checked) false ⟨#[], #[.agg #[.slice none 0 0, .slice none 0 0, .slice none 0 0, .slice none 0 0, .slice none 0 0, .slice none 0 0, .slice none 0 0, .bool false, .int .i64 0, .slice none 0 0, .slice none 0 0, .slice none 0 0, .slice none 0 0]], []⟩ 8 (by kernel_rfl) (by kernel_rfl) (by kernel_rfl) (by kernel_rfl)) ?_
  intro W base args ds gs before hval0 hW hcnd _
  have hval : ∀ (j : Nat) t v, Tryz.f3.params[j]? = some t → args[j]? = some v → Value.okWide Tryz.prog W .any base t v := hval0
  have hW' := hW
  obtain ⟨p, q, hA0, hV, rfl, hfz, hnd⟩ := hW
  have hA : DataW.TrodAll enc Tryz.prog W 0 (fun _ => true) true Tryz.f3.params.toList args.toList ds p := hA0
  rw [Tryz.params3] at hA hval
  obtain ⟨v0, vs0, d0, ds0, p0, q0, hargs, rfl, rfl, h0, r0⟩ := trodAll_cons hA
  obtain ⟨rfl, rfl, rfl⟩ := trodAll_nil r0
  obtain rfl : args = #[v0] := by cases args; simp_all
  obtain ⟨rfl, rfl⟩ := trodVars_none hV
  have k0 := h0
  have lt0 : ∀ x ∈ p0, x.block < W.heap.size := by obtain ⟨m, hm⟩ := k0; exact DataW.trod_lt m _ _ _ hm
  have w0 := open_mod (hval 0 33 v0 rfl rfl) h0
  clear hA0 hval0
  refine (walk v0 W w0).mono fun e W' ⟨he, bel⟩ => ?_
  subst he
  exact ⟨_, rfl, _, _, _, [], _, [], hW', trodAll_mk1 (shut_bool Tryz.underlying4 _), (trodAll_cons_mk (Below.trod laidOut (by kernel_rfl) (of_decide_eq_true (by kernel_rfl)) k0 bel lt0) trodAll_mk0), rfl, bel.frame _, fun h => by cases h⟩

theorem jf0 : OpenClaim.wf (OpenSpec.ofChange Rows.fnExactWellFormedSpec) Rows.fnExactWellFormedRow = true := by kernel_rfl
theorem jf1 : laidOutB Tryz.prog = true := by kernel_rfl
theorem jf2 : mapsRowed Tryz.prog = true := by kernel_rfl
theorem jf3 : (Tryz.f3.params.all fun x => Tryz.prog.readableRec x) = true := by kernel_rfl
theorem jf4 : namedTie Tryz.prog Rows.fnExactWellFormedRow.named Rows.fnExactWellFormedSpec.vars = true := by kernel_rfl
theorem jf5 : (Rows.fnExactWellFormedRow.stops == []) = true := by kernel_rfl
theorem jf6 : (Tryz.prog.stops == []) = true := by kernel_rfl
theorem jf7 : (Rows.fnExactWellFormedRow.knobs == []) = true := by kernel_rfl
theorem jf8 : (Tryz.prog.stopKnobs == []) = true := by kernel_rfl
theorem jf9 : (Rows.fnExactWellFormedRow.inPlace == Tryz.prog.inPlace 3) = true := by kernel_rfl
theorem jf10 : (Rows.fnExactWellFormedRow.unfollowed == Tryz.prog.unfollowed 3) = true := by kernel_rfl
theorem jf11 : (Rows.fnExactWellFormedRow.recurses == Tryz.prog.recurses 3) = true := by kernel_rfl
theorem jf12 : (Rows.fnExactWellFormedRow.named == Tryz.prog.varsNamed 3) = true := by kernel_rfl
theorem jf13 : (Rows.fnExactWellFormedRow.maps == (Tryz.f3.params.toList ++ DataSpec.varTypes Tryz.prog Rows.fnExactWellFormedSpec.plain).any fun x => Tryz.prog.mapsRec x) = true := by kernel_rfl
theorem jf14 : (Rows.fnExactWellFormedRow.ifaces == (Tryz.f3.params.toList ++ DataSpec.varTypes Tryz.prog Rows.fnExactWellFormedSpec.plain).any fun x => Tryz.prog.ifacesRec x) = true := by kernel_rfl
theorem jf15 : (Rows.fnExactWellFormedRow.mapsOut == Tryz.prog.mapsAmong Tryz.f3.resultTypes.toList) = true := by kernel_rfl
theorem jf16 : (Rows.fnExactWellFormedRow.loops == (Tryz.f3.params.toList ++ DataSpec.varTypes Tryz.prog Rows.fnExactWellFormedSpec.plain).any fun x => Tryz.prog.loopsFrom x) = true := by kernel_rfl
theorem jf17 : (Rows.fnExactWellFormedRow.wideKeys == (Tryz.f3.params.toList ++ DataSpec.varTypes Tryz.prog Rows.fnExactWellFormedSpec.plain ++ Tryz.f3.resultTypes.toList).any fun x => Tryz.prog.wideKeysFrom x) = true := by kernel_rfl
theorem jf18 : (Rows.fnExactWellFormedSpec.vars.all fun x => Tryz.prog.varReadable x) = true := by kernel_rfl
theorem jf19 : (Tryz.f3.resultTypes.all fun t => Tryz.prog.readableRec t && decide (t < Tryz.prog.types.size)) = true := by kernel_rfl
theorem jf20 : (Rows.fnExactWellFormedRow.ifacesOut == Tryz.f3.resultTypes.toList.any fun x => Tryz.prog.ifacesRec x) = true := by kernel_rfl
theorem jf21 : (Rows.fnExactWellFormedRow.loopsOut == Tryz.f3.resultTypes.toList.any fun x => Tryz.prog.loopsFrom x) = true := by kernel_rfl
theorem jf22 : (Rows.fnExactWellFormedRow.plainKeys == Tryz.prog.plainKeys) = true := by kernel_rfl
theorem jf23 : Rows.fnExactWellFormedRow.shortTexts.isNone = true := by kernel_rfl
theorem jf24 : Tryz.prog.stopsHeard = true := by kernel_rfl
theorem jf25 : Tryz.prog.mayEnter = true := by kernel_rfl
theorem jf26 : (Rows.fnExactWellFormedRow.lifted == Tryz.prog.liftsFinal) = true := by kernel_rfl
theorem jf27 : (Tryz.prog.make == some Rows.fnExactWellFormedRow.make) = true := by kernel_rfl
theorem jf28 : (Rows.fnExactWellFormedRow.kinds == if Rows.fnExactWellFormedRow.domain.isEmpty = true then [] else List.map (fun t => match Tryz.prog.underlying t with | some (TypeDesc.int k) => some k | x => none) Tryz.f3.params.toList) = true := by kernel_rfl
theorem jf29 : (Rows.fnExactWellFormedRow.pinned == Rows.fnExactWellFormedRow.pinnedBy) = true := by kernel_rfl
theorem jf30 : (Rows.fnExactWellFormedRow.veiled == (Tryz.f3.params.toList ++ DataSpec.varTypes Tryz.prog Rows.fnExactWellFormedSpec.plain ++ Tryz.f3.resultTypes.toList).any fun x => Tryz.prog.veiledRec x) = true := by kernel_rfl
theorem jf31 : Rows.fnExactWellFormedRow.veiledFits Tryz.prog Tryz.f3.params.toList (Tryz.f3.params.toList ++ DataSpec.varTypes Tryz.prog Rows.fnExactWellFormedSpec.plain ++ Tryz.f3.resultTypes.toList) = true := by kernel_rfl
set_option maxRecDepth 100000 in
theorem facts : joinedFacts Tryz.prog 3 Tryz.f3 Rows.fnExactWellFormedSpec Rows.fnExactWellFormedRow = true := by
  unfold joinedFacts
  simp only [Bool.and_eq_true]
  exact ⟨⟨⟨⟨⟨⟨⟨⟨⟨⟨⟨⟨⟨⟨⟨⟨⟨⟨⟨⟨⟨⟨⟨⟨⟨⟨⟨⟨⟨⟨⟨jf0, jf1⟩, jf2⟩, jf3⟩, jf4⟩, jf5⟩, jf6⟩, jf7⟩, jf8⟩, jf9⟩, jf10⟩, jf11⟩, jf12⟩, jf13⟩, jf14⟩, jf15⟩, jf16⟩, jf17⟩, jf18⟩, jf19⟩, jf20⟩, jf21⟩, jf22⟩, jf23⟩, jf24⟩, jf25⟩, jf26⟩, jf27⟩, jf28⟩, jf29⟩, jf30⟩, jf31⟩
theorem over : Rows.fnExactWellFormedRow.holds Tryz.pinned (OpenSpec.ofChange Rows.fnExactWellFormedSpec) :=
  OpenClaim.holds_of_wide 3 Tryz.f3 rfl rfl rfl rfl rfl rfl rfl ⟨rfl, rfl, rfl, rfl, rfl⟩ rfl rfl rfl rfl rfl (by kernel_rfl) Tryz.func3 facts
    (of_decide_eq_true (by kernel_rfl)) (by unfold Func.isWrapper; first | (rw [if_pos (by decide +kernel)]; kernel_rfl) | (rw [if_neg (by decide +kernel)]; exact ⟨rfl, rfl⟩))
    (fun os started H enc _ => lifted os started H enc)

end Go.Proofs.YtdbmolambolmgaaGreat.fnExactWellFormed
namespace Go.Proofs.YtdbmolambolmgaaGreat
theorem fnExactWellFormed_holds : Rows.FnExactWellFormedSaid := fnExactWellFormed.over
#print axioms fnExactWellFormed_holds
end Go.Proofs.YtdbmolambolmgaaGreat
