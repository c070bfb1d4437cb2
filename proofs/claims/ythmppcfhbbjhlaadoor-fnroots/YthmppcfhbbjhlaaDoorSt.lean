import Derived.Test.YthmppcfhbbjhlaaDoorWh
import Derived.Test.YthmppcfhbbjhlaaDoorIw
set_option linter.all false
namespace Go.Proofs.YthmppcfhbbjhlaaDoor
open Go.RowKit Go.Sort

/-- The answer's block. -/
def R3 (w : World) (g : Nat) (a b c : Value) : Prop :=
  C3 w g a b c ∧ (w.frozen? ⟨g, 0, none⟩ = false ∧ w.frozen? ⟨g, 1, none⟩ = false ∧ w.frozen? ⟨g, 2, none⟩ = false)
theorem r3_new {w : World} {a b c : Value} {t : TypeId} : R3 (w.alloc (.cells #[a, b, c] t)) w.heap.size a b c :=
  ⟨c3_new, ⟨World.frozen?_alloc_new w _ t _, World.frozen?_alloc_new w _ t _, World.frozen?_alloc_new w _ t _⟩⟩
theorem R3.keep {w w1 : World} {g : Nat} {a b c : Value} (h : R3 w g a b c) (hb : Below w.heap.size w w1) : R3 w1 g a b c := by
  have hl := h.1.lt
  obtain ⟨h1, f0, f1, f2⟩ := h
  exact ⟨h1.keep hb, (hb.frozen (p := ⟨g, 0, none⟩) hl).trans f0, (hb.frozen (p := ⟨g, 1, none⟩) hl).trans f1, (hb.frozen (p := ⟨g, 2, none⟩) hl).trans f2⟩
theorem R3.past {w : World} {o : Obj} {g : Nat} {a b c : Value} (h : R3 w g a b c) : R3 (w.alloc o) g a b c :=
  h.keep ((Below.refl _ _).alloc (Nat.le_refl _) _)
theorem r3_mid {w : World} {a b c : Value} {t : TypeId} {o : Obj} : R3 ((w.alloc o).alloc (.cells #[a, b, c] t)) (w.heap.size + 1) a b c := by
  have h := r3_new (w := w.alloc o) (a := a) (b := b) (c := c) (t := t)
  have e : (w.alloc o).heap.size = w.heap.size + 1 := by simp
  rw [e] at h
  exact h
abbrev RZ (w : World) (g : Nat) : Prop := R3 w g (.bool false) (.int .i64 0) (.int .u64 0)

set_option maxHeartbeats 2000000 in
theorem swrite_n_2 (g : Bool) (x : Int) (v : Value) (w : World) : Calls Tryd.prog 29 #[FSn, SV 2 g v x] w fun e w' => e = .returned (.int .u64 2143289344) ∧ Below w.heap.size w w' := by
  go_enter Tryd.func29, Tryd.ntmps29
  go_wp2_with fail
  refine (nan_n _).mono ?_
  rintro e w1 ⟨rfl, hb⟩
  have HB := Hid.mk' (below2 hb)
  clear hb
  go_wp2
  go_ret
  exact ⟨rfl, HB.out⟩
set_option maxHeartbeats 2000000 in
theorem swrite_n_1 (g : Bool) (x : Int) (v : Value) (w : World) : Calls Tryd.prog 29 #[FSn, SV 1 g v x] w fun e w' => e = .returned (.int .u64 (sg_n g + 2139095040)) ∧ Below w.heap.size w w' := by
  go_enter Tryd.func29, Tryd.ntmps29
  go_wp2_with fail
  refine (inf_n _ _).mono ?_
  rintro e w1 ⟨rfl, hb⟩
  have HB := Hid.mk' (below2 hb)
  clear hb
  go_wp2
  go_ret
  exact ⟨rfl, HB.out⟩
set_option maxHeartbeats 2000000 in
theorem swrite_n_0 (g : Bool) (x : Int) (v : Value) (R : Int) (w : World) (KR : ∀ w', Below w.heap.size w w' → Hid (Calls Tryd.prog 30 #[FSn, .bool g, v, .int .i64 x, .bool false] w' fun e w'' => e = .returned (.int .u64 R) ∧ Below w'.heap.size w' w'')) :
    Calls Tryd.prog 29 #[FSn, SV 0 g v x] w fun e w' => e = .returned (.int .u64 R) ∧ Below w.heap.size w w' := by
  go_enter Tryd.func29, Tryd.ntmps29
  go_wp2_with fail
  refine (KR _ (((Below.refl _ _).alloc (Nat.le_refl _) _).alloc (by simp) _)).out.mono ?_
  rintro e w1 ⟨rfl, hb⟩
  have HB := Hid.mk' (below2 hb)
  clear hb
  go_wp2
  go_ret
  exact ⟨rfl, HB.out⟩
theorem swrite_n (k : Int) (g : Bool) (x : Int) (s : Nat) (v : Value) (w : World) (hk : k = 0 ∨ k = 1 ∨ k = 2) (hs : bl s ≤ 4000) (hx : -4000 ≤ x) (hx' : x ≤ 4000) (hS : SN w v s) :
    Calls Tryd.prog 29 #[FSn, SV k g v x] w fun e w' => e = .returned (.int .u64 (wr_n k g s x)) ∧ Below w.heap.size w w' := by
  rcases hk with rfl | rfl | rfl
  · exact swrite_n_0 g x v _ w (fun w' hb => round_n g false s x v w' hs hx hx' (hS.below hb))
  · exact swrite_n_1 g x v w
  · exact swrite_n_2 g x v w
set_option maxHeartbeats 2000000 in
theorem form_n (w : World) : Calls Tryd.prog 40 #[] w fun e w' => e = .returned FSn ∧ Below w.heap.size w w' := by
  go_enter Tryd.func40, Tryd.ntmps40
  go_wp2
  exact bodyPost_ret (v := FSn) (by simp [results, Tryd.results40, go_sem]) rfl ⟨rfl, by repeat (first | exact Below.refl _ _ | refine Below.setCell ?_ (by first | (simp; done) | (simp; omega) | omega) _ | refine Below.alloc ?_ (by first | (simp; done) | (simp; omega)) _ | refine Below.drew ?_ | refine below_drewN ?_ _)⟩
set_option maxHeartbeats 2000000 in
theorem swrite_w_2 (g : Bool) (x : Int) (v : Value) (w : World) : Calls Tryd.prog 29 #[FSw, SV 2 g v x] w fun e w' => e = .returned (.int .u64 9221120237041090560) ∧ Below w.heap.size w w' := by
  go_enter Tryd.func29, Tryd.ntmps29
  go_wp2_with fail
  refine (nan_w _).mono ?_
  rintro e w1 ⟨rfl, hb⟩
  have HB := Hid.mk' (below2 hb)
  clear hb
  go_wp2
  go_ret
  exact ⟨rfl, HB.out⟩
set_option maxHeartbeats 2000000 in
theorem swrite_w_1 (g : Bool) (x : Int) (v : Value) (w : World) : Calls Tryd.prog 29 #[FSw, SV 1 g v x] w fun e w' => e = .returned (.int .u64 (sg_w g + 9218868437227405312)) ∧ Below w.heap.size w w' := by
  go_enter Tryd.func29, Tryd.ntmps29
  go_wp2_with fail
  refine (inf_w _ _).mono ?_
  rintro e w1 ⟨rfl, hb⟩
  have HB := Hid.mk' (below2 hb)
  clear hb
  go_wp2
  go_ret
  exact ⟨rfl, HB.out⟩
set_option maxHeartbeats 2000000 in
theorem swrite_w_0 (g : Bool) (x : Int) (v : Value) (R : Int) (w : World) (KR : ∀ w', Below w.heap.size w w' → Hid (Calls Tryd.prog 30 #[FSw, .bool g, v, .int .i64 x, .bool false] w' fun e w'' => e = .returned (.int .u64 R) ∧ Below w'.heap.size w' w'')) :
    Calls Tryd.prog 29 #[FSw, SV 0 g v x] w fun e w' => e = .returned (.int .u64 R) ∧ Below w.heap.size w w' := by
  go_enter Tryd.func29, Tryd.ntmps29
  go_wp2_with fail
  refine (KR _ (((Below.refl _ _).alloc (Nat.le_refl _) _).alloc (by simp) _)).out.mono ?_
  rintro e w1 ⟨rfl, hb⟩
  have HB := Hid.mk' (below2 hb)
  clear hb
  go_wp2
  go_ret
  exact ⟨rfl, HB.out⟩
theorem swrite_w (k : Int) (g : Bool) (x : Int) (s : Nat) (v : Value) (w : World) (hk : k = 0 ∨ k = 1 ∨ k = 2) (hs : bl s ≤ 4000) (hx : -4000 ≤ x) (hx' : x ≤ 4000) (hS : SN w v s) :
    Calls Tryd.prog 29 #[FSw, SV k g v x] w fun e w' => e = .returned (.int .u64 (wr_w k g s x)) ∧ Below w.heap.size w w' := by
  rcases hk with rfl | rfl | rfl
  · exact swrite_w_0 g x v _ w (fun w' hb => round_w g false s x v w' hs hx hx' (hS.below hb))
  · exact swrite_w_1 g x v w
  · exact swrite_w_2 g x v w
set_option maxHeartbeats 2000000 in
theorem form_w (w : World) : Calls Tryd.prog 41 #[] w fun e w' => e = .returned FSw ∧ Below w.heap.size w w' := by
  go_enter Tryd.func41, Tryd.ntmps41
  go_wp2
  exact bodyPost_ret (v := FSw) (by simp [results, Tryd.results41, go_sem]) rfl ⟨rfl, by repeat (first | exact Below.refl _ _ | refine Below.setCell ?_ (by first | (simp; done) | (simp; omega) | omega) _ | refine Below.alloc ?_ (by first | (simp; done) | (simp; omega)) _ | refine Below.drew ?_ | refine below_drewN ?_ _)⟩
set_option maxHeartbeats 2000000 in
theorem trunc_2 (g sg : Bool) (x wd : Int) (v : Value) (w : World) : Calls Tryd.prog 42 #[SV 2 g v x, .int .i64 wd, .bool sg] w fun e w' => e = .returned (RV true 4 0) ∧ Below w.heap.size w w' := by
  go_enter Tryd.func42, Tryd.ntmps42
  go_wp2_with fail
  refine (trap_any _ _).mono ?_
  rintro e w1 ⟨rfl, hb⟩
  obtain ⟨⟨r0, r1, r2⟩, v0, v1, v2⟩ := r3_mid.keep hb
  have HB := Hid.mk' (below2 hb)
  clear hb
  go_wp2
  exact bodyPost_ret (v := RV true 4 0) (by simp [results, Tryd.results42, go_sem, r0, r1, r2]) rfl ⟨rfl, by repeat (first | exact HB.out | refine Below.setCell ?_ (by first | (simp; done) | (simp; omega) | omega) _)⟩
set_option maxHeartbeats 2000000 in
theorem trunc_1 (g sg : Bool) (x wd : Int) (v : Value) (w : World) : Calls Tryd.prog 42 #[SV 1 g v x, .int .i64 wd, .bool sg] w fun e w' => e = .returned (RV true 3 0) ∧ Below w.heap.size w w' := by
  go_enter Tryd.func42, Tryd.ntmps42
  go_wp2_with fail
  refine (trap_any _ _).mono ?_
  rintro e w1 ⟨rfl, hb⟩
  obtain ⟨⟨r0, r1, r2⟩, v0, v1, v2⟩ := r3_mid.keep hb
  have HB := Hid.mk' (below2 hb)
  clear hb
  go_wp2
  exact bodyPost_ret (v := RV true 3 0) (by simp [results, Tryd.results42, go_sem, r0, r1, r2]) rfl ⟨rfl, by repeat (first | exact HB.out | refine Below.setCell ?_ (by first | (simp; done) | (simp; omega) | omega) _)⟩
theorem sn_nil {w : World} {a : Option Addr} {cap : Nat} : SN w (.slice a 0 cap) 0 := ⟨a, cap, by rw [dg_zero]; rfl, .inl (by rw [dg_zero])⟩
theorem cmp_gt (x y : Nat) : decide (0 < cmpI x y) = decide (y < x) := by
  unfold cmpI; rw [decide_eq_decide]; split
  · omega
  · split <;> omega
theorem cmp_ge (x y : Nat) : decide (0 ≤ cmpI x y) = decide (y ≤ x) := by
  unfold cmpI; rw [decide_eq_decide]; split
  · omega
  · split <;> omega
set_option maxHeartbeats 4000000 in
theorem trunc_32_uf_o (x : Int) (v : Value) (t : Nat) (w : World) (ht : bl t ≤ 9000) (KW : ∀ w', Below w.heap.size w w' → Hid (Calls Tryd.prog 31 #[SV 0 false v x, .int .i64 2] w' fun e w'' => (∃ u, e = .returned u ∧ SN w'' u t) ∧ Below w'.heap.size w' w'')) (ho : 4294967296 ≤ t) :
    Calls Tryd.prog 42 #[SV 0 false v x, .int .i64 32, .bool false] w fun e w' => e = .returned (RV true 3 0) ∧ Below w.heap.size w w' := by
  go_enter Tryd.func42, Tryd.ntmps42
  go_wp2_with fail
  refine (KW _ (((Below.refl _ _).alloc (Nat.le_refl _) _).alloc (by simp) _)).out.mono ?_
  rintro e w1 ⟨⟨u, rfl, hu⟩, hb⟩
  have CN := Hid.mk' (c4_new.past.keep hb)
  have CR := Hid.mk' (r3_mid.keep hb)
  have HB := Hid.mk' (below2 hb)
  have hl1 := CN.out.lt
  have KT1 := Hid.mk' (left_int _ 1 32 (w1.alloc (.cells #[.int .u64 1] 22)) (by omega) (by omega) (by rw [show bl 1 = 1 by decide]; omega) sn_one)
  have HU := Hid.mk' hu
  clear hu hb KW
  go_wp2_with fail
  refine KT1.out.mono ?_
  rintro e w2 ⟨⟨tv, rfl, htv⟩, hb⟩
  have hb' := ((Below.refl w1.heap.size w1).alloc (Nat.le_refl _) _).trans (hb.mono (by simp))
  have CN2 := Hid.mk' (CN.out.keep hb')
  have CR2 := Hid.mk' (CR.out.keep hb')
  have HU2 := Hid.mk' (HU.out.below hb')
  have HB2 := Hid.mk' (HB.out.trans (hb'.mono HB.out.size))
  have HT := Hid.mk' htv
  clear htv hb hb' CN CR HU HB KT1 hl1
  have CN := CN2
  have CR := CR2
  have HU := HU2
  have HB := HB2
  clear CN2 CR2 HU2 HB2
  obtain ⟨c0, c1, c2, c3⟩ := CN.out
  have KC := Hid.mk' (compare_any u tv t (1 * 2 ^ (32 : Int).toNat) w2 (by omega) (by have := bl_mul (x := 1) (by decide) (32 : Int).toNat; rw [this, show bl 1 = 1 by decide, show (32 : Int).toNat = 32 by decide]; omega) HU.out HT.out)
  rw [show 1 * 2 ^ (32 : Int).toNat = 4294967296 by decide] at KC
  have CR3 := CR
  have HB3 := HB
  have HU3 := HU
  have hq := cmp_ge t 4294967296
  generalize cmpI t 4294967296 = cz at *
  clear CR HB HU HT CN
  rw [show decide (4294967296 ≤ t) = true by simpa using ho] at hq
  have hq' : 0 ≤ cz := by exact of_decide_eq_true hq
  clear hq
  go_wp2_with fail
  refine KC.out.mono ?_
  rintro e w' ⟨rfl, rfl⟩
  go_wp2_with fail
  refine (trap_any _ _).mono ?_
  rintro e w4 ⟨rfl, hb⟩
  obtain ⟨⟨r0, r1, r2⟩, v0, v1, v2⟩ := CR3.out.keep hb
  have HB4 := Hid.mk' (HB3.out.trans (hb.mono HB3.out.size))
  clear hb CR3 HB3 HU3 KC c0 c1 c2 c3
  go_wp2
  exact bodyPost_ret (v := RV true 3 0) (by simp [results, Tryd.results42, go_sem, r0, r1, r2]) rfl ⟨rfl, by repeat (first | exact HB4.out | refine Below.setCell ?_ (by first | (simp; done) | (simp; omega) | omega) _)⟩
set_option maxHeartbeats 4000000 in
theorem trunc_32_uf_i (x : Int) (v : Value) (t : Nat) (w : World) (ht : bl t ≤ 9000) (KW : ∀ w', Below w.heap.size w w' → Hid (Calls Tryd.prog 31 #[SV 0 false v x, .int .i64 2] w' fun e w'' => (∃ u, e = .returned u ∧ SN w'' u t) ∧ Below w'.heap.size w' w'')) (ho : t < 4294967296) :
    Calls Tryd.prog 42 #[SV 0 false v x, .int .i64 32, .bool false] w fun e w' => e = .returned (RV true 0 (t : Int)) ∧ Below w.heap.size w w' := by
  go_enter Tryd.func42, Tryd.ntmps42
  go_wp2_with fail
  refine (KW _ (((Below.refl _ _).alloc (Nat.le_refl _) _).alloc (by simp) _)).out.mono ?_
  rintro e w1 ⟨⟨u, rfl, hu⟩, hb⟩
  have CN := Hid.mk' (c4_new.past.keep hb)
  have CR := Hid.mk' (r3_mid.keep hb)
  have HB := Hid.mk' (below2 hb)
  have hl1 := CN.out.lt
  have KT1 := Hid.mk' (left_int _ 1 32 (w1.alloc (.cells #[.int .u64 1] 22)) (by omega) (by omega) (by rw [show bl 1 = 1 by decide]; omega) sn_one)
  have HU := Hid.mk' hu
  clear hu hb KW
  go_wp2_with fail
  refine KT1.out.mono ?_
  rintro e w2 ⟨⟨tv, rfl, htv⟩, hb⟩
  have hb' := ((Below.refl w1.heap.size w1).alloc (Nat.le_refl _) _).trans (hb.mono (by simp))
  have CN2 := Hid.mk' (CN.out.keep hb')
  have CR2 := Hid.mk' (CR.out.keep hb')
  have HU2 := Hid.mk' (HU.out.below hb')
  have HB2 := Hid.mk' (HB.out.trans (hb'.mono HB.out.size))
  have HT := Hid.mk' htv
  clear htv hb hb' CN CR HU HB KT1 hl1
  have CN := CN2
  have CR := CR2
  have HU := HU2
  have HB := HB2
  clear CN2 CR2 HU2 HB2
  obtain ⟨c0, c1, c2, c3⟩ := CN.out
  have KC := Hid.mk' (compare_any u tv t (1 * 2 ^ (32 : Int).toNat) w2 (by omega) (by have := bl_mul (x := 1) (by decide) (32 : Int).toNat; rw [this, show bl 1 = 1 by decide, show (32 : Int).toNat = 32 by decide]; omega) HU.out HT.out)
  rw [show 1 * 2 ^ (32 : Int).toNat = 4294967296 by decide] at KC
  have CR3 := CR
  have HB3 := HB
  have HU3 := HU
  have hq := cmp_ge t 4294967296
  generalize cmpI t 4294967296 = cz at *
  clear CR HB HU HT CN
  rw [show decide (4294967296 ≤ t) = false by simpa using ho] at hq
  have hq' : ¬ 0 ≤ cz := by exact of_decide_eq_false hq
  clear hq
  go_wp2_with fail
  refine KC.out.mono ?_
  rintro e w' ⟨rfl, rfl⟩
  have KWd := Hid.mk' (word_any u t _ (by omega) HU3.out)
  go_wp2_with fail
  refine KWd.out.mono ?_
  rintro e w' ⟨rfl, rfl⟩
  have KV := fun w => Hid.mk' (val_eq (t : Int) (t : Int) w (by first | rfl | (rw [IntKind.wrap_u64]; omega)))
  go_wp2_with fail
  refine (KV _).out.mono ?_
  rintro e w4 ⟨rfl, hb⟩
  obtain ⟨⟨r0, r1, r2⟩, v0, v1, v2⟩ := CR3.out.keep hb
  have HB4 := Hid.mk' (HB3.out.trans (hb.mono HB3.out.size))
  clear hb CR3 HB3 HU3 KC c0 c1 c2 c3 KWd KV
  go_wp2
  exact bodyPost_ret (v := RV true 0 (t : Int)) (by simp [results, Tryd.results42, go_sem, r0, r1, r2]) rfl ⟨rfl, by repeat (first | exact HB4.out | refine Below.setCell ?_ (by first | (simp; done) | (simp; omega) | omega) _)⟩
set_option maxHeartbeats 4000000 in
theorem trunc_32_ut_o (x : Int) (v : Value) (t : Nat) (w : World) (ht : bl t ≤ 9000) (KW : ∀ w', Below w.heap.size w w' → Hid (Calls Tryd.prog 31 #[SV 0 true v x, .int .i64 2] w' fun e w'' => (∃ u, e = .returned u ∧ SN w'' u t) ∧ Below w'.heap.size w' w'')) (ho : 0 < t) :
    Calls Tryd.prog 42 #[SV 0 true v x, .int .i64 32, .bool false] w fun e w' => e = .returned (RV true 3 0) ∧ Below w.heap.size w w' := by
  go_enter Tryd.func42, Tryd.ntmps42
  go_wp2_with fail
  refine (KW _ (((Below.refl _ _).alloc (Nat.le_refl _) _).alloc (by simp) _)).out.mono ?_
  rintro e w1 ⟨⟨u, rfl, hu⟩, hb⟩
  have CN := Hid.mk' (c4_new.past.keep hb)
  have CR := Hid.mk' (r3_mid.keep hb)
  have HB := Hid.mk' (below2 hb)
  have hl1 := CN.out.lt
  have KT1 := Hid.mk' (left_int _ 1 32 (w1.alloc (.cells #[.int .u64 1] 22)) (by omega) (by omega) (by rw [show bl 1 = 1 by decide]; omega) sn_one)
  have HU := Hid.mk' hu
  clear hu hb KW
  go_wp2_with fail
  refine KT1.out.mono ?_
  rintro e w2 ⟨⟨tv, rfl, htv⟩, hb⟩
  have hb' := ((Below.refl w1.heap.size w1).alloc (Nat.le_refl _) _).trans (hb.mono (by simp))
  have CN2 := Hid.mk' (CN.out.keep hb')
  have CR2 := Hid.mk' (CR.out.keep hb')
  have HU2 := Hid.mk' (HU.out.below hb')
  have HB2 := Hid.mk' (HB.out.trans (hb'.mono HB.out.size))
  have HT := Hid.mk' htv
  clear htv hb hb' CN CR HU HB KT1 hl1
  have CN := CN2
  have CR := CR2
  have HU := HU2
  have HB := HB2
  clear CN2 CR2 HU2 HB2
  obtain ⟨c0, c1, c2, c3⟩ := CN.out
  have KC := Hid.mk' (compare_any u (.slice (some ⟨w2.heap.size, 0, none⟩) 0 0) t 0 (w2.alloc (.cells #[] 22)) (by omega) (by rw [bl_zero]; omega) (HU.out.below ((Below.refl _ _).alloc (Nat.le_refl _) _)) sn_nil)
  have hsz := HB.out.size
  have CR3 := Hid.mk' (CR.out.past (o := .cells #[] 22))
  have HB3 := Hid.mk' (HB.out.alloc HB.out.size (.cells #[] 22))
  have HU3 := Hid.mk' (HU.out.below ((Below.refl w2.heap.size w2).alloc (Nat.le_refl _) (.cells #[] 22)))
  have hq := cmp_gt t 0
  generalize cmpI t 0 = cz at *
  clear CR HB HU HT CN
  rw [show decide (0 < t) = true by simpa using ho] at hq
  have hq' : 0 < cz := by exact of_decide_eq_true hq
  clear hq
  go_wp2_with fail
  refine KC.out.mono ?_
  rintro e w' ⟨rfl, rfl⟩
  go_wp2_with fail
  refine (trap_any _ _).mono ?_
  rintro e w4 ⟨rfl, hb⟩
  obtain ⟨⟨r0, r1, r2⟩, v0, v1, v2⟩ := CR3.out.keep hb
  have HB4 := Hid.mk' (HB3.out.trans (hb.mono HB3.out.size))
  clear hb CR3 HB3 HU3 KC c0 c1 c2 c3
  go_wp2
  exact bodyPost_ret (v := RV true 3 0) (by simp [results, Tryd.results42, go_sem, r0, r1, r2]) rfl ⟨rfl, by repeat (first | exact HB4.out | refine Below.setCell ?_ (by first | (simp; done) | (simp; omega) | omega) _)⟩
set_option maxHeartbeats 4000000 in
theorem trunc_32_ut_i (x : Int) (v : Value) (t : Nat) (w : World) (ht : bl t ≤ 9000) (KW : ∀ w', Below w.heap.size w w' → Hid (Calls Tryd.prog 31 #[SV 0 true v x, .int .i64 2] w' fun e w'' => (∃ u, e = .returned u ∧ SN w'' u t) ∧ Below w'.heap.size w' w'')) (ho : t ≤ 0) :
    Calls Tryd.prog 42 #[SV 0 true v x, .int .i64 32, .bool false] w fun e w' => e = .returned (RV true 0 0) ∧ Below w.heap.size w w' := by
  obtain rfl : t = 0 := by omega
  go_enter Tryd.func42, Tryd.ntmps42
  go_wp2_with fail
  refine (KW _ (((Below.refl _ _).alloc (Nat.le_refl _) _).alloc (by simp) _)).out.mono ?_
  rintro e w1 ⟨⟨u, rfl, hu⟩, hb⟩
  have CN := Hid.mk' (c4_new.past.keep hb)
  have CR := Hid.mk' (r3_mid.keep hb)
  have HB := Hid.mk' (below2 hb)
  have hl1 := CN.out.lt
  have KT1 := Hid.mk' (left_int _ 1 32 (w1.alloc (.cells #[.int .u64 1] 22)) (by omega) (by omega) (by rw [show bl 1 = 1 by decide]; omega) sn_one)
  have HU := Hid.mk' hu
  clear hu hb KW
  go_wp2_with fail
  refine KT1.out.mono ?_
  rintro e w2 ⟨⟨tv, rfl, htv⟩, hb⟩
  have hb' := ((Below.refl w1.heap.size w1).alloc (Nat.le_refl _) _).trans (hb.mono (by simp))
  have CN2 := Hid.mk' (CN.out.keep hb')
  have CR2 := Hid.mk' (CR.out.keep hb')
  have HU2 := Hid.mk' (HU.out.below hb')
  have HB2 := Hid.mk' (HB.out.trans (hb'.mono HB.out.size))
  have HT := Hid.mk' htv
  clear htv hb hb' CN CR HU HB KT1 hl1
  have CN := CN2
  have CR := CR2
  have HU := HU2
  have HB := HB2
  clear CN2 CR2 HU2 HB2
  obtain ⟨c0, c1, c2, c3⟩ := CN.out
  have KC := Hid.mk' (compare_any u (.slice (some ⟨w2.heap.size, 0, none⟩) 0 0) 0 0 (w2.alloc (.cells #[] 22)) (by omega) (by rw [bl_zero]; omega) (HU.out.below ((Below.refl _ _).alloc (Nat.le_refl _) _)) sn_nil)
  have hsz := HB.out.size
  have CR3 := Hid.mk' (CR.out.past (o := .cells #[] 22))
  have HB3 := Hid.mk' (HB.out.alloc HB.out.size (.cells #[] 22))
  have HU3 := Hid.mk' (HU.out.below ((Below.refl w2.heap.size w2).alloc (Nat.le_refl _) (.cells #[] 22)))
  have hq := cmp_gt 0 0
  generalize cmpI 0 0 = cz at *
  clear CR HB HU HT CN
  rw [show decide (0 < 0) = false by decide] at hq
  have hq' : ¬ 0 < cz := by exact of_decide_eq_false hq
  clear hq
  go_wp2_with fail
  refine KC.out.mono ?_
  rintro e w' ⟨rfl, rfl⟩
  have KWd := Hid.mk' (word_any u 0 _ (by omega) HU3.out)
  go_wp2_with fail
  refine KWd.out.mono ?_
  rintro e w' ⟨rfl, rfl⟩
  have KLo := fun w => Hid.mk' (low32 0 w (by omega) (by omega))
  go_wp2_with fail
  refine (KLo _).out.mono ?_
  rintro e w' ⟨rfl, rfl⟩
  have KV := fun w => Hid.mk' (val_eq 0 0 w (by first | rfl | (rw [IntKind.wrap_u64]; omega)))
  go_wp2_with fail
  refine (KV _).out.mono ?_
  rintro e w4 ⟨rfl, hb⟩
  obtain ⟨⟨r0, r1, r2⟩, v0, v1, v2⟩ := CR3.out.keep hb
  have HB4 := Hid.mk' (HB3.out.trans (hb.mono HB3.out.size))
  clear hb CR3 HB3 HU3 KC c0 c1 c2 c3 KWd KV
  go_wp2
  exact bodyPost_ret (v := RV true 0 0) (by simp [results, Tryd.results42, go_sem, r0, r1, r2]) rfl ⟨rfl, by repeat (first | exact HB4.out | refine Below.setCell ?_ (by first | (simp; done) | (simp; omega) | omega) _)⟩
set_option maxHeartbeats 4000000 in
theorem trunc_32_sf_o (x : Int) (v : Value) (t : Nat) (w : World) (ht : bl t ≤ 9000) (KW : ∀ w', Below w.heap.size w w' → Hid (Calls Tryd.prog 31 #[SV 0 false v x, .int .i64 2] w' fun e w'' => (∃ u, e = .returned u ∧ SN w'' u t) ∧ Below w'.heap.size w' w'')) (ho : 2147483648 ≤ t) :
    Calls Tryd.prog 42 #[SV 0 false v x, .int .i64 32, .bool true] w fun e w' => e = .returned (RV true 3 0) ∧ Below w.heap.size w w' := by
  go_enter Tryd.func42, Tryd.ntmps42
  go_wp2_with fail
  refine (KW _ (((Below.refl _ _).alloc (Nat.le_refl _) _).alloc (by simp) _)).out.mono ?_
  rintro e w1 ⟨⟨u, rfl, hu⟩, hb⟩
  have CN := Hid.mk' (c4_new.past.keep hb)
  have CR := Hid.mk' (r3_mid.keep hb)
  have HB := Hid.mk' (below2 hb)
  have hl1 := CN.out.lt
  have KT1 := Hid.mk' (left_int _ 1 32 (w1.alloc (.cells #[.int .u64 1] 22)) (by omega) (by omega) (by rw [show bl 1 = 1 by decide]; omega) sn_one)
  have HU := Hid.mk' hu
  clear hu hb KW
  go_wp2_with fail
  refine KT1.out.mono ?_
  rintro e w2 ⟨⟨tv, rfl, htv⟩, hb⟩
  have hb' := ((Below.refl w1.heap.size w1).alloc (Nat.le_refl _) _).trans (hb.mono (by simp))
  have CN2 := Hid.mk' (CN.out.keep hb')
  have CR2 := Hid.mk' (CR.out.keep hb')
  have HU2 := Hid.mk' (HU.out.below hb')
  have HB2 := Hid.mk' (HB.out.trans (hb'.mono HB.out.size))
  have HT := Hid.mk' htv
  clear htv hb hb' CN CR HU HB KT1 hl1
  have KT1 := Hid.mk' (left_int _ 1 31 (w2.alloc (.cells #[.int .u64 1] 22)) (by omega) (by omega) (by rw [show bl 1 = 1 by decide]; omega) sn_one)
  clear HT
  go_wp2_with fail
  refine KT1.out.mono ?_
  rintro e w3 ⟨⟨tv, rfl, htv⟩, hb⟩
  have hb' := ((Below.refl w2.heap.size w2).alloc (Nat.le_refl _) _).trans (hb.mono (by simp))
  have CN := Hid.mk' (CN2.out.keep hb')
  have CR := Hid.mk' (CR2.out.keep hb')
  have HU := Hid.mk' (HU2.out.below hb')
  have HB := Hid.mk' (HB2.out.trans (hb'.mono HB2.out.size))
  have HT := Hid.mk' htv
  clear htv hb hb' CN2 CR2 HU2 HB2 KT1
  generalize w3 = w2 at *
  obtain ⟨c0, c1, c2, c3⟩ := CN.out
  have KC := Hid.mk' (compare_any u tv t (1 * 2 ^ (31 : Int).toNat) w2 (by omega) (by have := bl_mul (x := 1) (by decide) (31 : Int).toNat; rw [this, show bl 1 = 1 by decide, show (31 : Int).toNat = 31 by decide]; omega) HU.out HT.out)
  rw [show 1 * 2 ^ (31 : Int).toNat = 2147483648 by decide] at KC
  have CR3 := CR
  have HB3 := HB
  have HU3 := HU
  have hq := cmp_ge t 2147483648
  generalize cmpI t 2147483648 = cz at *
  clear CR HB HU HT CN
  rw [show decide (2147483648 ≤ t) = true by simpa using ho] at hq
  have hq' : 0 ≤ cz := by exact of_decide_eq_true hq
  clear hq
  go_wp2_with fail
  refine KC.out.mono ?_
  rintro e w' ⟨rfl, rfl⟩
  go_wp2_with fail
  refine (trap_any _ _).mono ?_
  rintro e w4 ⟨rfl, hb⟩
  obtain ⟨⟨r0, r1, r2⟩, v0, v1, v2⟩ := CR3.out.keep hb
  have HB4 := Hid.mk' (HB3.out.trans (hb.mono HB3.out.size))
  clear hb CR3 HB3 HU3 KC c0 c1 c2 c3
  go_wp2
  exact bodyPost_ret (v := RV true 3 0) (by simp [results, Tryd.results42, go_sem, r0, r1, r2]) rfl ⟨rfl, by repeat (first | exact HB4.out | refine Below.setCell ?_ (by first | (simp; done) | (simp; omega) | omega) _)⟩
set_option maxHeartbeats 4000000 in
theorem trunc_32_sf_i (x : Int) (v : Value) (t : Nat) (w : World) (ht : bl t ≤ 9000) (KW : ∀ w', Below w.heap.size w w' → Hid (Calls Tryd.prog 31 #[SV 0 false v x, .int .i64 2] w' fun e w'' => (∃ u, e = .returned u ∧ SN w'' u t) ∧ Below w'.heap.size w' w'')) (ho : t < 2147483648) :
    Calls Tryd.prog 42 #[SV 0 false v x, .int .i64 32, .bool true] w fun e w' => e = .returned (RV true 0 (t : Int)) ∧ Below w.heap.size w w' := by
  go_enter Tryd.func42, Tryd.ntmps42
  go_wp2_with fail
  refine (KW _ (((Below.refl _ _).alloc (Nat.le_refl _) _).alloc (by simp) _)).out.mono ?_
  rintro e w1 ⟨⟨u, rfl, hu⟩, hb⟩
  have CN := Hid.mk' (c4_new.past.keep hb)
  have CR := Hid.mk' (r3_mid.keep hb)
  have HB := Hid.mk' (below2 hb)
  have hl1 := CN.out.lt
  have KT1 := Hid.mk' (left_int _ 1 32 (w1.alloc (.cells #[.int .u64 1] 22)) (by omega) (by omega) (by rw [show bl 1 = 1 by decide]; omega) sn_one)
  have HU := Hid.mk' hu
  clear hu hb KW
  go_wp2_with fail
  refine KT1.out.mono ?_
  rintro e w2 ⟨⟨tv, rfl, htv⟩, hb⟩
  have hb' := ((Below.refl w1.heap.size w1).alloc (Nat.le_refl _) _).trans (hb.mono (by simp))
  have CN2 := Hid.mk' (CN.out.keep hb')
  have CR2 := Hid.mk' (CR.out.keep hb')
  have HU2 := Hid.mk' (HU.out.below hb')
  have HB2 := Hid.mk' (HB.out.trans (hb'.mono HB.out.size))
  have HT := Hid.mk' htv
  clear htv hb hb' CN CR HU HB KT1 hl1
  have KT1 := Hid.mk' (left_int _ 1 31 (w2.alloc (.cells #[.int .u64 1] 22)) (by omega) (by omega) (by rw [show bl 1 = 1 by decide]; omega) sn_one)
  clear HT
  go_wp2_with fail
  refine KT1.out.mono ?_
  rintro e w3 ⟨⟨tv, rfl, htv⟩, hb⟩
  have hb' := ((Below.refl w2.heap.size w2).alloc (Nat.le_refl _) _).trans (hb.mono (by simp))
  have CN := Hid.mk' (CN2.out.keep hb')
  have CR := Hid.mk' (CR2.out.keep hb')
  have HU := Hid.mk' (HU2.out.below hb')
  have HB := Hid.mk' (HB2.out.trans (hb'.mono HB2.out.size))
  have HT := Hid.mk' htv
  clear htv hb hb' CN2 CR2 HU2 HB2 KT1
  generalize w3 = w2 at *
  obtain ⟨c0, c1, c2, c3⟩ := CN.out
  have KC := Hid.mk' (compare_any u tv t (1 * 2 ^ (31 : Int).toNat) w2 (by omega) (by have := bl_mul (x := 1) (by decide) (31 : Int).toNat; rw [this, show bl 1 = 1 by decide, show (31 : Int).toNat = 31 by decide]; omega) HU.out HT.out)
  rw [show 1 * 2 ^ (31 : Int).toNat = 2147483648 by decide] at KC
  have CR3 := CR
  have HB3 := HB
  have HU3 := HU
  have hq := cmp_ge t 2147483648
  generalize cmpI t 2147483648 = cz at *
  clear CR HB HU HT CN
  rw [show decide (2147483648 ≤ t) = false by simpa using ho] at hq
  have hq' : ¬ 0 ≤ cz := by exact of_decide_eq_false hq
  clear hq
  go_wp2_with fail
  refine KC.out.mono ?_
  rintro e w' ⟨rfl, rfl⟩
  have KWd := Hid.mk' (word_any u t _ (by omega) HU3.out)
  go_wp2_with fail
  refine KWd.out.mono ?_
  rintro e w' ⟨rfl, rfl⟩
  have KV := fun w => Hid.mk' (val_eq (t : Int) (t : Int) w (by first | rfl | (rw [IntKind.wrap_u64]; omega)))
  go_wp2_with fail
  refine (KV _).out.mono ?_
  rintro e w4 ⟨rfl, hb⟩
  obtain ⟨⟨r0, r1, r2⟩, v0, v1, v2⟩ := CR3.out.keep hb
  have HB4 := Hid.mk' (HB3.out.trans (hb.mono HB3.out.size))
  clear hb CR3 HB3 HU3 KC c0 c1 c2 c3 KWd KV
  go_wp2
  exact bodyPost_ret (v := RV true 0 (t : Int)) (by simp [results, Tryd.results42, go_sem, r0, r1, r2]) rfl ⟨rfl, by repeat (first | exact HB4.out | refine Below.setCell ?_ (by first | (simp; done) | (simp; omega) | omega) _)⟩
set_option maxHeartbeats 4000000 in
theorem trunc_32_st_o (x : Int) (v : Value) (t : Nat) (w : World) (ht : bl t ≤ 9000) (KW : ∀ w', Below w.heap.size w w' → Hid (Calls Tryd.prog 31 #[SV 0 true v x, .int .i64 2] w' fun e w'' => (∃ u, e = .returned u ∧ SN w'' u t) ∧ Below w'.heap.size w' w'')) (ho : 2147483648 < t) :
    Calls Tryd.prog 42 #[SV 0 true v x, .int .i64 32, .bool true] w fun e w' => e = .returned (RV true 3 0) ∧ Below w.heap.size w w' := by
  go_enter Tryd.func42, Tryd.ntmps42
  go_wp2_with fail
  refine (KW _ (((Below.refl _ _).alloc (Nat.le_refl _) _).alloc (by simp) _)).out.mono ?_
  rintro e w1 ⟨⟨u, rfl, hu⟩, hb⟩
  have CN := Hid.mk' (c4_new.past.keep hb)
  have CR := Hid.mk' (r3_mid.keep hb)
  have HB := Hid.mk' (below2 hb)
  have hl1 := CN.out.lt
  have KT1 := Hid.mk' (left_int _ 1 32 (w1.alloc (.cells #[.int .u64 1] 22)) (by omega) (by omega) (by rw [show bl 1 = 1 by decide]; omega) sn_one)
  have HU := Hid.mk' hu
  clear hu hb KW
  go_wp2_with fail
  refine KT1.out.mono ?_
  rintro e w2 ⟨⟨tv, rfl, htv⟩, hb⟩
  have hb' := ((Below.refl w1.heap.size w1).alloc (Nat.le_refl _) _).trans (hb.mono (by simp))
  have CN2 := Hid.mk' (CN.out.keep hb')
  have CR2 := Hid.mk' (CR.out.keep hb')
  have HU2 := Hid.mk' (HU.out.below hb')
  have HB2 := Hid.mk' (HB.out.trans (hb'.mono HB.out.size))
  have HT := Hid.mk' htv
  clear htv hb hb' CN CR HU HB KT1 hl1
  have KT1 := Hid.mk' (left_int _ 1 31 (w2.alloc (.cells #[.int .u64 1] 22)) (by omega) (by omega) (by rw [show bl 1 = 1 by decide]; omega) sn_one)
  clear HT
  go_wp2_with fail
  refine KT1.out.mono ?_
  rintro e w3 ⟨⟨tv, rfl, htv⟩, hb⟩
  have hb' := ((Below.refl w2.heap.size w2).alloc (Nat.le_refl _) _).trans (hb.mono (by simp))
  have CN := Hid.mk' (CN2.out.keep hb')
  have CR := Hid.mk' (CR2.out.keep hb')
  have HU := Hid.mk' (HU2.out.below hb')
  have HB := Hid.mk' (HB2.out.trans (hb'.mono HB2.out.size))
  have HT := Hid.mk' htv
  clear htv hb hb' CN2 CR2 HU2 HB2 KT1
  generalize w3 = w2 at *
  obtain ⟨c0, c1, c2, c3⟩ := CN.out
  have KC := Hid.mk' (compare_any u tv t (1 * 2 ^ (31 : Int).toNat) (w2.alloc (.cells #[] 22)) (by omega) (by have := bl_mul (x := 1) (by decide) (31 : Int).toNat; rw [this, show bl 1 = 1 by decide, show (31 : Int).toNat = 31 by decide]; omega) (HU.out.below ((Below.refl _ _).alloc (Nat.le_refl _) _)) (HT.out.below ((Below.refl _ _).alloc (Nat.le_refl _) _)))
  rw [show 1 * 2 ^ (31 : Int).toNat = 2147483648 by decide] at KC
  have hsz := HB.out.size
  have CR3 := Hid.mk' (CR.out.past (o := .cells #[] 22))
  have HB3 := Hid.mk' (HB.out.alloc HB.out.size (.cells #[] 22))
  have HU3 := Hid.mk' (HU.out.below ((Below.refl w2.heap.size w2).alloc (Nat.le_refl _) (.cells #[] 22)))
  have hq := cmp_gt t 2147483648
  generalize cmpI t 2147483648 = cz at *
  clear CR HB HU HT CN
  rw [show decide (2147483648 < t) = true by simpa using ho] at hq
  have hq' : 0 < cz := by exact of_decide_eq_true hq
  clear hq
  go_wp2_with fail
  refine KC.out.mono ?_
  rintro e w' ⟨rfl, rfl⟩
  go_wp2_with fail
  refine (trap_any _ _).mono ?_
  rintro e w4 ⟨rfl, hb⟩
  obtain ⟨⟨r0, r1, r2⟩, v0, v1, v2⟩ := CR3.out.keep hb
  have HB4 := Hid.mk' (HB3.out.trans (hb.mono HB3.out.size))
  clear hb CR3 HB3 HU3 KC c0 c1 c2 c3
  go_wp2
  exact bodyPost_ret (v := RV true 3 0) (by simp [results, Tryd.results42, go_sem, r0, r1, r2]) rfl ⟨rfl, by repeat (first | exact HB4.out | refine Below.setCell ?_ (by first | (simp; done) | (simp; omega) | omega) _)⟩
set_option maxHeartbeats 4000000 in
theorem trunc_32_st_i (x : Int) (v : Value) (t : Nat) (w : World) (ht : bl t ≤ 9000) (KW : ∀ w', Below w.heap.size w w' → Hid (Calls Tryd.prog 31 #[SV 0 true v x, .int .i64 2] w' fun e w'' => (∃ u, e = .returned u ∧ SN w'' u t) ∧ Below w'.heap.size w' w'')) (ho : t ≤ 2147483648) :
    Calls Tryd.prog 42 #[SV 0 true v x, .int .i64 32, .bool true] w fun e w' => e = .returned (RV true 0 ((4294967296 - (t : Int)) % 4294967296)) ∧ Below w.heap.size w w' := by
  go_enter Tryd.func42, Tryd.ntmps42
  go_wp2_with fail
  refine (KW _ (((Below.refl _ _).alloc (Nat.le_refl _) _).alloc (by simp) _)).out.mono ?_
  rintro e w1 ⟨⟨u, rfl, hu⟩, hb⟩
  have CN := Hid.mk' (c4_new.past.keep hb)
  have CR := Hid.mk' (r3_mid.keep hb)
  have HB := Hid.mk' (below2 hb)
  have hl1 := CN.out.lt
  have KT1 := Hid.mk' (left_int _ 1 32 (w1.alloc (.cells #[.int .u64 1] 22)) (by omega) (by omega) (by rw [show bl 1 = 1 by decide]; omega) sn_one)
  have HU := Hid.mk' hu
  clear hu hb KW
  go_wp2_with fail
  refine KT1.out.mono ?_
  rintro e w2 ⟨⟨tv, rfl, htv⟩, hb⟩
  have hb' := ((Below.refl w1.heap.size w1).alloc (Nat.le_refl _) _).trans (hb.mono (by simp))
  have CN2 := Hid.mk' (CN.out.keep hb')
  have CR2 := Hid.mk' (CR.out.keep hb')
  have HU2 := Hid.mk' (HU.out.below hb')
  have HB2 := Hid.mk' (HB.out.trans (hb'.mono HB.out.size))
  have HT := Hid.mk' htv
  clear htv hb hb' CN CR HU HB KT1 hl1
  have KT1 := Hid.mk' (left_int _ 1 31 (w2.alloc (.cells #[.int .u64 1] 22)) (by omega) (by omega) (by rw [show bl 1 = 1 by decide]; omega) sn_one)
  clear HT
  go_wp2_with fail
  refine KT1.out.mono ?_
  rintro e w3 ⟨⟨tv, rfl, htv⟩, hb⟩
  have hb' := ((Below.refl w2.heap.size w2).alloc (Nat.le_refl _) _).trans (hb.mono (by simp))
  have CN := Hid.mk' (CN2.out.keep hb')
  have CR := Hid.mk' (CR2.out.keep hb')
  have HU := Hid.mk' (HU2.out.below hb')
  have HB := Hid.mk' (HB2.out.trans (hb'.mono HB2.out.size))
  have HT := Hid.mk' htv
  clear htv hb hb' CN2 CR2 HU2 HB2 KT1
  generalize w3 = w2 at *
  obtain ⟨c0, c1, c2, c3⟩ := CN.out
  have KC := Hid.mk' (compare_any u tv t (1 * 2 ^ (31 : Int).toNat) (w2.alloc (.cells #[] 22)) (by omega) (by have := bl_mul (x := 1) (by decide) (31 : Int).toNat; rw [this, show bl 1 = 1 by decide, show (31 : Int).toNat = 31 by decide]; omega) (HU.out.below ((Below.refl _ _).alloc (Nat.le_refl _) _)) (HT.out.below ((Below.refl _ _).alloc (Nat.le_refl _) _)))
  rw [show 1 * 2 ^ (31 : Int).toNat = 2147483648 by decide] at KC
  have hsz := HB.out.size
  have CR3 := Hid.mk' (CR.out.past (o := .cells #[] 22))
  have HB3 := Hid.mk' (HB.out.alloc HB.out.size (.cells #[] 22))
  have HU3 := Hid.mk' (HU.out.below ((Below.refl w2.heap.size w2).alloc (Nat.le_refl _) (.cells #[] 22)))
  have hq := cmp_gt t 2147483648
  generalize cmpI t 2147483648 = cz at *
  clear CR HB HU HT CN
  rw [show decide (2147483648 < t) = false by simpa using ho] at hq
  have hq' : ¬ 0 < cz := by exact of_decide_eq_false hq
  clear hq
  go_wp2_with fail
  refine KC.out.mono ?_
  rintro e w' ⟨rfl, rfl⟩
  have KWd := Hid.mk' (word_any u t _ (by omega) HU3.out)
  go_wp2_with fail
  refine KWd.out.mono ?_
  rintro e w' ⟨rfl, rfl⟩
  have KLo := fun w => Hid.mk' (low32 (IntKind.u64.wrap (-(t : Int))) w (by rw [IntKind.wrap_u64]; omega) (by rw [IntKind.wrap_u64]; omega))
  go_wp2_with fail
  refine (KLo _).out.mono ?_
  rintro e w' ⟨rfl, rfl⟩
  have KV := fun w => Hid.mk' (val_eq (IntKind.u64.wrap (-(t : Int)) % 4294967296) ((4294967296 - (t : Int)) % 4294967296) w (by first | rfl | (rw [IntKind.wrap_u64]; omega)))
  go_wp2_with fail
  refine (KV _).out.mono ?_
  rintro e w4 ⟨rfl, hb⟩
  obtain ⟨⟨r0, r1, r2⟩, v0, v1, v2⟩ := CR3.out.keep hb
  have HB4 := Hid.mk' (HB3.out.trans (hb.mono HB3.out.size))
  clear hb CR3 HB3 HU3 KC c0 c1 c2 c3 KWd KV
  go_wp2
  exact bodyPost_ret (v := RV true 0 ((4294967296 - (t : Int)) % 4294967296)) (by simp [results, Tryd.results42, go_sem, r0, r1, r2]) rfl ⟨rfl, by repeat (first | exact HB4.out | refine Below.setCell ?_ (by first | (simp; done) | (simp; omega) | omega) _)⟩
set_option maxHeartbeats 4000000 in
theorem trunc_64_uf_o (x : Int) (v : Value) (t : Nat) (w : World) (ht : bl t ≤ 9000) (KW : ∀ w', Below w.heap.size w w' → Hid (Calls Tryd.prog 31 #[SV 0 false v x, .int .i64 2] w' fun e w'' => (∃ u, e = .returned u ∧ SN w'' u t) ∧ Below w'.heap.size w' w'')) (ho : 18446744073709551616 ≤ t) :
    Calls Tryd.prog 42 #[SV 0 false v x, .int .i64 64, .bool false] w fun e w' => e = .returned (RV true 3 0) ∧ Below w.heap.size w w' := by
  go_enter Tryd.func42, Tryd.ntmps42
  go_wp2_with fail
  refine (KW _ (((Below.refl _ _).alloc (Nat.le_refl _) _).alloc (by simp) _)).out.mono ?_
  rintro e w1 ⟨⟨u, rfl, hu⟩, hb⟩
  have CN := Hid.mk' (c4_new.past.keep hb)
  have CR := Hid.mk' (r3_mid.keep hb)
  have HB := Hid.mk' (below2 hb)
  have hl1 := CN.out.lt
  have KT1 := Hid.mk' (left_int _ 1 64 (w1.alloc (.cells #[.int .u64 1] 22)) (by omega) (by omega) (by rw [show bl 1 = 1 by decide]; omega) sn_one)
  have HU := Hid.mk' hu
  clear hu hb KW
  go_wp2_with fail
  refine KT1.out.mono ?_
  rintro e w2 ⟨⟨tv, rfl, htv⟩, hb⟩
  have hb' := ((Below.refl w1.heap.size w1).alloc (Nat.le_refl _) _).trans (hb.mono (by simp))
  have CN2 := Hid.mk' (CN.out.keep hb')
  have CR2 := Hid.mk' (CR.out.keep hb')
  have HU2 := Hid.mk' (HU.out.below hb')
  have HB2 := Hid.mk' (HB.out.trans (hb'.mono HB.out.size))
  have HT := Hid.mk' htv
  clear htv hb hb' CN CR HU HB KT1 hl1
  have CN := CN2
  have CR := CR2
  have HU := HU2
  have HB := HB2
  clear CN2 CR2 HU2 HB2
  obtain ⟨c0, c1, c2, c3⟩ := CN.out
  have KC := Hid.mk' (compare_any u tv t (1 * 2 ^ (64 : Int).toNat) w2 (by omega) (by have := bl_mul (x := 1) (by decide) (64 : Int).toNat; rw [this, show bl 1 = 1 by decide, show (64 : Int).toNat = 64 by decide]; omega) HU.out HT.out)
  rw [show 1 * 2 ^ (64 : Int).toNat = 18446744073709551616 by decide] at KC
  have CR3 := CR
  have HB3 := HB
  have HU3 := HU
  have hq := cmp_ge t 18446744073709551616
  generalize cmpI t 18446744073709551616 = cz at *
  clear CR HB HU HT CN
  rw [show decide (18446744073709551616 ≤ t) = true by simpa using ho] at hq
  have hq' : 0 ≤ cz := by exact of_decide_eq_true hq
  clear hq
  go_wp2_with fail
  refine KC.out.mono ?_
  rintro e w' ⟨rfl, rfl⟩
  go_wp2_with fail
  refine (trap_any _ _).mono ?_
  rintro e w4 ⟨rfl, hb⟩
  obtain ⟨⟨r0, r1, r2⟩, v0, v1, v2⟩ := CR3.out.keep hb
  have HB4 := Hid.mk' (HB3.out.trans (hb.mono HB3.out.size))
  clear hb CR3 HB3 HU3 KC c0 c1 c2 c3
  go_wp2
  exact bodyPost_ret (v := RV true 3 0) (by simp [results, Tryd.results42, go_sem, r0, r1, r2]) rfl ⟨rfl, by repeat (first | exact HB4.out | refine Below.setCell ?_ (by first | (simp; done) | (simp; omega) | omega) _)⟩
set_option maxHeartbeats 4000000 in
theorem trunc_64_uf_i (x : Int) (v : Value) (t : Nat) (w : World) (ht : bl t ≤ 9000) (KW : ∀ w', Below w.heap.size w w' → Hid (Calls Tryd.prog 31 #[SV 0 false v x, .int .i64 2] w' fun e w'' => (∃ u, e = .returned u ∧ SN w'' u t) ∧ Below w'.heap.size w' w'')) (ho : t < 18446744073709551616) :
    Calls Tryd.prog 42 #[SV 0 false v x, .int .i64 64, .bool false] w fun e w' => e = .returned (RV true 0 (t : Int)) ∧ Below w.heap.size w w' := by
  go_enter Tryd.func42, Tryd.ntmps42
  go_wp2_with fail
  refine (KW _ (((Below.refl _ _).alloc (Nat.le_refl _) _).alloc (by simp) _)).out.mono ?_
  rintro e w1 ⟨⟨u, rfl, hu⟩, hb⟩
  have CN := Hid.mk' (c4_new.past.keep hb)
  have CR := Hid.mk' (r3_mid.keep hb)
  have HB := Hid.mk' (below2 hb)
  have hl1 := CN.out.lt
  have KT1 := Hid.mk' (left_int _ 1 64 (w1.alloc (.cells #[.int .u64 1] 22)) (by omega) (by omega) (by rw [show bl 1 = 1 by decide]; omega) sn_one)
  have HU := Hid.mk' hu
  clear hu hb KW
  go_wp2_with fail
  refine KT1.out.mono ?_
  rintro e w2 ⟨⟨tv, rfl, htv⟩, hb⟩
  have hb' := ((Below.refl w1.heap.size w1).alloc (Nat.le_refl _) _).trans (hb.mono (by simp))
  have CN2 := Hid.mk' (CN.out.keep hb')
  have CR2 := Hid.mk' (CR.out.keep hb')
  have HU2 := Hid.mk' (HU.out.below hb')
  have HB2 := Hid.mk' (HB.out.trans (hb'.mono HB.out.size))
  have HT := Hid.mk' htv
  clear htv hb hb' CN CR HU HB KT1 hl1
  have CN := CN2
  have CR := CR2
  have HU := HU2
  have HB := HB2
  clear CN2 CR2 HU2 HB2
  obtain ⟨c0, c1, c2, c3⟩ := CN.out
  have KC := Hid.mk' (compare_any u tv t (1 * 2 ^ (64 : Int).toNat) w2 (by omega) (by have := bl_mul (x := 1) (by decide) (64 : Int).toNat; rw [this, show bl 1 = 1 by decide, show (64 : Int).toNat = 64 by decide]; omega) HU.out HT.out)
  rw [show 1 * 2 ^ (64 : Int).toNat = 18446744073709551616 by decide] at KC
  have CR3 := CR
  have HB3 := HB
  have HU3 := HU
  have hq := cmp_ge t 18446744073709551616
  generalize cmpI t 18446744073709551616 = cz at *
  clear CR HB HU HT CN
  rw [show decide (18446744073709551616 ≤ t) = false by simpa using ho] at hq
  have hq' : ¬ 0 ≤ cz := by exact of_decide_eq_false hq
  clear hq
  go_wp2_with fail
  refine KC.out.mono ?_
  rintro e w' ⟨rfl, rfl⟩
  have KWd := Hid.mk' (word_any u t _ (by omega) HU3.out)
  go_wp2_with fail
  refine KWd.out.mono ?_
  rintro e w' ⟨rfl, rfl⟩
  have KV := fun w => Hid.mk' (val_eq (t : Int) (t : Int) w (by first | rfl | (rw [IntKind.wrap_u64]; omega)))
  go_wp2_with fail
  refine (KV _).out.mono ?_
  rintro e w4 ⟨rfl, hb⟩
  obtain ⟨⟨r0, r1, r2⟩, v0, v1, v2⟩ := CR3.out.keep hb
  have HB4 := Hid.mk' (HB3.out.trans (hb.mono HB3.out.size))
  clear hb CR3 HB3 HU3 KC c0 c1 c2 c3 KWd KV
  go_wp2
  exact bodyPost_ret (v := RV true 0 (t : Int)) (by simp [results, Tryd.results42, go_sem, r0, r1, r2]) rfl ⟨rfl, by repeat (first | exact HB4.out | refine Below.setCell ?_ (by first | (simp; done) | (simp; omega) | omega) _)⟩
set_option maxHeartbeats 4000000 in
theorem trunc_64_ut_o (x : Int) (v : Value) (t : Nat) (w : World) (ht : bl t ≤ 9000) (KW : ∀ w', Below w.heap.size w w' → Hid (Calls Tryd.prog 31 #[SV 0 true v x, .int .i64 2] w' fun e w'' => (∃ u, e = .returned u ∧ SN w'' u t) ∧ Below w'.heap.size w' w'')) (ho : 0 < t) :
    Calls Tryd.prog 42 #[SV 0 true v x, .int .i64 64, .bool false] w fun e w' => e = .returned (RV true 3 0) ∧ Below w.heap.size w w' := by
  go_enter Tryd.func42, Tryd.ntmps42
  go_wp2_with fail
  refine (KW _ (((Below.refl _ _).alloc (Nat.le_refl _) _).alloc (by simp) _)).out.mono ?_
  rintro e w1 ⟨⟨u, rfl, hu⟩, hb⟩
  have CN := Hid.mk' (c4_new.past.keep hb)
  have CR := Hid.mk' (r3_mid.keep hb)
  have HB := Hid.mk' (below2 hb)
  have hl1 := CN.out.lt
  have KT1 := Hid.mk' (left_int _ 1 64 (w1.alloc (.cells #[.int .u64 1] 22)) (by omega) (by omega) (by rw [show bl 1 = 1 by decide]; omega) sn_one)
  have HU := Hid.mk' hu
  clear hu hb KW
  go_wp2_with fail
  refine KT1.out.mono ?_
  rintro e w2 ⟨⟨tv, rfl, htv⟩, hb⟩
  have hb' := ((Below.refl w1.heap.size w1).alloc (Nat.le_refl _) _).trans (hb.mono (by simp))
  have CN2 := Hid.mk' (CN.out.keep hb')
  have CR2 := Hid.mk' (CR.out.keep hb')
  have HU2 := Hid.mk' (HU.out.below hb')
  have HB2 := Hid.mk' (HB.out.trans (hb'.mono HB.out.size))
  have HT := Hid.mk' htv
  clear htv hb hb' CN CR HU HB KT1 hl1
  have CN := CN2
  have CR := CR2
  have HU := HU2
  have HB := HB2
  clear CN2 CR2 HU2 HB2
  obtain ⟨c0, c1, c2, c3⟩ := CN.out
  have KC := Hid.mk' (compare_any u (.slice (some ⟨w2.heap.size, 0, none⟩) 0 0) t 0 (w2.alloc (.cells #[] 22)) (by omega) (by rw [bl_zero]; omega) (HU.out.below ((Below.refl _ _).alloc (Nat.le_refl _) _)) sn_nil)
  have hsz := HB.out.size
  have CR3 := Hid.mk' (CR.out.past (o := .cells #[] 22))
  have HB3 := Hid.mk' (HB.out.alloc HB.out.size (.cells #[] 22))
  have HU3 := Hid.mk' (HU.out.below ((Below.refl w2.heap.size w2).alloc (Nat.le_refl _) (.cells #[] 22)))
  have hq := cmp_gt t 0
  generalize cmpI t 0 = cz at *
  clear CR HB HU HT CN
  rw [show decide (0 < t) = true by simpa using ho] at hq
  have hq' : 0 < cz := by exact of_decide_eq_true hq
  clear hq
  go_wp2_with fail
  refine KC.out.mono ?_
  rintro e w' ⟨rfl, rfl⟩
  go_wp2_with fail
  refine (trap_any _ _).mono ?_
  rintro e w4 ⟨rfl, hb⟩
  obtain ⟨⟨r0, r1, r2⟩, v0, v1, v2⟩ := CR3.out.keep hb
  have HB4 := Hid.mk' (HB3.out.trans (hb.mono HB3.out.size))
  clear hb CR3 HB3 HU3 KC c0 c1 c2 c3
  go_wp2
  exact bodyPost_ret (v := RV true 3 0) (by simp [results, Tryd.results42, go_sem, r0, r1, r2]) rfl ⟨rfl, by repeat (first | exact HB4.out | refine Below.setCell ?_ (by first | (simp; done) | (simp; omega) | omega) _)⟩
set_option maxHeartbeats 4000000 in
theorem trunc_64_ut_i (x : Int) (v : Value) (t : Nat) (w : World) (ht : bl t ≤ 9000) (KW : ∀ w', Below w.heap.size w w' → Hid (Calls Tryd.prog 31 #[SV 0 true v x, .int .i64 2] w' fun e w'' => (∃ u, e = .returned u ∧ SN w'' u t) ∧ Below w'.heap.size w' w'')) (ho : t ≤ 0) :
    Calls Tryd.prog 42 #[SV 0 true v x, .int .i64 64, .bool false] w fun e w' => e = .returned (RV true 0 0) ∧ Below w.heap.size w w' := by
  obtain rfl : t = 0 := by omega
  go_enter Tryd.func42, Tryd.ntmps42
  go_wp2_with fail
  refine (KW _ (((Below.refl _ _).alloc (Nat.le_refl _) _).alloc (by simp) _)).out.mono ?_
  rintro e w1 ⟨⟨u, rfl, hu⟩, hb⟩
  have CN := Hid.mk' (c4_new.past.keep hb)
  have CR := Hid.mk' (r3_mid.keep hb)
  have HB := Hid.mk' (below2 hb)
  have hl1 := CN.out.lt
  have KT1 := Hid.mk' (left_int _ 1 64 (w1.alloc (.cells #[.int .u64 1] 22)) (by omega) (by omega) (by rw [show bl 1 = 1 by decide]; omega) sn_one)
  have HU := Hid.mk' hu
  clear hu hb KW
  go_wp2_with fail
  refine KT1.out.mono ?_
  rintro e w2 ⟨⟨tv, rfl, htv⟩, hb⟩
  have hb' := ((Below.refl w1.heap.size w1).alloc (Nat.le_refl _) _).trans (hb.mono (by simp))
  have CN2 := Hid.mk' (CN.out.keep hb')
  have CR2 := Hid.mk' (CR.out.keep hb')
  have HU2 := Hid.mk' (HU.out.below hb')
  have HB2 := Hid.mk' (HB.out.trans (hb'.mono HB.out.size))
  have HT := Hid.mk' htv
  clear htv hb hb' CN CR HU HB KT1 hl1
  have CN := CN2
  have CR := CR2
  have HU := HU2
  have HB := HB2
  clear CN2 CR2 HU2 HB2
  obtain ⟨c0, c1, c2, c3⟩ := CN.out
  have KC := Hid.mk' (compare_any u (.slice (some ⟨w2.heap.size, 0, none⟩) 0 0) 0 0 (w2.alloc (.cells #[] 22)) (by omega) (by rw [bl_zero]; omega) (HU.out.below ((Below.refl _ _).alloc (Nat.le_refl _) _)) sn_nil)
  have hsz := HB.out.size
  have CR3 := Hid.mk' (CR.out.past (o := .cells #[] 22))
  have HB3 := Hid.mk' (HB.out.alloc HB.out.size (.cells #[] 22))
  have HU3 := Hid.mk' (HU.out.below ((Below.refl w2.heap.size w2).alloc (Nat.le_refl _) (.cells #[] 22)))
  have hq := cmp_gt 0 0
  generalize cmpI 0 0 = cz at *
  clear CR HB HU HT CN
  rw [show decide (0 < 0) = false by decide] at hq
  have hq' : ¬ 0 < cz := by exact of_decide_eq_false hq
  clear hq
  go_wp2_with fail
  refine KC.out.mono ?_
  rintro e w' ⟨rfl, rfl⟩
  have KWd := Hid.mk' (word_any u 0 _ (by omega) HU3.out)
  go_wp2_with fail
  refine KWd.out.mono ?_
  rintro e w' ⟨rfl, rfl⟩
  have KLo := fun w => Hid.mk' (low64 0 w)
  go_wp2_with fail
  refine (KLo _).out.mono ?_
  rintro e w' ⟨rfl, rfl⟩
  have KV := fun w => Hid.mk' (val_eq 0 0 w (by first | rfl | (rw [IntKind.wrap_u64]; omega)))
  go_wp2_with fail
  refine (KV _).out.mono ?_
  rintro e w4 ⟨rfl, hb⟩
  obtain ⟨⟨r0, r1, r2⟩, v0, v1, v2⟩ := CR3.out.keep hb
  have HB4 := Hid.mk' (HB3.out.trans (hb.mono HB3.out.size))
  clear hb CR3 HB3 HU3 KC c0 c1 c2 c3 KWd KV
  go_wp2
  exact bodyPost_ret (v := RV true 0 0) (by simp [results, Tryd.results42, go_sem, r0, r1, r2]) rfl ⟨rfl, by repeat (first | exact HB4.out | refine Below.setCell ?_ (by first | (simp; done) | (simp; omega) | omega) _)⟩
set_option maxHeartbeats 4000000 in
theorem trunc_64_sf_o (x : Int) (v : Value) (t : Nat) (w : World) (ht : bl t ≤ 9000) (KW : ∀ w', Below w.heap.size w w' → Hid (Calls Tryd.prog 31 #[SV 0 false v x, .int .i64 2] w' fun e w'' => (∃ u, e = .returned u ∧ SN w'' u t) ∧ Below w'.heap.size w' w'')) (ho : 9223372036854775808 ≤ t) :
    Calls Tryd.prog 42 #[SV 0 false v x, .int .i64 64, .bool true] w fun e w' => e = .returned (RV true 3 0) ∧ Below w.heap.size w w' := by
  go_enter Tryd.func42, Tryd.ntmps42
  go_wp2_with fail
  refine (KW _ (((Below.refl _ _).alloc (Nat.le_refl _) _).alloc (by simp) _)).out.mono ?_
  rintro e w1 ⟨⟨u, rfl, hu⟩, hb⟩
  have CN := Hid.mk' (c4_new.past.keep hb)
  have CR := Hid.mk' (r3_mid.keep hb)
  have HB := Hid.mk' (below2 hb)
  have hl1 := CN.out.lt
  have KT1 := Hid.mk' (left_int _ 1 64 (w1.alloc (.cells #[.int .u64 1] 22)) (by omega) (by omega) (by rw [show bl 1 = 1 by decide]; omega) sn_one)
  have HU := Hid.mk' hu
  clear hu hb KW
  go_wp2_with fail
  refine KT1.out.mono ?_
  rintro e w2 ⟨⟨tv, rfl, htv⟩, hb⟩
  have hb' := ((Below.refl w1.heap.size w1).alloc (Nat.le_refl _) _).trans (hb.mono (by simp))
  have CN2 := Hid.mk' (CN.out.keep hb')
  have CR2 := Hid.mk' (CR.out.keep hb')
  have HU2 := Hid.mk' (HU.out.below hb')
  have HB2 := Hid.mk' (HB.out.trans (hb'.mono HB.out.size))
  have HT := Hid.mk' htv
  clear htv hb hb' CN CR HU HB KT1 hl1
  have KT1 := Hid.mk' (left_int _ 1 63 (w2.alloc (.cells #[.int .u64 1] 22)) (by omega) (by omega) (by rw [show bl 1 = 1 by decide]; omega) sn_one)
  clear HT
  go_wp2_with fail
  refine KT1.out.mono ?_
  rintro e w3 ⟨⟨tv, rfl, htv⟩, hb⟩
  have hb' := ((Below.refl w2.heap.size w2).alloc (Nat.le_refl _) _).trans (hb.mono (by simp))
  have CN := Hid.mk' (CN2.out.keep hb')
  have CR := Hid.mk' (CR2.out.keep hb')
  have HU := Hid.mk' (HU2.out.below hb')
  have HB := Hid.mk' (HB2.out.trans (hb'.mono HB2.out.size))
  have HT := Hid.mk' htv
  clear htv hb hb' CN2 CR2 HU2 HB2 KT1
  generalize w3 = w2 at *
  obtain ⟨c0, c1, c2, c3⟩ := CN.out
  have KC := Hid.mk' (compare_any u tv t (1 * 2 ^ (63 : Int).toNat) w2 (by omega) (by have := bl_mul (x := 1) (by decide) (63 : Int).toNat; rw [this, show bl 1 = 1 by decide, show (63 : Int).toNat = 63 by decide]; omega) HU.out HT.out)
  rw [show 1 * 2 ^ (63 : Int).toNat = 9223372036854775808 by decide] at KC
  have CR3 := CR
  have HB3 := HB
  have HU3 := HU
  have hq := cmp_ge t 9223372036854775808
  generalize cmpI t 9223372036854775808 = cz at *
  clear CR HB HU HT CN
  rw [show decide (9223372036854775808 ≤ t) = true by simpa using ho] at hq
  have hq' : 0 ≤ cz := by exact of_decide_eq_true hq
  clear hq
  go_wp2_with fail
  refine KC.out.mono ?_
  rintro e w' ⟨rfl, rfl⟩
  go_wp2_with fail
  refine (trap_any _ _).mono ?_
  rintro e w4 ⟨rfl, hb⟩
  obtain ⟨⟨r0, r1, r2⟩, v0, v1, v2⟩ := CR3.out.keep hb
  have HB4 := Hid.mk' (HB3.out.trans (hb.mono HB3.out.size))
  clear hb CR3 HB3 HU3 KC c0 c1 c2 c3
  go_wp2
  exact bodyPost_ret (v := RV true 3 0) (by simp [results, Tryd.results42, go_sem, r0, r1, r2]) rfl ⟨rfl, by repeat (first | exact HB4.out | refine Below.setCell ?_ (by first | (simp; done) | (simp; omega) | omega) _)⟩
set_option maxHeartbeats 4000000 in
theorem trunc_64_sf_i (x : Int) (v : Value) (t : Nat) (w : World) (ht : bl t ≤ 9000) (KW : ∀ w', Below w.heap.size w w' → Hid (Calls Tryd.prog 31 #[SV 0 false v x, .int .i64 2] w' fun e w'' => (∃ u, e = .returned u ∧ SN w'' u t) ∧ Below w'.heap.size w' w'')) (ho : t < 9223372036854775808) :
    Calls Tryd.prog 42 #[SV 0 false v x, .int .i64 64, .bool true] w fun e w' => e = .returned (RV true 0 (t : Int)) ∧ Below w.heap.size w w' := by
  go_enter Tryd.func42, Tryd.ntmps42
  go_wp2_with fail
  refine (KW _ (((Below.refl _ _).alloc (Nat.le_refl _) _).alloc (by simp) _)).out.mono ?_
  rintro e w1 ⟨⟨u, rfl, hu⟩, hb⟩
  have CN := Hid.mk' (c4_new.past.keep hb)
  have CR := Hid.mk' (r3_mid.keep hb)
  have HB := Hid.mk' (below2 hb)
  have hl1 := CN.out.lt
  have KT1 := Hid.mk' (left_int _ 1 64 (w1.alloc (.cells #[.int .u64 1] 22)) (by omega) (by omega) (by rw [show bl 1 = 1 by decide]; omega) sn_one)
  have HU := Hid.mk' hu
  clear hu hb KW
  go_wp2_with fail
  refine KT1.out.mono ?_
  rintro e w2 ⟨⟨tv, rfl, htv⟩, hb⟩
  have hb' := ((Below.refl w1.heap.size w1).alloc (Nat.le_refl _) _).trans (hb.mono (by simp))
  have CN2 := Hid.mk' (CN.out.keep hb')
  have CR2 := Hid.mk' (CR.out.keep hb')
  have HU2 := Hid.mk' (HU.out.below hb')
  have HB2 := Hid.mk' (HB.out.trans (hb'.mono HB.out.size))
  have HT := Hid.mk' htv
  clear htv hb hb' CN CR HU HB KT1 hl1
  have KT1 := Hid.mk' (left_int _ 1 63 (w2.alloc (.cells #[.int .u64 1] 22)) (by omega) (by omega) (by rw [show bl 1 = 1 by decide]; omega) sn_one)
  clear HT
  go_wp2_with fail
  refine KT1.out.mono ?_
  rintro e w3 ⟨⟨tv, rfl, htv⟩, hb⟩
  have hb' := ((Below.refl w2.heap.size w2).alloc (Nat.le_refl _) _).trans (hb.mono (by simp))
  have CN := Hid.mk' (CN2.out.keep hb')
  have CR := Hid.mk' (CR2.out.keep hb')
  have HU := Hid.mk' (HU2.out.below hb')
  have HB := Hid.mk' (HB2.out.trans (hb'.mono HB2.out.size))
  have HT := Hid.mk' htv
  clear htv hb hb' CN2 CR2 HU2 HB2 KT1
  generalize w3 = w2 at *
  obtain ⟨c0, c1, c2, c3⟩ := CN.out
  have KC := Hid.mk' (compare_any u tv t (1 * 2 ^ (63 : Int).toNat) w2 (by omega) (by have := bl_mul (x := 1) (by decide) (63 : Int).toNat; rw [this, show bl 1 = 1 by decide, show (63 : Int).toNat = 63 by decide]; omega) HU.out HT.out)
  rw [show 1 * 2 ^ (63 : Int).toNat = 9223372036854775808 by decide] at KC
  have CR3 := CR
  have HB3 := HB
  have HU3 := HU
  have hq := cmp_ge t 9223372036854775808
  generalize cmpI t 9223372036854775808 = cz at *
  clear CR HB HU HT CN
  rw [show decide (9223372036854775808 ≤ t) = false by simpa using ho] at hq
  have hq' : ¬ 0 ≤ cz := by exact of_decide_eq_false hq
  clear hq
  go_wp2_with fail
  refine KC.out.mono ?_
  rintro e w' ⟨rfl, rfl⟩
  have KWd := Hid.mk' (word_any u t _ (by omega) HU3.out)
  go_wp2_with fail
  refine KWd.out.mono ?_
  rintro e w' ⟨rfl, rfl⟩
  have KV := fun w => Hid.mk' (val_eq (t : Int) (t : Int) w (by first | rfl | (rw [IntKind.wrap_u64]; omega)))
  go_wp2_with fail
  refine (KV _).out.mono ?_
  rintro e w4 ⟨rfl, hb⟩
  obtain ⟨⟨r0, r1, r2⟩, v0, v1, v2⟩ := CR3.out.keep hb
  have HB4 := Hid.mk' (HB3.out.trans (hb.mono HB3.out.size))
  clear hb CR3 HB3 HU3 KC c0 c1 c2 c3 KWd KV
  go_wp2
  exact bodyPost_ret (v := RV true 0 (t : Int)) (by simp [results, Tryd.results42, go_sem, r0, r1, r2]) rfl ⟨rfl, by repeat (first | exact HB4.out | refine Below.setCell ?_ (by first | (simp; done) | (simp; omega) | omega) _)⟩
set_option maxHeartbeats 4000000 in
theorem trunc_64_st_o (x : Int) (v : Value) (t : Nat) (w : World) (ht : bl t ≤ 9000) (KW : ∀ w', Below w.heap.size w w' → Hid (Calls Tryd.prog 31 #[SV 0 true v x, .int .i64 2] w' fun e w'' => (∃ u, e = .returned u ∧ SN w'' u t) ∧ Below w'.heap.size w' w'')) (ho : 9223372036854775808 < t) :
    Calls Tryd.prog 42 #[SV 0 true v x, .int .i64 64, .bool true] w fun e w' => e = .returned (RV true 3 0) ∧ Below w.heap.size w w' := by
  go_enter Tryd.func42, Tryd.ntmps42
  go_wp2_with fail
  refine (KW _ (((Below.refl _ _).alloc (Nat.le_refl _) _).alloc (by simp) _)).out.mono ?_
  rintro e w1 ⟨⟨u, rfl, hu⟩, hb⟩
  have CN := Hid.mk' (c4_new.past.keep hb)
  have CR := Hid.mk' (r3_mid.keep hb)
  have HB := Hid.mk' (below2 hb)
  have hl1 := CN.out.lt
  have KT1 := Hid.mk' (left_int _ 1 64 (w1.alloc (.cells #[.int .u64 1] 22)) (by omega) (by omega) (by rw [show bl 1 = 1 by decide]; omega) sn_one)
  have HU := Hid.mk' hu
  clear hu hb KW
  go_wp2_with fail
  refine KT1.out.mono ?_
  rintro e w2 ⟨⟨tv, rfl, htv⟩, hb⟩
  have hb' := ((Below.refl w1.heap.size w1).alloc (Nat.le_refl _) _).trans (hb.mono (by simp))
  have CN2 := Hid.mk' (CN.out.keep hb')
  have CR2 := Hid.mk' (CR.out.keep hb')
  have HU2 := Hid.mk' (HU.out.below hb')
  have HB2 := Hid.mk' (HB.out.trans (hb'.mono HB.out.size))
  have HT := Hid.mk' htv
  clear htv hb hb' CN CR HU HB KT1 hl1
  have KT1 := Hid.mk' (left_int _ 1 63 (w2.alloc (.cells #[.int .u64 1] 22)) (by omega) (by omega) (by rw [show bl 1 = 1 by decide]; omega) sn_one)
  clear HT
  go_wp2_with fail
  refine KT1.out.mono ?_
  rintro e w3 ⟨⟨tv, rfl, htv⟩, hb⟩
  have hb' := ((Below.refl w2.heap.size w2).alloc (Nat.le_refl _) _).trans (hb.mono (by simp))
  have CN := Hid.mk' (CN2.out.keep hb')
  have CR := Hid.mk' (CR2.out.keep hb')
  have HU := Hid.mk' (HU2.out.below hb')
  have HB := Hid.mk' (HB2.out.trans (hb'.mono HB2.out.size))
  have HT := Hid.mk' htv
  clear htv hb hb' CN2 CR2 HU2 HB2 KT1
  generalize w3 = w2 at *
  obtain ⟨c0, c1, c2, c3⟩ := CN.out
  have KC := Hid.mk' (compare_any u tv t (1 * 2 ^ (63 : Int).toNat) (w2.alloc (.cells #[] 22)) (by omega) (by have := bl_mul (x := 1) (by decide) (63 : Int).toNat; rw [this, show bl 1 = 1 by decide, show (63 : Int).toNat = 63 by decide]; omega) (HU.out.below ((Below.refl _ _).alloc (Nat.le_refl _) _)) (HT.out.below ((Below.refl _ _).alloc (Nat.le_refl _) _)))
  rw [show 1 * 2 ^ (63 : Int).toNat = 9223372036854775808 by decide] at KC
  have hsz := HB.out.size
  have CR3 := Hid.mk' (CR.out.past (o := .cells #[] 22))
  have HB3 := Hid.mk' (HB.out.alloc HB.out.size (.cells #[] 22))
  have HU3 := Hid.mk' (HU.out.below ((Below.refl w2.heap.size w2).alloc (Nat.le_refl _) (.cells #[] 22)))
  have hq := cmp_gt t 9223372036854775808
  generalize cmpI t 9223372036854775808 = cz at *
  clear CR HB HU HT CN
  rw [show decide (9223372036854775808 < t) = true by simpa using ho] at hq
  have hq' : 0 < cz := by exact of_decide_eq_true hq
  clear hq
  go_wp2_with fail
  refine KC.out.mono ?_
  rintro e w' ⟨rfl, rfl⟩
  go_wp2_with fail
  refine (trap_any _ _).mono ?_
  rintro e w4 ⟨rfl, hb⟩
  obtain ⟨⟨r0, r1, r2⟩, v0, v1, v2⟩ := CR3.out.keep hb
  have HB4 := Hid.mk' (HB3.out.trans (hb.mono HB3.out.size))
  clear hb CR3 HB3 HU3 KC c0 c1 c2 c3
  go_wp2
  exact bodyPost_ret (v := RV true 3 0) (by simp [results, Tryd.results42, go_sem, r0, r1, r2]) rfl ⟨rfl, by repeat (first | exact HB4.out | refine Below.setCell ?_ (by first | (simp; done) | (simp; omega) | omega) _)⟩
set_option maxHeartbeats 4000000 in
theorem trunc_64_st_i (x : Int) (v : Value) (t : Nat) (w : World) (ht : bl t ≤ 9000) (KW : ∀ w', Below w.heap.size w w' → Hid (Calls Tryd.prog 31 #[SV 0 true v x, .int .i64 2] w' fun e w'' => (∃ u, e = .returned u ∧ SN w'' u t) ∧ Below w'.heap.size w' w'')) (ho : t ≤ 9223372036854775808) :
    Calls Tryd.prog 42 #[SV 0 true v x, .int .i64 64, .bool true] w fun e w' => e = .returned (RV true 0 ((18446744073709551616 - (t : Int)) % 18446744073709551616)) ∧ Below w.heap.size w w' := by
  go_enter Tryd.func42, Tryd.ntmps42
  go_wp2_with fail
  refine (KW _ (((Below.refl _ _).alloc (Nat.le_refl _) _).alloc (by simp) _)).out.mono ?_
  rintro e w1 ⟨⟨u, rfl, hu⟩, hb⟩
  have CN := Hid.mk' (c4_new.past.keep hb)
  have CR := Hid.mk' (r3_mid.keep hb)
  have HB := Hid.mk' (below2 hb)
  have hl1 := CN.out.lt
  have KT1 := Hid.mk' (left_int _ 1 64 (w1.alloc (.cells #[.int .u64 1] 22)) (by omega) (by omega) (by rw [show bl 1 = 1 by decide]; omega) sn_one)
  have HU := Hid.mk' hu
  clear hu hb KW
  go_wp2_with fail
  refine KT1.out.mono ?_
  rintro e w2 ⟨⟨tv, rfl, htv⟩, hb⟩
  have hb' := ((Below.refl w1.heap.size w1).alloc (Nat.le_refl _) _).trans (hb.mono (by simp))
  have CN2 := Hid.mk' (CN.out.keep hb')
  have CR2 := Hid.mk' (CR.out.keep hb')
  have HU2 := Hid.mk' (HU.out.below hb')
  have HB2 := Hid.mk' (HB.out.trans (hb'.mono HB.out.size))
  have HT := Hid.mk' htv
  clear htv hb hb' CN CR HU HB KT1 hl1
  have KT1 := Hid.mk' (left_int _ 1 63 (w2.alloc (.cells #[.int .u64 1] 22)) (by omega) (by omega) (by rw [show bl 1 = 1 by decide]; omega) sn_one)
  clear HT
  go_wp2_with fail
  refine KT1.out.mono ?_
  rintro e w3 ⟨⟨tv, rfl, htv⟩, hb⟩
  have hb' := ((Below.refl w2.heap.size w2).alloc (Nat.le_refl _) _).trans (hb.mono (by simp))
  have CN := Hid.mk' (CN2.out.keep hb')
  have CR := Hid.mk' (CR2.out.keep hb')
  have HU := Hid.mk' (HU2.out.below hb')
  have HB := Hid.mk' (HB2.out.trans (hb'.mono HB2.out.size))
  have HT := Hid.mk' htv
  clear htv hb hb' CN2 CR2 HU2 HB2 KT1
  generalize w3 = w2 at *
  obtain ⟨c0, c1, c2, c3⟩ := CN.out
  have KC := Hid.mk' (compare_any u tv t (1 * 2 ^ (63 : Int).toNat) (w2.alloc (.cells #[] 22)) (by omega) (by have := bl_mul (x := 1) (by decide) (63 : Int).toNat; rw [this, show bl 1 = 1 by decide, show (63 : Int).toNat = 63 by decide]; omega) (HU.out.below ((Below.refl _ _).alloc (Nat.le_refl _) _)) (HT.out.below ((Below.refl _ _).alloc (Nat.le_refl _) _)))
  rw [show 1 * 2 ^ (63 : Int).toNat = 9223372036854775808 by decide] at KC
  have hsz := HB.out.size
  have CR3 := Hid.mk' (CR.out.past (o := .cells #[] 22))
  have HB3 := Hid.mk' (HB.out.alloc HB.out.size (.cells #[] 22))
  have HU3 := Hid.mk' (HU.out.below ((Below.refl w2.heap.size w2).alloc (Nat.le_refl _) (.cells #[] 22)))
  have hq := cmp_gt t 9223372036854775808
  generalize cmpI t 9223372036854775808 = cz at *
  clear CR HB HU HT CN
  rw [show decide (9223372036854775808 < t) = false by simpa using ho] at hq
  have hq' : ¬ 0 < cz := by exact of_decide_eq_false hq
  clear hq
  go_wp2_with fail
  refine KC.out.mono ?_
  rintro e w' ⟨rfl, rfl⟩
  have KWd := Hid.mk' (word_any u t _ (by omega) HU3.out)
  go_wp2_with fail
  refine KWd.out.mono ?_
  rintro e w' ⟨rfl, rfl⟩
  have KLo := fun w => Hid.mk' (low64 (IntKind.u64.wrap (-(t : Int))) w)
  go_wp2_with fail
  refine (KLo _).out.mono ?_
  rintro e w' ⟨rfl, rfl⟩
  have KV := fun w => Hid.mk' (val_eq (IntKind.u64.wrap (-(t : Int))) ((18446744073709551616 - (t : Int)) % 18446744073709551616) w (by first | rfl | (rw [IntKind.wrap_u64]; omega)))
  go_wp2_with fail
  refine (KV _).out.mono ?_
  rintro e w4 ⟨rfl, hb⟩
  obtain ⟨⟨r0, r1, r2⟩, v0, v1, v2⟩ := CR3.out.keep hb
  have HB4 := Hid.mk' (HB3.out.trans (hb.mono HB3.out.size))
  clear hb CR3 HB3 HU3 KC c0 c1 c2 c3 KWd KV
  go_wp2
  exact bodyPost_ret (v := RV true 0 ((18446744073709551616 - (t : Int)) % 18446744073709551616)) (by simp [results, Tryd.results42, go_sem, r0, r1, r2]) rfl ⟨rfl, by repeat (first | exact HB4.out | refine Below.setCell ?_ (by first | (simp; done) | (simp; omega) | omega) _)⟩
end Go.Proofs.YthmppcfhbbjhlaaDoor
