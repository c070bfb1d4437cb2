import Derived.Test.YthmppcfhbbjhlaaDoorDg
import Derived.Test.YthmppcfhbbjhlaaDoorGen
import Derived.Test.YthmppcfhbbjhlaaDoorCel
import Derived.WalkSmall
import Derived.Deep.CutRange
import Derived.Deep.RegionWith
import Derived.Lib.QuietBelow
set_option linter.all false
namespace Go.Proofs.YthmppcfhbbjhlaaDoor
open Go.RowKit Go.Sort

abbrev FSn : Value := .agg #[.int .i64 24, .int .i64 8, .int .i64 (-149)]
abbrev FSw : Value := .agg #[.int .i64 53, .int .i64 11, .int .i64 (-1074)]
/-- A number of the specification. -/
abbrev SV (k : Int) (g : Bool) (sv : Value) (x : Int) : Value := .agg #[.int .i64 k, .bool g, sv, .int .i64 x]

def C3 (w : World) (g : Nat) (a b c : Value) : Prop :=
  (w.cell? ⟨g, 0, none⟩ = some a ∧ w.cell? ⟨g, 1, none⟩ = some b ∧ w.cell? ⟨g, 2, none⟩ = some c)
theorem c3_new {w : World} {a b c : Value} {t : TypeId} : C3 (w.alloc (.cells #[a, b, c] t)) w.heap.size a b c :=
  ⟨cell_new rfl rfl, cell_new rfl rfl, cell_new rfl rfl⟩
theorem C3.keep {w w1 : World} {g : Nat} {a b c : Value} (h : C3 w g a b c) (hb : Below w.heap.size w w1) : C3 w1 g a b c := by
  obtain ⟨h0, h1, h2⟩ := h
  exact ⟨keepB h0 hb, keepB h1 hb, keepB h2 hb⟩
theorem C3.past {w : World} {o : Obj} {g : Nat} {a b c : Value} (h : C3 w g a b c) : C3 (w.alloc o) g a b c :=
  h.keep ((Below.refl _ _).alloc (Nat.le_refl _) _)
theorem C3.lt {w : World} {g : Nat} {a b c : Value} (h : C3 w g a b c) : g < w.heap.size := World.block_lt_of_cell? w _ h.1

/-- Four cells that can be written. -/
def D4 (w : World) (g : Nat) (a b c d : Value) : Prop :=
  C4 w g a b c d ∧ (w.frozen? ⟨g, 0, none⟩ = false ∧ w.frozen? ⟨g, 1, none⟩ = false ∧ w.frozen? ⟨g, 2, none⟩ = false ∧ w.frozen? ⟨g, 3, none⟩ = false)
theorem d4_new {w : World} {a b c d : Value} {t : TypeId} : D4 (w.alloc (.cells #[a, b, c, d] t)) w.heap.size a b c d :=
  ⟨c4_new, ⟨World.frozen?_alloc_new w _ t _, World.frozen?_alloc_new w _ t _, World.frozen?_alloc_new w _ t _, World.frozen?_alloc_new w _ t _⟩⟩
theorem D4.keep {w w1 : World} {g : Nat} {a b c d : Value} (h : D4 w g a b c d) (hb : Below w.heap.size w w1) : D4 w1 g a b c d := by
  have hl := h.1.lt
  obtain ⟨h1, f0, f1, f2, f3⟩ := h
  exact ⟨h1.keep hb, (hb.frozen (p := ⟨g, 0, none⟩) hl).trans f0, (hb.frozen (p := ⟨g, 1, none⟩) hl).trans f1, (hb.frozen (p := ⟨g, 2, none⟩) hl).trans f2, (hb.frozen (p := ⟨g, 3, none⟩) hl).trans f3⟩
theorem D4.past {w : World} {o : Obj} {g : Nat} {a b c d : Value} (h : D4 w g a b c d) : D4 (w.alloc o) g a b c d :=
  h.keep ((Below.refl _ _).alloc (Nat.le_refl _) _)
theorem d4_mid {w : World} {a b c d : Value} {t : TypeId} {o : Obj} : D4 ((w.alloc o).alloc (.cells #[a, b, c, d] t)) (w.heap.size + 1) a b c d := by
  have h := d4_new (w := w.alloc o) (a := a) (b := b) (c := c) (d := d) (t := t)
  have e : (w.alloc o).heap.size = w.heap.size + 1 := by simp
  rw [e] at h
  exact h
theorem D4.far {w : World} {g g' i : Nat} {v a b c d : Value} (h : D4 w g a b c d) (hg : g' ≠ g) : D4 (w.setCell ⟨g', i, none⟩ v) g a b c d := by
  obtain ⟨h1, f0, f1, f2, f3⟩ := h
  exact ⟨h1.far hg, by rw [World.frozen?_setCell]; exact f0, by rw [World.frozen?_setCell]; exact f1, by rw [World.frozen?_setCell]; exact f2, by rw [World.frozen?_setCell]; exact f3⟩
theorem D4.set2 {w : World} {g : Nat} {v a b c d : Value} (h : D4 w g a b c d) : D4 (w.setCell ⟨g, 2, none⟩ v) g a b v d := by
  obtain ⟨⟨h0, h1, h2, h3⟩, f0, f1, f2, f3⟩ := h
  exact ⟨⟨set_off h0 (by decide), set_off h1 (by decide), set_same h2, set_off h3 (by decide)⟩, by rw [World.frozen?_setCell]; exact f0, by rw [World.frozen?_setCell]; exact f1, by rw [World.frozen?_setCell]; exact f2, by rw [World.frozen?_setCell]; exact f3⟩

theorem sn_set {w : World} {v u z : Value} {x g i : Nat} (h : SN w v x) (hc : w.cell? ⟨g, i, none⟩ = some u) (hu : ∀ d : Int, u ≠ .int .u64 d) : SN (w.setCell ⟨g, i, none⟩ z) v x := by
  obtain ⟨a, cap, e, hh⟩ := h
  refine ⟨a, cap, e, ?_⟩
  rcases hh with hh | ⟨b, off, ea, hcell⟩
  · exact .inl hh
  · refine .inr ⟨b, off, ea, fun j hj => ?_⟩
    have h1 := hcell j hj
    rw [World.cell?_setCell_other _ _ _ _ (fun e => by rw [← e, hc] at h1; exact hu _ (Option.some.inj h1))]
    exact h1
theorem sn_d4 {w : World} {v z0 z1 z2 z3 : Value} {x g : Nat} {a d : Int} {b : Bool} {s : Option Addr} {m n : Nat} (h : SN w v x) (hd : D4 w g (.int .i64 a) (.bool b) (.slice s m n) (.int .i64 d)) :
    SN ((((w.setCell ⟨g, 0, none⟩ z0).setCell ⟨g, 1, none⟩ z1).setCell ⟨g, 2, none⟩ z2).setCell ⟨g, 3, none⟩ z3) v x := by
  obtain ⟨⟨h0, h1, h2, h3⟩, -⟩ := hd
  have s0 := sn_set (z := z0) h h0 (by intro d hd; cases hd)
  have s1 := sn_set (z := z1) s0 (set_off h1 (by decide)) (by intro d hd; cases hd)
  have s2 := sn_set (z := z2) s1 (set_off (set_off h2 (by decide)) (by decide)) (by intro d hd; cases hd)
  exact sn_set (z := z3) s2 (set_off (set_off (set_off h3 (by decide)) (by decide)) (by decide)) (by intro d hd; cases hd)

theorem pow_8 (w : World) : Calls Tryd.prog 25 #[.int .i64 8] w fun e w' => e = .returned (.int .u64 256) ∧ w' = w := by
  have h := pow_any 8 w (by omega) (by omega)
  rw [show P2 8 = 256 by decide] at h
  exact h.mono fun e w' h => ⟨h.1, h.2.symm⟩
theorem pow_9 (w : World) : Calls Tryd.prog 25 #[.int .i64 9] w fun e w' => e = .returned (.int .u64 512) ∧ w' = w := by
  have h := pow_any 9 w (by omega) (by omega)
  rw [show P2 9 = 512 by decide] at h
  exact h.mono fun e w' h => ⟨h.1, h.2.symm⟩
theorem pow_11 (w : World) : Calls Tryd.prog 25 #[.int .i64 11] w fun e w' => e = .returned (.int .u64 2048) ∧ w' = w := by
  have h := pow_any 11 w (by omega) (by omega)
  rw [show P2 11 = 2048 by decide] at h
  exact h.mono fun e w' h => ⟨h.1, h.2.symm⟩
theorem pow_12 (w : World) : Calls Tryd.prog 25 #[.int .i64 12] w fun e w' => e = .returned (.int .u64 4096) ∧ w' = w := by
  have h := pow_any 12 w (by omega) (by omega)
  rw [show P2 12 = 4096 by decide] at h
  exact h.mono fun e w' h => ⟨h.1, h.2.symm⟩
theorem pow_22 (w : World) : Calls Tryd.prog 25 #[.int .i64 22] w fun e w' => e = .returned (.int .u64 4194304) ∧ w' = w := by
  have h := pow_any 22 w (by omega) (by omega)
  rw [show P2 22 = 4194304 by decide] at h
  exact h.mono fun e w' h => ⟨h.1, h.2.symm⟩
theorem pow_23 (w : World) : Calls Tryd.prog 25 #[.int .i64 23] w fun e w' => e = .returned (.int .u64 8388608) ∧ w' = w := by
  have h := pow_any 23 w (by omega) (by omega)
  rw [show P2 23 = 8388608 by decide] at h
  exact h.mono fun e w' h => ⟨h.1, h.2.symm⟩
theorem pow_24 (w : World) : Calls Tryd.prog 25 #[.int .i64 24] w fun e w' => e = .returned (.int .u64 16777216) ∧ w' = w := by
  have h := pow_any 24 w (by omega) (by omega)
  rw [show P2 24 = 16777216 by decide] at h
  exact h.mono fun e w' h => ⟨h.1, h.2.symm⟩
theorem pow_31 (w : World) : Calls Tryd.prog 25 #[.int .i64 31] w fun e w' => e = .returned (.int .u64 2147483648) ∧ w' = w := by
  have h := pow_any 31 w (by omega) (by omega)
  rw [show P2 31 = 2147483648 by decide] at h
  exact h.mono fun e w' h => ⟨h.1, h.2.symm⟩
theorem pow_51 (w : World) : Calls Tryd.prog 25 #[.int .i64 51] w fun e w' => e = .returned (.int .u64 2251799813685248) ∧ w' = w := by
  have h := pow_any 51 w (by omega) (by omega)
  rw [show P2 51 = 2251799813685248 by decide] at h
  exact h.mono fun e w' h => ⟨h.1, h.2.symm⟩
theorem pow_52 (w : World) : Calls Tryd.prog 25 #[.int .i64 52] w fun e w' => e = .returned (.int .u64 4503599627370496) ∧ w' = w := by
  have h := pow_any 52 w (by omega) (by omega)
  rw [show P2 52 = 4503599627370496 by decide] at h
  exact h.mono fun e w' h => ⟨h.1, h.2.symm⟩
theorem pow_53 (w : World) : Calls Tryd.prog 25 #[.int .i64 53] w fun e w' => e = .returned (.int .u64 9007199254740992) ∧ w' = w := by
  have h := pow_any 53 w (by omega) (by omega)
  rw [show P2 53 = 9007199254740992 by decide] at h
  exact h.mono fun e w' h => ⟨h.1, h.2.symm⟩
theorem pow_63 (w : World) : Calls Tryd.prog 25 #[.int .i64 63] w fun e w' => e = .returned (.int .u64 9223372036854775808) ∧ w' = w := by
  have h := pow_any 63 w (by omega) (by omega)
  rw [show P2 63 = 9223372036854775808 by decide] at h
  exact h.mono fun e w' h => ⟨h.1, h.2.symm⟩
set_option maxHeartbeats 1000000 in
theorem width_n (w : World) : Calls Tryd.prog 24 #[FSn] w fun e w' => e = .returned (.int .i64 32) ∧ Below w.heap.size w w' := by
  go_enter Tryd.func24, Tryd.ntmps24
  go_wp2
  go_ret
  exact ⟨rfl, by repeat (first | exact Below.refl _ _ | refine Below.setCell ?_ (by first | (simp; done) | (simp; omega) | omega) _ | refine Below.alloc ?_ (by first | (simp; done) | (simp; omega)) _ | refine Below.drew ?_ | refine below_drewN ?_ _)⟩
set_option maxHeartbeats 1000000 in
theorem sign_n_t (w : World) : Calls Tryd.prog 76 #[FSn, .bool true] w fun e w' => e = .returned (.int .u64 2147483648) ∧ Below w.heap.size w w' := by
  go_enter Tryd.func76, Tryd.ntmps76
  go_wp2_with (first | (go_at_call_of 25 (Value.int IntKind.i64 31); refine ((pow_31 _).mono fun e w' h => (⟨h.1, h.2.symm⟩ : e = _ ∧ _ = w')).mono ?_; rintro e w' ⟨rfl, rfl⟩))
  go_ret
  exact ⟨rfl, by repeat (first | exact Below.refl _ _ | refine Below.setCell ?_ (by first | (simp; done) | (simp; omega) | omega) _ | refine Below.alloc ?_ (by first | (simp; done) | (simp; omega)) _ | refine Below.drew ?_ | refine below_drewN ?_ _)⟩
set_option maxHeartbeats 1000000 in
theorem sign_n_f (w : World) : Calls Tryd.prog 76 #[FSn, .bool false] w fun e w' => e = .returned (.int .u64 0) ∧ Below w.heap.size w w' := by
  go_enter Tryd.func76, Tryd.ntmps76
  go_wp2
  go_ret
  exact ⟨rfl, by repeat (first | exact Below.refl _ _ | refine Below.setCell ?_ (by first | (simp; done) | (simp; omega) | omega) _ | refine Below.alloc ?_ (by first | (simp; done) | (simp; omega)) _ | refine Below.drew ?_ | refine below_drewN ?_ _)⟩
def sg_n (g : Bool) : Int := if g then 2147483648 else 0
theorem sign_n (g : Bool) (w : World) : Calls Tryd.prog 76 #[FSn, .bool g] w fun e w' => e = .returned (.int .u64 (sg_n g)) ∧ Below w.heap.size w w' := by
  cases g
  · exact sign_n_f w
  · exact sign_n_t w
theorem sg_n_bd (g : Bool) : 0 ≤ sg_n g ∧ sg_n g ≤ 2147483648 := by cases g <;> decide
set_option maxHeartbeats 1000000 in
theorem nan_n (w : World) : Calls Tryd.prog 67 #[FSn] w fun e w' => e = .returned (.int .u64 2143289344) ∧ Below w.heap.size w w' := by
  go_enter Tryd.func67, Tryd.ntmps67
  go_wp2
  go_quiet ((first | (go_at_call_of 25 (Value.int IntKind.i64 9); refine Calls.quiet_of_same (pow_9 _)) | (go_at_call_of 25 (Value.int IntKind.i64 22); refine Calls.quiet_of_same (pow_22 _))))
  go_wp2
  go_ret
  exact ⟨rfl, by repeat (first | exact Below.refl _ _ | refine Below.setCell ?_ (by first | (simp; done) | (simp; omega) | omega) _ | refine Below.alloc ?_ (by first | (simp; done) | (simp; omega)) _ | refine Below.drew ?_ | refine below_drewN ?_ _)⟩
set_option maxHeartbeats 1000000 in
theorem inf_n (g : Bool) (w : World) : Calls Tryd.prog 72 #[FSn, .bool g] w fun e w' => e = .returned (.int .u64 (sg_n g + 2139095040)) ∧ Below w.heap.size w w' := by
  obtain ⟨hs0, hs1⟩ := sg_n_bd g
  have KS := fun w => Hid.mk' (sign_n g w)
  generalize sg_n g = S at *
  go_enter Tryd.func72, Tryd.ntmps72
  go_upto_region 1 with fail
  refine wp_gen (fun wc => C3 wc w.heap.size (.int .i64 24) (.int .i64 8) (.int .i64 (-149)) ∧ Below w.heap.size w wc) ⟨c3_new, (Below.refl _ _).alloc (Nat.le_refl _) _⟩ ?_
  rintro w4 ⟨⟨q0, q1, q2⟩, hw4⟩
  have kq0 := cell_regrown q0
  have kq1 := cell_regrown q1
  have kq2 := cell_regrown q2
  have n1 : IntKind.i64.wrap 23 = 23 := by decide
  have n2 : IntKind.u64.wrap 255 = 255 := by decide
  have n3 : IntKind.u64.wrap 2139095040 = 2139095040 := by decide
  have eW : IntKind.u64.wrap (S + 2139095040) = S + 2139095040 := by rw [IntKind.wrap_u64]; omega
  have cS : ∀ d os, Calls Tryd.prog 76 #[FSn, .bool g] (grow (redrawn w4 d) os) fun e w'' => e = .returned (.int .u64 S) ∧ ∃ p : Regrown, w'' = grow (redrawn w4 p.d) p.os := fun d os => Calls.regrown_of (KS _).out
  have cP1 : ∀ d os, Calls Tryd.prog 25 #[.int .i64 8] (grow (redrawn w4 d) os) fun e w'' => e = .returned (.int .u64 256) ∧ ∃ p : Regrown, w'' = grow (redrawn w4 p.d) p.os := fun d os => Calls.regrown_of ((pow_8 _).mono fun e w' h => ⟨h.1, by rw [h.2]; exact Below.refl _ _⟩)
  have cP2 : ∀ d os, Calls Tryd.prog 25 #[.int .i64 23] (grow (redrawn w4 d) os) fun e w'' => e = .returned (.int .u64 8388608) ∧ ∃ p : Regrown, w'' = grow (redrawn w4 p.d) p.os := fun d os => Calls.regrown_of ((pow_23 _).mono fun e w' h => ⟨h.1, by rw [h.2]; exact Below.refl _ _⟩)
  have HW := Hid.mk' hw4
  clear hw4 KS
  refine wp_region_quiet_below (by kernel_rfl) (by kernel_rfl) ?_
  repeat (quiet_step ((first | (go_at_call 76; exact cS _ _) | (go_at_call_of 25 (Value.int IntKind.i64 8); exact cP1 _ _) | (go_at_call_of 25 (Value.int IntKind.i64 23); exact cP2 _ _))))
  refine wpQuiet_nil ?_
  intro _ hw'
  obtain ⟨⟨dq, osq⟩, hw''⟩ := hw'
  subst hw''
  have hw5 := HW.out.trans ((below_regrown w4 dq osq).mono HW.out.size)
  show Exit.then _ _ Exit.normal _ (grow (redrawn w4 dq) osq)
  go_wp2
  go_ret
  exact ⟨rfl, hw5⟩
set_option maxHeartbeats 2000000 in
theorem sread_n_nan (a A fr E : Int) (g : Bool) (w : World) (hf0 : 0 ≤ fr) (hf1 : fr < 8388608) (h1 : E = 255) (h2 : fr ≠ 0)
    (KL : ∀ w, Hid (Calls Tryd.prog 23 #[.int .u64 a, .int .i64 32] w fun e w' => e = .returned (.int .u64 A) ∧ w = w'))
    (hA0 : 0 ≤ A) (hA1 : A ≤ 18446744073709551615) (HF : A % 8388608 = fr) (HE : A / 8388608 % 256 = E) (HG : (A / 2147483648 == 1) = g) :
    Calls Tryd.prog 26 #[FSn, .int .u64 a] w fun e w' => e = .returned (SV 2 g (.slice none 0 0) 0) ∧ Below w.heap.size w w' := by
  subst h1


  go_enter Tryd.func26, Tryd.ntmps26
  go_wp2_with fail
  refine (width_n _).mono ?_
  rintro e w1 ⟨rfl, hb⟩
  have cf := Hid.mk' (c3_new.past.keep hb)
  have cr := Hid.mk' (d4_mid.keep hb)
  have HB := Hid.mk' (below2 hb)
  clear hb
  obtain ⟨q0, q1, q2⟩ := cf.out
  go_wp2_with fail
  refine (KL _).out.mono ?_
  rintro e w2 ⟨rfl, rfl⟩
  go_wp2_with (first | (go_at_call_of 25 (Value.int IntKind.i64 23); refine ((pow_23 _).mono fun e w' h => (⟨h.1, h.2.symm⟩ : e = _ ∧ _ = w')).mono ?_; rintro e w' ⟨rfl, rfl⟩))
  go_quiet ((first | (go_at_call_of 25 (Value.int IntKind.i64 23); refine Calls.quiet_of_same (pow_23 _)) | (go_at_call_of 25 (Value.int IntKind.i64 8); refine Calls.quiet_of_same (pow_8 _))))
  have hl1 := cf.out.lt
  have hl2 := cr.out.1.lt
  have hz := HB.out.size
  have cf2 : C3 (w1.drewN nq) w.heap.size _ _ _ := cf.out
  have cr2 : D4 (w1.drewN nq) (w.heap.size + 1) _ _ _ _ := cr.out
  have CF := Hid.mk' cf2
  have CR := Hid.mk' cr2
  have HB2 := Hid.mk' (below_drewN HB.out nq)
  clear q0 q1 q2 cf cr HB cf2 cr2
  have hs1 : w1.heap.size = (w1.drewN nq).heap.size := rfl
  rw [hs1] at hl1 hl2 hz
  clear hs1
  generalize w1.drewN nq = w3 at *
  obtain ⟨q0, q1, q2⟩ := CF.out
  obtain ⟨⟨r0, r1, r2, r3⟩, v0, v1, v2, v3⟩ := CR.out
  have hn1 : w.heap.size ≠ w3.heap.size := by omega
  have hn2 : w.heap.size + 1 ≠ w3.heap.size := by omega
  go_upto_region 9 with (first | (go_at_call_of 25 (Value.int IntKind.i64 31); refine ((pow_31 _).mono fun e w' h => (⟨h.1, h.2.symm⟩ : e = _ ∧ _ = w')).mono ?_; rintro e w' ⟨rfl, rfl⟩) | (go_at_call_of 25 (Value.int IntKind.i64 8); refine ((pow_8 _).mono fun e w' h => (⟨h.1, h.2.symm⟩ : e = _ ∧ _ = w')).mono ?_; rintro e w' ⟨rfl, rfl⟩))
  refine wp_gen (fun wz => D4 wz w3.heap.size (.int .i64 2) (.bool g) (.slice none 0 0) (.int .i64 0) ∧ D4 wz (w.heap.size + 1) (.int .i64 0) (.bool false) (.slice none 0 0) (.int .i64 0) ∧ Below w.heap.size w wz) ⟨d4_new, CR.out.past, HB2.out.alloc HB2.out.size _⟩ ?_
  generalize w3.heap.size = gn at *
  clear q0 q1 q2 r0 r1 r2 r3 v0 v1 v2 v3 CF CR HB2
  rintro wz ⟨⟨⟨c0, c1, c2, c3⟩, -⟩, ⟨⟨r0, r1, r2, r3⟩, v0, v1, v2, v3⟩, hz⟩
  go_wp2
  exact bodyPost_ret (v := SV 2 g (.slice none 0 0) 0) (by simp [results, Tryd.results26, go_sem, r0, r1, r2, r3]) rfl ⟨rfl, by repeat (first | exact hz | refine Below.setCell ?_ (by first | (simp; done) | (simp; omega) | omega) _)⟩
set_option maxHeartbeats 2000000 in
theorem sread_n_inf (a A fr E : Int) (g : Bool) (w : World) (hf0 : 0 ≤ fr) (hf1 : fr < 8388608) (h1 : E = 255) (h2 : fr = 0)
    (KL : ∀ w, Hid (Calls Tryd.prog 23 #[.int .u64 a, .int .i64 32] w fun e w' => e = .returned (.int .u64 A) ∧ w = w'))
    (hA0 : 0 ≤ A) (hA1 : A ≤ 18446744073709551615) (HF : A % 8388608 = fr) (HE : A / 8388608 % 256 = E) (HG : (A / 2147483648 == 1) = g) :
    Calls Tryd.prog 26 #[FSn, .int .u64 a] w fun e w' => e = .returned (SV 1 g (.slice none 0 0) 0) ∧ Below w.heap.size w w' := by
  subst h1
  subst h2

  go_enter Tryd.func26, Tryd.ntmps26
  go_wp2_with fail
  refine (width_n _).mono ?_
  rintro e w1 ⟨rfl, hb⟩
  have cf := Hid.mk' (c3_new.past.keep hb)
  have cr := Hid.mk' (d4_mid.keep hb)
  have HB := Hid.mk' (below2 hb)
  clear hb
  obtain ⟨q0, q1, q2⟩ := cf.out
  go_wp2_with fail
  refine (KL _).out.mono ?_
  rintro e w2 ⟨rfl, rfl⟩
  go_wp2_with (first | (go_at_call_of 25 (Value.int IntKind.i64 23); refine ((pow_23 _).mono fun e w' h => (⟨h.1, h.2.symm⟩ : e = _ ∧ _ = w')).mono ?_; rintro e w' ⟨rfl, rfl⟩))
  go_quiet ((first | (go_at_call_of 25 (Value.int IntKind.i64 23); refine Calls.quiet_of_same (pow_23 _)) | (go_at_call_of 25 (Value.int IntKind.i64 8); refine Calls.quiet_of_same (pow_8 _))))
  have hl1 := cf.out.lt
  have hl2 := cr.out.1.lt
  have hz := HB.out.size
  have cf2 : C3 (w1.drewN nq) w.heap.size _ _ _ := cf.out
  have cr2 : D4 (w1.drewN nq) (w.heap.size + 1) _ _ _ _ := cr.out
  have CF := Hid.mk' cf2
  have CR := Hid.mk' cr2
  have HB2 := Hid.mk' (below_drewN HB.out nq)
  clear q0 q1 q2 cf cr HB cf2 cr2
  have hs1 : w1.heap.size = (w1.drewN nq).heap.size := rfl
  rw [hs1] at hl1 hl2 hz
  clear hs1
  generalize w1.drewN nq = w3 at *
  obtain ⟨q0, q1, q2⟩ := CF.out
  obtain ⟨⟨r0, r1, r2, r3⟩, v0, v1, v2, v3⟩ := CR.out
  have hn1 : w.heap.size ≠ w3.heap.size := by omega
  have hn2 : w.heap.size + 1 ≠ w3.heap.size := by omega
  go_upto_region 9 with (first | (go_at_call_of 25 (Value.int IntKind.i64 31); refine ((pow_31 _).mono fun e w' h => (⟨h.1, h.2.symm⟩ : e = _ ∧ _ = w')).mono ?_; rintro e w' ⟨rfl, rfl⟩) | (go_at_call_of 25 (Value.int IntKind.i64 8); refine ((pow_8 _).mono fun e w' h => (⟨h.1, h.2.symm⟩ : e = _ ∧ _ = w')).mono ?_; rintro e w' ⟨rfl, rfl⟩))
  refine wp_gen (fun wz => D4 wz w3.heap.size (.int .i64 1) (.bool g) (.slice none 0 0) (.int .i64 0) ∧ D4 wz (w.heap.size + 1) (.int .i64 0) (.bool false) (.slice none 0 0) (.int .i64 0) ∧ Below w.heap.size w wz) ⟨d4_new, CR.out.past, HB2.out.alloc HB2.out.size _⟩ ?_
  generalize w3.heap.size = gn at *
  clear q0 q1 q2 r0 r1 r2 r3 v0 v1 v2 v3 CF CR HB2
  rintro wz ⟨⟨⟨c0, c1, c2, c3⟩, -⟩, ⟨⟨r0, r1, r2, r3⟩, v0, v1, v2, v3⟩, hz⟩
  go_wp2
  exact bodyPost_ret (v := SV 1 g (.slice none 0 0) 0) (by simp [results, Tryd.results26, go_sem, r0, r1, r2, r3]) rfl ⟨rfl, by repeat (first | exact hz | refine Below.setCell ?_ (by first | (simp; done) | (simp; omega) | omega) _)⟩
set_option maxHeartbeats 2000000 in
theorem sread_n_sub (a A fr E : Int) (g : Bool) (w : World) (hf0 : 0 ≤ fr) (hf1 : fr < 8388608) (h1 : E = 0)
    (KL : ∀ w, Hid (Calls Tryd.prog 23 #[.int .u64 a, .int .i64 32] w fun e w' => e = .returned (.int .u64 A) ∧ w = w'))
    (hA0 : 0 ≤ A) (hA1 : A ≤ 18446744073709551615) (HF : A % 8388608 = fr) (HE : A / 8388608 % 256 = E) (HG : (A / 2147483648 == 1) = g) :
    Calls Tryd.prog 26 #[FSn, .int .u64 a] w fun e w' => (∃ v, e = .returned (SV 0 g v (-149)) ∧ SN w' v fr.toNat) ∧ Below w.heap.size w w' := by
  subst h1

  obtain ⟨F, rfl⟩ := Int.eq_ofNat_of_zero_le hf0
  have eT : (F : Int).toNat = F := by omega
  rw [eT]
  clear eT
  go_enter Tryd.func26, Tryd.ntmps26
  go_wp2_with fail
  refine (width_n _).mono ?_
  rintro e w1 ⟨rfl, hb⟩
  have cf := Hid.mk' (c3_new.past.keep hb)
  have cr := Hid.mk' (d4_mid.keep hb)
  have HB := Hid.mk' (below2 hb)
  clear hb
  obtain ⟨q0, q1, q2⟩ := cf.out
  go_wp2_with fail
  refine (KL _).out.mono ?_
  rintro e w2 ⟨rfl, rfl⟩
  go_wp2_with (first | (go_at_call_of 25 (Value.int IntKind.i64 23); refine ((pow_23 _).mono fun e w' h => (⟨h.1, h.2.symm⟩ : e = _ ∧ _ = w')).mono ?_; rintro e w' ⟨rfl, rfl⟩))
  go_quiet ((first | (go_at_call_of 25 (Value.int IntKind.i64 23); refine Calls.quiet_of_same (pow_23 _)) | (go_at_call_of 25 (Value.int IntKind.i64 8); refine Calls.quiet_of_same (pow_8 _))))
  have hl1 := cf.out.lt
  have hl2 := cr.out.1.lt
  have hz := HB.out.size
  have cf2 : C3 (w1.drewN nq) w.heap.size _ _ _ := cf.out
  have cr2 : D4 (w1.drewN nq) (w.heap.size + 1) _ _ _ _ := cr.out
  have CF := Hid.mk' cf2
  have CR := Hid.mk' cr2
  have HB2 := Hid.mk' (below_drewN HB.out nq)
  clear q0 q1 q2 cf cr HB cf2 cr2
  have hs1 : w1.heap.size = (w1.drewN nq).heap.size := rfl
  rw [hs1] at hl1 hl2 hz
  clear hs1
  generalize w1.drewN nq = w3 at *
  obtain ⟨q0, q1, q2⟩ := CF.out
  obtain ⟨⟨r0, r1, r2, r3⟩, v0, v1, v2, v3⟩ := CR.out
  have hn1 : w.heap.size ≠ w3.heap.size := by omega
  have hn2 : w.heap.size + 1 ≠ w3.heap.size := by omega
  go_wp2_with (first | (go_at_call_of 25 (Value.int IntKind.i64 31); refine ((pow_31 _).mono fun e w' h => (⟨h.1, h.2.symm⟩ : e = _ ∧ _ = w')).mono ?_; rintro e w' ⟨rfl, rfl⟩) | (go_at_call_of 25 (Value.int IntKind.i64 8); refine ((pow_8 _).mono fun e w' h => (⟨h.1, h.2.symm⟩ : e = _ ∧ _ = w')).mono ?_; rintro e w' ⟨rfl, rfl⟩))
  have KO := fun w => of_any F w (by omega)
  refine (KO _).mono ?_
  rintro e w4 ⟨⟨sv, rfl, hsv⟩, hb⟩
  obtain ⟨sa, scap, rfl, -⟩ := id hsv
  generalize (dg F).length = sl at *
  have CN := Hid.mk' (d4_new.keep hb)
  have CR2 := Hid.mk' (CR.out.past.keep hb)
  have HB4 := Hid.mk' ((HB2.out.alloc HB2.out.size _).trans (hb.mono (by simp; omega)))
  have HSV := Hid.mk' hsv
  clear q0 q1 q2 r0 r1 r2 r3 v0 v1 v2 v3 CF CR HB2 hb hsv KO
  generalize w3.heap.size = gn at *
  obtain ⟨⟨c0, c1, c2, c3⟩, f0, f1, f2, f3⟩ := CN.out
  go_upto_region 15 with fail
  refine wp_gen (fun wz => D4 wz gn (.int .i64 0) (.bool g) (.slice sa sl scap) (.int .i64 (-149)) ∧ D4 wz (w.heap.size + 1) (.int .i64 0) (.bool false) (.slice none 0 0) (.int .i64 0) ∧ Below w.heap.size w wz ∧ SN wz (.slice sa sl scap) F) ⟨CN.out.set2, CR2.out.far (by omega), HB4.out.setCell (by simp; omega) _, sn_set HSV.out c2 (by intro d hd; cases hd)⟩ ?_
  clear CN CR2 HB4 c0 c1 c2 c3 f0 f1 f2 f3 HSV
  rintro wz ⟨⟨⟨c0, c1, c2, c3⟩, -⟩, ⟨⟨r0, r1, r2, r3⟩, v0, v1, v2, v3⟩, hz, hsv⟩
  go_wp2
  exact bodyPost_ret (v := SV 0 g (.slice sa sl scap) (-149)) (by simp [results, Tryd.results26, go_sem, r0, r1, r2, r3]) rfl ⟨⟨_, rfl, sn_d4 hsv ⟨⟨r0, r1, r2, r3⟩, v0, v1, v2, v3⟩⟩, by repeat (first | exact hz | refine Below.setCell ?_ (by first | (simp; done) | (simp; omega) | omega) _)⟩
set_option maxHeartbeats 2000000 in
theorem sread_n_nor (a A fr E : Int) (g : Bool) (w : World) (hf0 : 0 ≤ fr) (hf1 : fr < 8388608) (h1 : 0 < E) (h2 : E < 255)
    (KL : ∀ w, Hid (Calls Tryd.prog 23 #[.int .u64 a, .int .i64 32] w fun e w' => e = .returned (.int .u64 A) ∧ w = w'))
    (hA0 : 0 ≤ A) (hA1 : A ≤ 18446744073709551615) (HF : A % 8388608 = fr) (HE : A / 8388608 % 256 = E) (HG : (A / 2147483648 == 1) = g) :
    Calls Tryd.prog 26 #[FSn, .int .u64 a] w fun e w' => (∃ v, e = .returned (SV 0 g v (-149 + E - 1)) ∧ SN w' v (fr + 8388608).toNat) ∧ Below w.heap.size w w' := by


  obtain ⟨F, rfl⟩ := Int.eq_ofNat_of_zero_le hf0
  have eT : ((F : Int) + 8388608).toNat = F + 8388608 := by omega
  rw [eT]
  clear eT
  go_enter Tryd.func26, Tryd.ntmps26
  go_wp2_with fail
  refine (width_n _).mono ?_
  rintro e w1 ⟨rfl, hb⟩
  have cf := Hid.mk' (c3_new.past.keep hb)
  have cr := Hid.mk' (d4_mid.keep hb)
  have HB := Hid.mk' (below2 hb)
  clear hb
  obtain ⟨q0, q1, q2⟩ := cf.out
  go_wp2_with fail
  refine (KL _).out.mono ?_
  rintro e w2 ⟨rfl, rfl⟩
  go_wp2_with (first | (go_at_call_of 25 (Value.int IntKind.i64 23); refine ((pow_23 _).mono fun e w' h => (⟨h.1, h.2.symm⟩ : e = _ ∧ _ = w')).mono ?_; rintro e w' ⟨rfl, rfl⟩))
  go_quiet ((first | (go_at_call_of 25 (Value.int IntKind.i64 23); refine Calls.quiet_of_same (pow_23 _)) | (go_at_call_of 25 (Value.int IntKind.i64 8); refine Calls.quiet_of_same (pow_8 _))))
  have hl1 := cf.out.lt
  have hl2 := cr.out.1.lt
  have hz := HB.out.size
  have cf2 : C3 (w1.drewN nq) w.heap.size _ _ _ := cf.out
  have cr2 : D4 (w1.drewN nq) (w.heap.size + 1) _ _ _ _ := cr.out
  have CF := Hid.mk' cf2
  have CR := Hid.mk' cr2
  have HB2 := Hid.mk' (below_drewN HB.out nq)
  clear q0 q1 q2 cf cr HB cf2 cr2
  have hs1 : w1.heap.size = (w1.drewN nq).heap.size := rfl
  rw [hs1] at hl1 hl2 hz
  clear hs1
  generalize w1.drewN nq = w3 at *
  obtain ⟨q0, q1, q2⟩ := CF.out
  obtain ⟨⟨r0, r1, r2, r3⟩, v0, v1, v2, v3⟩ := CR.out
  have hn1 : w.heap.size ≠ w3.heap.size := by omega
  have hn2 : w.heap.size + 1 ≠ w3.heap.size := by omega
  have t1 : (E == 255) = false := beq_eq_false_iff_ne.2 (by omega)
  go_wp2_with (first | (go_at_call_of 25 (Value.int IntKind.i64 31); refine ((pow_31 _).mono fun e w' h => (⟨h.1, h.2.symm⟩ : e = _ ∧ _ = w')).mono ?_; rintro e w' ⟨rfl, rfl⟩) | (go_at_call_of 25 (Value.int IntKind.i64 8); refine ((pow_8 _).mono fun e w' h => (⟨h.1, h.2.symm⟩ : e = _ ∧ _ = w')).mono ?_; rintro e w' ⟨rfl, rfl⟩) | (go_at_call_of 25 (Value.int IntKind.i64 23); refine ((pow_23 _).mono fun e w' h => (⟨h.1, h.2.symm⟩ : e = _ ∧ _ = w')).mono ?_; rintro e w' ⟨rfl, rfl⟩))
  have KO := fun w => of_any (F + 8388608) w (by omega)
  rw [show ((F + 8388608 : Nat) : Int) = (F : Int) + 8388608 by omega] at KO
  refine (KO _).mono ?_
  rintro e w4 ⟨⟨sv, rfl, hsv⟩, hb⟩
  obtain ⟨sa, scap, rfl, -⟩ := id hsv
  generalize (dg (F + 8388608)).length = sl at *
  have CN := Hid.mk' (d4_new.keep hb)
  have CR2 := Hid.mk' (CR.out.past.keep hb)
  have HB4 := Hid.mk' ((HB2.out.alloc HB2.out.size _).trans (hb.mono (by simp; omega)))
  have HSV := Hid.mk' hsv
  clear q0 q1 q2 r0 r1 r2 r3 v0 v1 v2 v3 CF CR HB2 hb hsv KO
  generalize w3.heap.size = gn at *
  obtain ⟨⟨c0, c1, c2, c3⟩, f0, f1, f2, f3⟩ := CN.out
  go_upto_region 15 with fail
  refine wp_gen (fun wz => D4 wz gn (.int .i64 0) (.bool g) (.slice sa sl scap) (.int .i64 (-149 + E - 1)) ∧ D4 wz (w.heap.size + 1) (.int .i64 0) (.bool false) (.slice none 0 0) (.int .i64 0) ∧ Below w.heap.size w wz ∧ SN wz (.slice sa sl scap) (F + 8388608)) ⟨CN.out.set2, CR2.out.far (by omega), HB4.out.setCell (by simp; omega) _, sn_set HSV.out c2 (by intro d hd; cases hd)⟩ ?_
  clear CN CR2 HB4 c0 c1 c2 c3 f0 f1 f2 f3 HSV
  rintro wz ⟨⟨⟨c0, c1, c2, c3⟩, -⟩, ⟨⟨r0, r1, r2, r3⟩, v0, v1, v2, v3⟩, hz, hsv⟩
  go_wp2
  exact bodyPost_ret (v := SV 0 g (.slice sa sl scap) (-149 + E - 1)) (by simp [results, Tryd.results26, go_sem, r0, r1, r2, r3]) rfl ⟨⟨_, rfl, sn_d4 hsv ⟨⟨r0, r1, r2, r3⟩, v0, v1, v2, v3⟩⟩, by repeat (first | exact hz | refine Below.setCell ?_ (by first | (simp; done) | (simp; omega) | omega) _)⟩
set_option maxHeartbeats 1000000 in
theorem width_w (w : World) : Calls Tryd.prog 24 #[FSw] w fun e w' => e = .returned (.int .i64 64) ∧ Below w.heap.size w w' := by
  go_enter Tryd.func24, Tryd.ntmps24
  go_wp2
  go_ret
  exact ⟨rfl, by repeat (first | exact Below.refl _ _ | refine Below.setCell ?_ (by first | (simp; done) | (simp; omega) | omega) _ | refine Below.alloc ?_ (by first | (simp; done) | (simp; omega)) _ | refine Below.drew ?_ | refine below_drewN ?_ _)⟩
set_option maxHeartbeats 1000000 in
theorem sign_w_t (w : World) : Calls Tryd.prog 76 #[FSw, .bool true] w fun e w' => e = .returned (.int .u64 9223372036854775808) ∧ Below w.heap.size w w' := by
  go_enter Tryd.func76, Tryd.ntmps76
  go_wp2_with (first | (go_at_call_of 25 (Value.int IntKind.i64 63); refine ((pow_63 _).mono fun e w' h => (⟨h.1, h.2.symm⟩ : e = _ ∧ _ = w')).mono ?_; rintro e w' ⟨rfl, rfl⟩))
  go_ret
  exact ⟨rfl, by repeat (first | exact Below.refl _ _ | refine Below.setCell ?_ (by first | (simp; done) | (simp; omega) | omega) _ | refine Below.alloc ?_ (by first | (simp; done) | (simp; omega)) _ | refine Below.drew ?_ | refine below_drewN ?_ _)⟩
set_option maxHeartbeats 1000000 in
theorem sign_w_f (w : World) : Calls Tryd.prog 76 #[FSw, .bool false] w fun e w' => e = .returned (.int .u64 0) ∧ Below w.heap.size w w' := by
  go_enter Tryd.func76, Tryd.ntmps76
  go_wp2
  go_ret
  exact ⟨rfl, by repeat (first | exact Below.refl _ _ | refine Below.setCell ?_ (by first | (simp; done) | (simp; omega) | omega) _ | refine Below.alloc ?_ (by first | (simp; done) | (simp; omega)) _ | refine Below.drew ?_ | refine below_drewN ?_ _)⟩
def sg_w (g : Bool) : Int := if g then 9223372036854775808 else 0
theorem sign_w (g : Bool) (w : World) : Calls Tryd.prog 76 #[FSw, .bool g] w fun e w' => e = .returned (.int .u64 (sg_w g)) ∧ Below w.heap.size w w' := by
  cases g
  · exact sign_w_f w
  · exact sign_w_t w
theorem sg_w_bd (g : Bool) : 0 ≤ sg_w g ∧ sg_w g ≤ 9223372036854775808 := by cases g <;> decide
set_option maxHeartbeats 1000000 in
theorem nan_w (w : World) : Calls Tryd.prog 67 #[FSw] w fun e w' => e = .returned (.int .u64 9221120237041090560) ∧ Below w.heap.size w w' := by
  go_enter Tryd.func67, Tryd.ntmps67
  go_wp2
  go_quiet ((first | (go_at_call_of 25 (Value.int IntKind.i64 12); refine Calls.quiet_of_same (pow_12 _)) | (go_at_call_of 25 (Value.int IntKind.i64 51); refine Calls.quiet_of_same (pow_51 _))))
  go_wp2
  go_ret
  exact ⟨rfl, by repeat (first | exact Below.refl _ _ | refine Below.setCell ?_ (by first | (simp; done) | (simp; omega) | omega) _ | refine Below.alloc ?_ (by first | (simp; done) | (simp; omega)) _ | refine Below.drew ?_ | refine below_drewN ?_ _)⟩
set_option maxHeartbeats 1000000 in
theorem inf_w (g : Bool) (w : World) : Calls Tryd.prog 72 #[FSw, .bool g] w fun e w' => e = .returned (.int .u64 (sg_w g + 9218868437227405312)) ∧ Below w.heap.size w w' := by
  obtain ⟨hs0, hs1⟩ := sg_w_bd g
  have KS := fun w => Hid.mk' (sign_w g w)
  generalize sg_w g = S at *
  go_enter Tryd.func72, Tryd.ntmps72
  go_upto_region 1 with fail
  refine wp_gen (fun wc => C3 wc w.heap.size (.int .i64 53) (.int .i64 11) (.int .i64 (-1074)) ∧ Below w.heap.size w wc) ⟨c3_new, (Below.refl _ _).alloc (Nat.le_refl _) _⟩ ?_
  rintro w4 ⟨⟨q0, q1, q2⟩, hw4⟩
  have kq0 := cell_regrown q0
  have kq1 := cell_regrown q1
  have kq2 := cell_regrown q2
  have n1 : IntKind.i64.wrap 52 = 52 := by decide
  have n2 : IntKind.u64.wrap 2047 = 2047 := by decide
  have n3 : IntKind.u64.wrap 9218868437227405312 = 9218868437227405312 := by decide
  have eW : IntKind.u64.wrap (S + 9218868437227405312) = S + 9218868437227405312 := by rw [IntKind.wrap_u64]; omega
  have cS : ∀ d os, Calls Tryd.prog 76 #[FSw, .bool g] (grow (redrawn w4 d) os) fun e w'' => e = .returned (.int .u64 S) ∧ ∃ p : Regrown, w'' = grow (redrawn w4 p.d) p.os := fun d os => Calls.regrown_of (KS _).out
  have cP1 : ∀ d os, Calls Tryd.prog 25 #[.int .i64 11] (grow (redrawn w4 d) os) fun e w'' => e = .returned (.int .u64 2048) ∧ ∃ p : Regrown, w'' = grow (redrawn w4 p.d) p.os := fun d os => Calls.regrown_of ((pow_11 _).mono fun e w' h => ⟨h.1, by rw [h.2]; exact Below.refl _ _⟩)
  have cP2 : ∀ d os, Calls Tryd.prog 25 #[.int .i64 52] (grow (redrawn w4 d) os) fun e w'' => e = .returned (.int .u64 4503599627370496) ∧ ∃ p : Regrown, w'' = grow (redrawn w4 p.d) p.os := fun d os => Calls.regrown_of ((pow_52 _).mono fun e w' h => ⟨h.1, by rw [h.2]; exact Below.refl _ _⟩)
  have HW := Hid.mk' hw4
  clear hw4 KS
  refine wp_region_quiet_below (by kernel_rfl) (by kernel_rfl) ?_
  repeat (quiet_step ((first | (go_at_call 76; exact cS _ _) | (go_at_call_of 25 (Value.int IntKind.i64 11); exact cP1 _ _) | (go_at_call_of 25 (Value.int IntKind.i64 52); exact cP2 _ _))))
  refine wpQuiet_nil ?_
  intro _ hw'
  obtain ⟨⟨dq, osq⟩, hw''⟩ := hw'
  subst hw''
  have hw5 := HW.out.trans ((below_regrown w4 dq osq).mono HW.out.size)
  show Exit.then _ _ Exit.normal _ (grow (redrawn w4 dq) osq)
  go_wp2
  go_ret
  exact ⟨rfl, hw5⟩
set_option maxHeartbeats 2000000 in
theorem sread_w_nan (a A fr E : Int) (g : Bool) (w : World) (hf0 : 0 ≤ fr) (hf1 : fr < 4503599627370496) (h1 : E = 2047) (h2 : fr ≠ 0)
    (KL : ∀ w, Hid (Calls Tryd.prog 23 #[.int .u64 a, .int .i64 64] w fun e w' => e = .returned (.int .u64 A) ∧ w = w'))
    (hA0 : 0 ≤ A) (hA1 : A ≤ 18446744073709551615) (HF : A % 4503599627370496 = fr) (HE : A / 4503599627370496 % 2048 = E) (HG : (A / 9223372036854775808 == 1) = g) :
    Calls Tryd.prog 26 #[FSw, .int .u64 a] w fun e w' => e = .returned (SV 2 g (.slice none 0 0) 0) ∧ Below w.heap.size w w' := by
  subst h1


  go_enter Tryd.func26, Tryd.ntmps26
  go_wp2_with fail
  refine (width_w _).mono ?_
  rintro e w1 ⟨rfl, hb⟩
  have cf := Hid.mk' (c3_new.past.keep hb)
  have cr := Hid.mk' (d4_mid.keep hb)
  have HB := Hid.mk' (below2 hb)
  clear hb
  obtain ⟨q0, q1, q2⟩ := cf.out
  go_wp2_with fail
  refine (KL _).out.mono ?_
  rintro e w2 ⟨rfl, rfl⟩
  go_wp2_with (first | (go_at_call_of 25 (Value.int IntKind.i64 52); refine ((pow_52 _).mono fun e w' h => (⟨h.1, h.2.symm⟩ : e = _ ∧ _ = w')).mono ?_; rintro e w' ⟨rfl, rfl⟩))
  go_quiet ((first | (go_at_call_of 25 (Value.int IntKind.i64 52); refine Calls.quiet_of_same (pow_52 _)) | (go_at_call_of 25 (Value.int IntKind.i64 11); refine Calls.quiet_of_same (pow_11 _))))
  have hl1 := cf.out.lt
  have hl2 := cr.out.1.lt
  have hz := HB.out.size
  have cf2 : C3 (w1.drewN nq) w.heap.size _ _ _ := cf.out
  have cr2 : D4 (w1.drewN nq) (w.heap.size + 1) _ _ _ _ := cr.out
  have CF := Hid.mk' cf2
  have CR := Hid.mk' cr2
  have HB2 := Hid.mk' (below_drewN HB.out nq)
  clear q0 q1 q2 cf cr HB cf2 cr2
  have hs1 : w1.heap.size = (w1.drewN nq).heap.size := rfl
  rw [hs1] at hl1 hl2 hz
  clear hs1
  generalize w1.drewN nq = w3 at *
  obtain ⟨q0, q1, q2⟩ := CF.out
  obtain ⟨⟨r0, r1, r2, r3⟩, v0, v1, v2, v3⟩ := CR.out
  have hn1 : w.heap.size ≠ w3.heap.size := by omega
  have hn2 : w.heap.size + 1 ≠ w3.heap.size := by omega
  go_upto_region 9 with (first | (go_at_call_of 25 (Value.int IntKind.i64 63); refine ((pow_63 _).mono fun e w' h => (⟨h.1, h.2.symm⟩ : e = _ ∧ _ = w')).mono ?_; rintro e w' ⟨rfl, rfl⟩) | (go_at_call_of 25 (Value.int IntKind.i64 11); refine ((pow_11 _).mono fun e w' h => (⟨h.1, h.2.symm⟩ : e = _ ∧ _ = w')).mono ?_; rintro e w' ⟨rfl, rfl⟩))
  refine wp_gen (fun wz => D4 wz w3.heap.size (.int .i64 2) (.bool g) (.slice none 0 0) (.int .i64 0) ∧ D4 wz (w.heap.size + 1) (.int .i64 0) (.bool false) (.slice none 0 0) (.int .i64 0) ∧ Below w.heap.size w wz) ⟨d4_new, CR.out.past, HB2.out.alloc HB2.out.size _⟩ ?_
  generalize w3.heap.size = gn at *
  clear q0 q1 q2 r0 r1 r2 r3 v0 v1 v2 v3 CF CR HB2
  rintro wz ⟨⟨⟨c0, c1, c2, c3⟩, -⟩, ⟨⟨r0, r1, r2, r3⟩, v0, v1, v2, v3⟩, hz⟩
  go_wp2
  exact bodyPost_ret (v := SV 2 g (.slice none 0 0) 0) (by simp [results, Tryd.results26, go_sem, r0, r1, r2, r3]) rfl ⟨rfl, by repeat (first | exact hz | refine Below.setCell ?_ (by first | (simp; done) | (simp; omega) | omega) _)⟩
set_option maxHeartbeats 2000000 in
theorem sread_w_inf (a A fr E : Int) (g : Bool) (w : World) (hf0 : 0 ≤ fr) (hf1 : fr < 4503599627370496) (h1 : E = 2047) (h2 : fr = 0)
    (KL : ∀ w, Hid (Calls Tryd.prog 23 #[.int .u64 a, .int .i64 64] w fun e w' => e = .returned (.int .u64 A) ∧ w = w'))
    (hA0 : 0 ≤ A) (hA1 : A ≤ 18446744073709551615) (HF : A % 4503599627370496 = fr) (HE : A / 4503599627370496 % 2048 = E) (HG : (A / 9223372036854775808 == 1) = g) :
    Calls Tryd.prog 26 #[FSw, .int .u64 a] w fun e w' => e = .returned (SV 1 g (.slice none 0 0) 0) ∧ Below w.heap.size w w' := by
  subst h1
  subst h2

  go_enter Tryd.func26, Tryd.ntmps26
  go_wp2_with fail
  refine (width_w _).mono ?_
  rintro e w1 ⟨rfl, hb⟩
  have cf := Hid.mk' (c3_new.past.keep hb)
  have cr := Hid.mk' (d4_mid.keep hb)
  have HB := Hid.mk' (below2 hb)
  clear hb
  obtain ⟨q0, q1, q2⟩ := cf.out
  go_wp2_with fail
  refine (KL _).out.mono ?_
  rintro e w2 ⟨rfl, rfl⟩
  go_wp2_with (first | (go_at_call_of 25 (Value.int IntKind.i64 52); refine ((pow_52 _).mono fun e w' h => (⟨h.1, h.2.symm⟩ : e = _ ∧ _ = w')).mono ?_; rintro e w' ⟨rfl, rfl⟩))
  go_quiet ((first | (go_at_call_of 25 (Value.int IntKind.i64 52); refine Calls.quiet_of_same (pow_52 _)) | (go_at_call_of 25 (Value.int IntKind.i64 11); refine Calls.quiet_of_same (pow_11 _))))
  have hl1 := cf.out.lt
  have hl2 := cr.out.1.lt
  have hz := HB.out.size
  have cf2 : C3 (w1.drewN nq) w.heap.size _ _ _ := cf.out
  have cr2 : D4 (w1.drewN nq) (w.heap.size + 1) _ _ _ _ := cr.out
  have CF := Hid.mk' cf2
  have CR := Hid.mk' cr2
  have HB2 := Hid.mk' (below_drewN HB.out nq)
  clear q0 q1 q2 cf cr HB cf2 cr2
  have hs1 : w1.heap.size = (w1.drewN nq).heap.size := rfl
  rw [hs1] at hl1 hl2 hz
  clear hs1
  generalize w1.drewN nq = w3 at *
  obtain ⟨q0, q1, q2⟩ := CF.out
  obtain ⟨⟨r0, r1, r2, r3⟩, v0, v1, v2, v3⟩ := CR.out
  have hn1 : w.heap.size ≠ w3.heap.size := by omega
  have hn2 : w.heap.size + 1 ≠ w3.heap.size := by omega
  go_upto_region 9 with (first | (go_at_call_of 25 (Value.int IntKind.i64 63); refine ((pow_63 _).mono fun e w' h => (⟨h.1, h.2.symm⟩ : e = _ ∧ _ = w')).mono ?_; rintro e w' ⟨rfl, rfl⟩) | (go_at_call_of 25 (Value.int IntKind.i64 11); refine ((pow_11 _).mono fun e w' h => (⟨h.1, h.2.symm⟩ : e = _ ∧ _ = w')).mono ?_; rintro e w' ⟨rfl, rfl⟩))
  refine wp_gen (fun wz => D4 wz w3.heap.size (.int .i64 1) (.bool g) (.slice none 0 0) (.int .i64 0) ∧ D4 wz (w.heap.size + 1) (.int .i64 0) (.bool false) (.slice none 0 0) (.int .i64 0) ∧ Below w.heap.size w wz) ⟨d4_new, CR.out.past, HB2.out.alloc HB2.out.size _⟩ ?_
  generalize w3.heap.size = gn at *
  clear q0 q1 q2 r0 r1 r2 r3 v0 v1 v2 v3 CF CR HB2
  rintro wz ⟨⟨⟨c0, c1, c2, c3⟩, -⟩, ⟨⟨r0, r1, r2, r3⟩, v0, v1, v2, v3⟩, hz⟩
  go_wp2
  exact bodyPost_ret (v := SV 1 g (.slice none 0 0) 0) (by simp [results, Tryd.results26, go_sem, r0, r1, r2, r3]) rfl ⟨rfl, by repeat (first | exact hz | refine Below.setCell ?_ (by first | (simp; done) | (simp; omega) | omega) _)⟩
set_option maxHeartbeats 2000000 in
theorem sread_w_sub (a A fr E : Int) (g : Bool) (w : World) (hf0 : 0 ≤ fr) (hf1 : fr < 4503599627370496) (h1 : E = 0)
    (KL : ∀ w, Hid (Calls Tryd.prog 23 #[.int .u64 a, .int .i64 64] w fun e w' => e = .returned (.int .u64 A) ∧ w = w'))
    (hA0 : 0 ≤ A) (hA1 : A ≤ 18446744073709551615) (HF : A % 4503599627370496 = fr) (HE : A / 4503599627370496 % 2048 = E) (HG : (A / 9223372036854775808 == 1) = g) :
    Calls Tryd.prog 26 #[FSw, .int .u64 a] w fun e w' => (∃ v, e = .returned (SV 0 g v (-1074)) ∧ SN w' v fr.toNat) ∧ Below w.heap.size w w' := by
  subst h1

  obtain ⟨F, rfl⟩ := Int.eq_ofNat_of_zero_le hf0
  have eT : (F : Int).toNat = F := by omega
  rw [eT]
  clear eT
  go_enter Tryd.func26, Tryd.ntmps26
  go_wp2_with fail
  refine (width_w _).mono ?_
  rintro e w1 ⟨rfl, hb⟩
  have cf := Hid.mk' (c3_new.past.keep hb)
  have cr := Hid.mk' (d4_mid.keep hb)
  have HB := Hid.mk' (below2 hb)
  clear hb
  obtain ⟨q0, q1, q2⟩ := cf.out
  go_wp2_with fail
  refine (KL _).out.mono ?_
  rintro e w2 ⟨rfl, rfl⟩
  go_wp2_with (first | (go_at_call_of 25 (Value.int IntKind.i64 52); refine ((pow_52 _).mono fun e w' h => (⟨h.1, h.2.symm⟩ : e = _ ∧ _ = w')).mono ?_; rintro e w' ⟨rfl, rfl⟩))
  go_quiet ((first | (go_at_call_of 25 (Value.int IntKind.i64 52); refine Calls.quiet_of_same (pow_52 _)) | (go_at_call_of 25 (Value.int IntKind.i64 11); refine Calls.quiet_of_same (pow_11 _))))
  have hl1 := cf.out.lt
  have hl2 := cr.out.1.lt
  have hz := HB.out.size
  have cf2 : C3 (w1.drewN nq) w.heap.size _ _ _ := cf.out
  have cr2 : D4 (w1.drewN nq) (w.heap.size + 1) _ _ _ _ := cr.out
  have CF := Hid.mk' cf2
  have CR := Hid.mk' cr2
  have HB2 := Hid.mk' (below_drewN HB.out nq)
  clear q0 q1 q2 cf cr HB cf2 cr2
  have hs1 : w1.heap.size = (w1.drewN nq).heap.size := rfl
  rw [hs1] at hl1 hl2 hz
  clear hs1
  generalize w1.drewN nq = w3 at *
  obtain ⟨q0, q1, q2⟩ := CF.out
  obtain ⟨⟨r0, r1, r2, r3⟩, v0, v1, v2, v3⟩ := CR.out
  have hn1 : w.heap.size ≠ w3.heap.size := by omega
  have hn2 : w.heap.size + 1 ≠ w3.heap.size := by omega
  go_wp2_with (first | (go_at_call_of 25 (Value.int IntKind.i64 63); refine ((pow_63 _).mono fun e w' h => (⟨h.1, h.2.symm⟩ : e = _ ∧ _ = w')).mono ?_; rintro e w' ⟨rfl, rfl⟩) | (go_at_call_of 25 (Value.int IntKind.i64 11); refine ((pow_11 _).mono fun e w' h => (⟨h.1, h.2.symm⟩ : e = _ ∧ _ = w')).mono ?_; rintro e w' ⟨rfl, rfl⟩))
  have KO := fun w => of_any F w (by omega)
  refine (KO _).mono ?_
  rintro e w4 ⟨⟨sv, rfl, hsv⟩, hb⟩
  obtain ⟨sa, scap, rfl, -⟩ := id hsv
  generalize (dg F).length = sl at *
  have CN := Hid.mk' (d4_new.keep hb)
  have CR2 := Hid.mk' (CR.out.past.keep hb)
  have HB4 := Hid.mk' ((HB2.out.alloc HB2.out.size _).trans (hb.mono (by simp; omega)))
  have HSV := Hid.mk' hsv
  clear q0 q1 q2 r0 r1 r2 r3 v0 v1 v2 v3 CF CR HB2 hb hsv KO
  generalize w3.heap.size = gn at *
  obtain ⟨⟨c0, c1, c2, c3⟩, f0, f1, f2, f3⟩ := CN.out
  go_upto_region 15 with fail
  refine wp_gen (fun wz => D4 wz gn (.int .i64 0) (.bool g) (.slice sa sl scap) (.int .i64 (-1074)) ∧ D4 wz (w.heap.size + 1) (.int .i64 0) (.bool false) (.slice none 0 0) (.int .i64 0) ∧ Below w.heap.size w wz ∧ SN wz (.slice sa sl scap) F) ⟨CN.out.set2, CR2.out.far (by omega), HB4.out.setCell (by simp; omega) _, sn_set HSV.out c2 (by intro d hd; cases hd)⟩ ?_
  clear CN CR2 HB4 c0 c1 c2 c3 f0 f1 f2 f3 HSV
  rintro wz ⟨⟨⟨c0, c1, c2, c3⟩, -⟩, ⟨⟨r0, r1, r2, r3⟩, v0, v1, v2, v3⟩, hz, hsv⟩
  go_wp2
  exact bodyPost_ret (v := SV 0 g (.slice sa sl scap) (-1074)) (by simp [results, Tryd.results26, go_sem, r0, r1, r2, r3]) rfl ⟨⟨_, rfl, sn_d4 hsv ⟨⟨r0, r1, r2, r3⟩, v0, v1, v2, v3⟩⟩, by repeat (first | exact hz | refine Below.setCell ?_ (by first | (simp; done) | (simp; omega) | omega) _)⟩
set_option maxHeartbeats 2000000 in
theorem sread_w_nor (a A fr E : Int) (g : Bool) (w : World) (hf0 : 0 ≤ fr) (hf1 : fr < 4503599627370496) (h1 : 0 < E) (h2 : E < 2047)
    (KL : ∀ w, Hid (Calls Tryd.prog 23 #[.int .u64 a, .int .i64 64] w fun e w' => e = .returned (.int .u64 A) ∧ w = w'))
    (hA0 : 0 ≤ A) (hA1 : A ≤ 18446744073709551615) (HF : A % 4503599627370496 = fr) (HE : A / 4503599627370496 % 2048 = E) (HG : (A / 9223372036854775808 == 1) = g) :
    Calls Tryd.prog 26 #[FSw, .int .u64 a] w fun e w' => (∃ v, e = .returned (SV 0 g v (-1074 + E - 1)) ∧ SN w' v (fr + 4503599627370496).toNat) ∧ Below w.heap.size w w' := by


  obtain ⟨F, rfl⟩ := Int.eq_ofNat_of_zero_le hf0
  have eT : ((F : Int) + 4503599627370496).toNat = F + 4503599627370496 := by omega
  rw [eT]
  clear eT
  go_enter Tryd.func26, Tryd.ntmps26
  go_wp2_with fail
  refine (width_w _).mono ?_
  rintro e w1 ⟨rfl, hb⟩
  have cf := Hid.mk' (c3_new.past.keep hb)
  have cr := Hid.mk' (d4_mid.keep hb)
  have HB := Hid.mk' (below2 hb)
  clear hb
  obtain ⟨q0, q1, q2⟩ := cf.out
  go_wp2_with fail
  refine (KL _).out.mono ?_
  rintro e w2 ⟨rfl, rfl⟩
  go_wp2_with (first | (go_at_call_of 25 (Value.int IntKind.i64 52); refine ((pow_52 _).mono fun e w' h => (⟨h.1, h.2.symm⟩ : e = _ ∧ _ = w')).mono ?_; rintro e w' ⟨rfl, rfl⟩))
  go_quiet ((first | (go_at_call_of 25 (Value.int IntKind.i64 52); refine Calls.quiet_of_same (pow_52 _)) | (go_at_call_of 25 (Value.int IntKind.i64 11); refine Calls.quiet_of_same (pow_11 _))))
  have hl1 := cf.out.lt
  have hl2 := cr.out.1.lt
  have hz := HB.out.size
  have cf2 : C3 (w1.drewN nq) w.heap.size _ _ _ := cf.out
  have cr2 : D4 (w1.drewN nq) (w.heap.size + 1) _ _ _ _ := cr.out
  have CF := Hid.mk' cf2
  have CR := Hid.mk' cr2
  have HB2 := Hid.mk' (below_drewN HB.out nq)
  clear q0 q1 q2 cf cr HB cf2 cr2
  have hs1 : w1.heap.size = (w1.drewN nq).heap.size := rfl
  rw [hs1] at hl1 hl2 hz
  clear hs1
  generalize w1.drewN nq = w3 at *
  obtain ⟨q0, q1, q2⟩ := CF.out
  obtain ⟨⟨r0, r1, r2, r3⟩, v0, v1, v2, v3⟩ := CR.out
  have hn1 : w.heap.size ≠ w3.heap.size := by omega
  have hn2 : w.heap.size + 1 ≠ w3.heap.size := by omega
  have t1 : (E == 2047) = false := beq_eq_false_iff_ne.2 (by omega)
  go_wp2_with (first | (go_at_call_of 25 (Value.int IntKind.i64 63); refine ((pow_63 _).mono fun e w' h => (⟨h.1, h.2.symm⟩ : e = _ ∧ _ = w')).mono ?_; rintro e w' ⟨rfl, rfl⟩) | (go_at_call_of 25 (Value.int IntKind.i64 11); refine ((pow_11 _).mono fun e w' h => (⟨h.1, h.2.symm⟩ : e = _ ∧ _ = w')).mono ?_; rintro e w' ⟨rfl, rfl⟩) | (go_at_call_of 25 (Value.int IntKind.i64 52); refine ((pow_52 _).mono fun e w' h => (⟨h.1, h.2.symm⟩ : e = _ ∧ _ = w')).mono ?_; rintro e w' ⟨rfl, rfl⟩))
  have KO := fun w => of_any (F + 4503599627370496) w (by omega)
  rw [show ((F + 4503599627370496 : Nat) : Int) = (F : Int) + 4503599627370496 by omega] at KO
  refine (KO _).mono ?_
  rintro e w4 ⟨⟨sv, rfl, hsv⟩, hb⟩
  obtain ⟨sa, scap, rfl, -⟩ := id hsv
  generalize (dg (F + 4503599627370496)).length = sl at *
  have CN := Hid.mk' (d4_new.keep hb)
  have CR2 := Hid.mk' (CR.out.past.keep hb)
  have HB4 := Hid.mk' ((HB2.out.alloc HB2.out.size _).trans (hb.mono (by simp; omega)))
  have HSV := Hid.mk' hsv
  clear q0 q1 q2 r0 r1 r2 r3 v0 v1 v2 v3 CF CR HB2 hb hsv KO
  generalize w3.heap.size = gn at *
  obtain ⟨⟨c0, c1, c2, c3⟩, f0, f1, f2, f3⟩ := CN.out
  go_upto_region 15 with fail
  refine wp_gen (fun wz => D4 wz gn (.int .i64 0) (.bool g) (.slice sa sl scap) (.int .i64 (-1074 + E - 1)) ∧ D4 wz (w.heap.size + 1) (.int .i64 0) (.bool false) (.slice none 0 0) (.int .i64 0) ∧ Below w.heap.size w wz ∧ SN wz (.slice sa sl scap) (F + 4503599627370496)) ⟨CN.out.set2, CR2.out.far (by omega), HB4.out.setCell (by simp; omega) _, sn_set HSV.out c2 (by intro d hd; cases hd)⟩ ?_
  clear CN CR2 HB4 c0 c1 c2 c3 f0 f1 f2 f3 HSV
  rintro wz ⟨⟨⟨c0, c1, c2, c3⟩, -⟩, ⟨⟨r0, r1, r2, r3⟩, v0, v1, v2, v3⟩, hz, hsv⟩
  go_wp2
  exact bodyPost_ret (v := SV 0 g (.slice sa sl scap) (-1074 + E - 1)) (by simp [results, Tryd.results26, go_sem, r0, r1, r2, r3]) rfl ⟨⟨_, rfl, sn_d4 hsv ⟨⟨r0, r1, r2, r3⟩, v0, v1, v2, v3⟩⟩, by repeat (first | exact hz | refine Below.setCell ?_ (by first | (simp; done) | (simp; omega) | omega) _)⟩
end Go.Proofs.YthmppcfhbbjhlaaDoor
