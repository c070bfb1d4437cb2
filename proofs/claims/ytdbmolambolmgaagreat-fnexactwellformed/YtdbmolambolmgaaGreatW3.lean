import Derived.Test.YtdbmolambolmgaaGreatW2
set_option linter.all false
set_option linter.unusedVariables false
namespace Go.Proofs.YtdbmolambolmgaaGreat
open Go.RowKit Go.Sort
set_option maxRecDepth 100000
theorem ilim2 (x : Limits) (w : World) (hI : Limits.Is 0 w x) (hl : Limits.LB 1048576 x) : Calls Tryz.prog 54 #[.agg #[.int .i64 x.min, .int .i64 x.max, .bool x.has]] w fun e w' => e = .returned (.bool (limB x)) ∧ Below w.heap.size w w' := ilim_c x w
set_option maxHeartbeats 8000000 in
theorem aaFType_c (a : Option Addr) (c : Nat) (xs : List FType) (w : World) (hl : xs.length ≤ 1048576 ∧ ∀ i, i < xs.length → FType.LB 1048576 (xs.getD i FType.z)) (hL : FType.Ls 0 w a xs) :
    Calls Tryz.prog 47 #[.slice a xs.length c, .func (.func 48) #[] #[]] w fun e w' => e = .returned (.bool (xs.all ftB)) ∧ Below w.heap.size w w' := by
  obtain ⟨hn, hll⟩ := hl
  have HL := Hid.mk' hL
  have Hl := Hid.mk' hll
  skip
  clear hL hll
  go_enter Tryz.func47, Tryz.ntmps47
  go_wp2_with fail
  go_loopw [9] (fun i wr => ∃ k : Nat, k ≤ xs.length ∧ i = .int .i64 k ∧ (∀ j, j < k → ftB (xs.getD j FType.z) = true) ∧ Below w.heap.size w wr) (fun i _ => xs.length - (intOf i).toNat)
  case atStart => exact ⟨0, Nat.zero_le _, rfl, fun j h => by omega, Below.refl _ _⟩
  case round =>
    obtain ⟨k, hk, rfl, hall, hb⟩ := hrel
    by_cases hlt : k < xs.length
    · have hki : (k : Int) < (xs.length : Int) := by omega
      rcases HL.out.up (up_below hb) with hx | ⟨b, o, ea, _, hc⟩
      · subst hx; simp at hlt
      have hxk := hc k hlt
      have hxl := Hl.out k hlt
      skip
      subst ea
      obtain ⟨x, hx⟩ : ∃ x, x = xs.getD k FType.z := ⟨_, rfl⟩
      rw [← hx] at hxk hxl
      obtain ⟨a1, c1, a2, c2, ⟨q0, q1⟩, hi⟩ := hxk
      have ba : Below wr.heap.size wr (wr.alloc (.cells #[.slice a1 x.ps.length c1, .slice a2 x.rs.length c2] 95)) := (Below.refl _ _).alloc (Nat.le_refl _) _
      have HI0 := Hid.mk' (ift_c x a1 c1 a2 c2 _ (hi.up (up_below ba)) hxl)
      have HB := Hid.mk' hb
      have HBA := Hid.mk' ba
      generalize hg : ftB x = gx at HI0
      have HG : Hid (ftB (xs.getD k FType.z) = gx) := by show _ = _; rw [← hx]; exact hg
      cases gx
      · have HFIN := Hid.mk' (alls_f ftB xs FType.z k hlt HG.out)
        clear hall hc hb ba hi HL Hl hx hg
        go_wp2_with fail
        refine HI0.out.mono ?_
        rintro e w2 ⟨rfl, hb2⟩
        have hb3 : Below w.heap.size w w2 := HB.out.trans ((HBA.out.trans (hb2.mono (by simp))).mono HB.out.size)
        clear hb2
        go_wp2
        go_ret
        exact ⟨by rw [HFIN.out]; rfl, hb3⟩
      · have HA2 : Hid (∀ j, j < k + 1 → ftB (xs.getD j FType.z) = true) := fun j hj => by
          rcases (by omega : j < k ∨ j = k) with h | h
          · exact hall j h
          · subst h; exact HG.out
        clear hall hc hb ba hi HL Hl hx hg
        go_wp2_with fail
        refine HI0.out.mono ?_
        rintro e w2 ⟨rfl, hb2⟩
        have hb3 : Below w.heap.size w w2 := HB.out.trans ((HBA.out.trans (hb2.mono (by simp))).mono HB.out.size)
        clear hb2
        go_wp2
        go_roundw
        case rel => exact ⟨k + 1, by omega, by go_num, HA2.out, hb3⟩
        case measure => simp [intOf]; omega
    · have e : k = xs.length := by omega
      subst e
      have HFIN := Hid.mk' (alls_t ftB xs FType.z hall)
      clear hall HL Hl
      go_wp2
      go_ret
      exact ⟨by rw [HFIN.out]; rfl, hb⟩
set_option maxHeartbeats 8000000 in
theorem aaLimits_c (a : Option Addr) (c : Nat) (xs : List Limits) (w : World) (hl : xs.length ≤ 1048576 ∧ ∀ i, i < xs.length → Limits.LB 1048576 (xs.getD i Limits.z)) (hL : Limits.Ls 0 w a xs) :
    Calls Tryz.prog 53 #[.slice a xs.length c, .func (.func 54) #[] #[]] w fun e w' => e = .returned (.bool (xs.all limB)) ∧ Below w.heap.size w w' := by
  obtain ⟨hn, hll⟩ := hl
  have HL := Hid.mk' hL
  have Hl := Hid.mk' hll
  skip
  clear hL hll
  go_enter Tryz.func53, Tryz.ntmps53
  go_wp2_with fail
  go_loopw [9] (fun i wr => ∃ k : Nat, k ≤ xs.length ∧ i = .int .i64 k ∧ (∀ j, j < k → limB (xs.getD j Limits.z) = true) ∧ Below w.heap.size w wr) (fun i _ => xs.length - (intOf i).toNat)
  case atStart => exact ⟨0, Nat.zero_le _, rfl, fun j h => by omega, Below.refl _ _⟩
  case round =>
    obtain ⟨k, hk, rfl, hall, hb⟩ := hrel
    by_cases hlt : k < xs.length
    · have hki : (k : Int) < (xs.length : Int) := by omega
      rcases HL.out.up (up_below hb) with hx | ⟨b, o, ea, _, hc⟩
      · subst hx; simp at hlt
      have hxk := hc k hlt
      have hxl := Hl.out k hlt
      skip
      subst ea
      obtain ⟨x, hx⟩ : ∃ x, x = xs.getD k Limits.z := ⟨_, rfl⟩
      rw [← hx] at hxk hxl
      obtain ⟨⟨q0, q1, q2⟩, hi⟩ := hxk
      have ba : Below wr.heap.size wr (wr.alloc (.cells #[.int .i64 x.min, .int .i64 x.max, .bool x.has] 99)) := (Below.refl _ _).alloc (Nat.le_refl _) _
      have HI0 := Hid.mk' (ilim2 x _ (hi.up (up_below ba)) hxl)
      have HB := Hid.mk' hb
      have HBA := Hid.mk' ba
      generalize hg : limB x = gx at HI0
      have HG : Hid (limB (xs.getD k Limits.z) = gx) := by show _ = _; rw [← hx]; exact hg
      cases gx
      · have HFIN := Hid.mk' (alls_f limB xs Limits.z k hlt HG.out)
        clear hall hc hb ba hi HL Hl hx hg
        go_wp2_with fail
        refine HI0.out.mono ?_
        rintro e w2 ⟨rfl, hb2⟩
        have hb3 : Below w.heap.size w w2 := HB.out.trans ((HBA.out.trans (hb2.mono (by simp))).mono HB.out.size)
        clear hb2
        go_wp2
        go_ret
        exact ⟨by rw [HFIN.out]; rfl, hb3⟩
      · have HA2 : Hid (∀ j, j < k + 1 → limB (xs.getD j Limits.z) = true) := fun j hj => by
          rcases (by omega : j < k ∨ j = k) with h | h
          · exact hall j h
          · subst h; exact HG.out
        clear hall hc hb ba hi HL Hl hx hg
        go_wp2_with fail
        refine HI0.out.mono ?_
        rintro e w2 ⟨rfl, hb2⟩
        have hb3 : Below w.heap.size w w2 := HB.out.trans ((HBA.out.trans (hb2.mono (by simp))).mono HB.out.size)
        clear hb2
        go_wp2
        go_roundw
        case rel => exact ⟨k + 1, by omega, by go_num, HA2.out, hb3⟩
        case measure => simp [intOf]; omega
    · have e : k = xs.length := by omega
      subst e
      have HFIN := Hid.mk' (alls_t limB xs Limits.z hall)
      clear hall HL Hl
      go_wp2
      go_ret
      exact ⟨by rw [HFIN.out]; rfl, hb⟩
set_option maxHeartbeats 8000000 in
theorem aaExp_c (a : Option Addr) (c : Nat) (xs : List Exp) (w : World) (hl : xs.length ≤ 1048576 ∧ ∀ i, i < xs.length → Exp.LB 1048576 (xs.getD i Exp.z)) (hL : Exp.Ls 0 w a xs) :
    Calls Tryz.prog 57 #[.slice a xs.length c, .func (.func 58) #[] #[]] w fun e w' => e = .returned (.bool (xs.all expB)) ∧ Below w.heap.size w w' := by
  obtain ⟨hn, hll⟩ := hl
  have HL := Hid.mk' hL
  have Hl := Hid.mk' hll
  skip
  clear hL hll
  go_enter Tryz.func57, Tryz.ntmps57
  go_wp2_with fail
  go_loopw [9] (fun i wr => ∃ k : Nat, k ≤ xs.length ∧ i = .int .i64 k ∧ (∀ j, j < k → expB (xs.getD j Exp.z) = true) ∧ Below w.heap.size w wr) (fun i _ => xs.length - (intOf i).toNat)
  case atStart => exact ⟨0, Nat.zero_le _, rfl, fun j h => by omega, Below.refl _ _⟩
  case round =>
    obtain ⟨k, hk, rfl, hall, hb⟩ := hrel
    by_cases hlt : k < xs.length
    · have hki : (k : Int) < (xs.length : Int) := by omega
      rcases HL.out.up (up_below hb) with hx | ⟨b, o, ea, _, hc⟩
      · subst hx; simp at hlt
      have hxk := hc k hlt
      have hxl := Hl.out k hlt
      skip
      subst ea
      obtain ⟨x, hx⟩ : ∃ x, x = xs.getD k Exp.z := ⟨_, rfl⟩
      rw [← hx] at hxk hxl
      obtain ⟨⟨q0, q1, q2⟩, hi⟩ := hxk
      have ba : Below wr.heap.size wr (wr.alloc (.cells #[.string x.nm, .int .i64 x.kind, .int .i64 x.ix] 114)) := (Below.refl _ _).alloc (Nat.le_refl _) _
      have HI0 := Hid.mk' (iexp_c x _ (hi.up (up_below ba)) hxl)
      have HB := Hid.mk' hb
      have HBA := Hid.mk' ba
      generalize hg : expB x = gx at HI0
      have HG : Hid (expB (xs.getD k Exp.z) = gx) := by show _ = _; rw [← hx]; exact hg
      cases gx
      · have HFIN := Hid.mk' (alls_f expB xs Exp.z k hlt HG.out)
        clear hall hc hb ba hi HL Hl hx hg
        go_wp2_with fail
        refine HI0.out.mono ?_
        rintro e w2 ⟨rfl, hb2⟩
        have hb3 : Below w.heap.size w w2 := HB.out.trans ((HBA.out.trans (hb2.mono (by simp))).mono HB.out.size)
        clear hb2
        go_wp2
        go_ret
        exact ⟨by rw [HFIN.out]; rfl, hb3⟩
      · have HA2 : Hid (∀ j, j < k + 1 → expB (xs.getD j Exp.z) = true) := fun j hj => by
          rcases (by omega : j < k ∨ j = k) with h | h
          · exact hall j h
          · subst h; exact HG.out
        clear hall hc hb ba hi HL Hl hx hg
        go_wp2_with fail
        refine HI0.out.mono ?_
        rintro e w2 ⟨rfl, hb2⟩
        have hb3 : Below w.heap.size w w2 := HB.out.trans ((HBA.out.trans (hb2.mono (by simp))).mono HB.out.size)
        clear hb2
        go_wp2
        go_roundw
        case rel => exact ⟨k + 1, by omega, by go_num, HA2.out, hb3⟩
        case measure => simp [intOf]; omega
    · have e : k = xs.length := by omega
      subst e
      have HFIN := Hid.mk' (alls_t expB xs Exp.z hall)
      clear hall HL Hl
      go_wp2
      go_ret
      exact ⟨by rw [HFIN.out]; rfl, hb⟩
set_option maxHeartbeats 8000000 in
theorem aaGlob_c (a : Option Addr) (c : Nat) (xs : List Glob) (w : World) (hl : xs.length ≤ 1048576 ∧ ∀ i, i < xs.length → Glob.LB 1048576 (xs.getD i Glob.z)) (hL : Glob.Ls 0 w a xs) (hP : ∀ i, i < xs.length → InsPos (xs.getD i Glob.z).ini) :
    Calls Tryz.prog 55 #[.slice a xs.length c, .func (.func 56) #[] #[]] w fun e w' => e = .returned (.bool (xs.all globB)) ∧ Below w.heap.size w w' := by
  obtain ⟨hn, hll⟩ := hl
  have HL := Hid.mk' hL
  have Hl := Hid.mk' hll
  have HP := Hid.mk' hP
  clear hL hll hP
  go_enter Tryz.func55, Tryz.ntmps55
  go_wp2_with fail
  go_loopw [9] (fun i wr => ∃ k : Nat, k ≤ xs.length ∧ i = .int .i64 k ∧ (∀ j, j < k → globB (xs.getD j Glob.z) = true) ∧ Below w.heap.size w wr) (fun i _ => xs.length - (intOf i).toNat)
  case atStart => exact ⟨0, Nat.zero_le _, rfl, fun j h => by omega, Below.refl _ _⟩
  case round =>
    obtain ⟨k, hk, rfl, hall, hb⟩ := hrel
    by_cases hlt : k < xs.length
    · have hki : (k : Int) < (xs.length : Int) := by omega
      rcases HL.out.up (up_below hb) with hx | ⟨b, o, ea, _, hc⟩
      · subst hx; simp at hlt
      have hxk := hc k hlt
      have hxl := Hl.out k hlt
      have hxp := HP.out k hlt
      subst ea
      obtain ⟨x, hx⟩ : ∃ x, x = xs.getD k Glob.z := ⟨_, rfl⟩
      rw [← hx] at hxk hxl hxp
      obtain ⟨a1, c1, ⟨q0, q1, q2⟩, hi⟩ := hxk
      have ba : Below wr.heap.size wr (wr.alloc (.cells #[.int .i64 x.ty.ty, .bool x.ty.mu, .slice a1 x.ini.length c1] 110)) := (Below.refl _ _).alloc (Nat.le_refl _) _
      have HI0 := Hid.mk' (iglob_c x a1 c1 _ (hi.up (up_below ba)) hxl hxp)
      have HB := Hid.mk' hb
      have HBA := Hid.mk' ba
      generalize hg : globB x = gx at HI0
      have HG : Hid (globB (xs.getD k Glob.z) = gx) := by show _ = _; rw [← hx]; exact hg
      cases gx
      · have HFIN := Hid.mk' (alls_f globB xs Glob.z k hlt HG.out)
        clear hall hc hb ba hi HL Hl hx hg
        go_wp2_with fail
        refine HI0.out.mono ?_
        rintro e w2 ⟨rfl, hb2⟩
        have hb3 : Below w.heap.size w w2 := HB.out.trans ((HBA.out.trans (hb2.mono (by simp))).mono HB.out.size)
        clear hb2
        go_wp2
        go_ret
        exact ⟨by rw [HFIN.out]; rfl, hb3⟩
      · have HA2 : Hid (∀ j, j < k + 1 → globB (xs.getD j Glob.z) = true) := fun j hj => by
          rcases (by omega : j < k ∨ j = k) with h | h
          · exact hall j h
          · subst h; exact HG.out
        clear hall hc hb ba hi HL Hl hx hg
        go_wp2_with fail
        refine HI0.out.mono ?_
        rintro e w2 ⟨rfl, hb2⟩
        have hb3 : Below w.heap.size w w2 := HB.out.trans ((HBA.out.trans (hb2.mono (by simp))).mono HB.out.size)
        clear hb2
        go_wp2
        go_roundw
        case rel => exact ⟨k + 1, by omega, by go_num, HA2.out, hb3⟩
        case measure => simp [intOf]; omega
    · have e : k = xs.length := by omega
      subst e
      have HFIN := Hid.mk' (alls_t globB xs Glob.z hall)
      clear hall HL Hl
      go_wp2
      go_ret
      exact ⟨by rw [HFIN.out]; rfl, hb⟩
set_option maxHeartbeats 8000000 in
theorem aaEle_c (a : Option Addr) (c : Nat) (xs : List Ele) (w : World) (hl : xs.length ≤ 1048576 ∧ ∀ i, i < xs.length → Ele.LB 1048576 (xs.getD i Ele.z)) (hL : Ele.Ls 0 w a xs) (hP : ∀ i, i < xs.length → InsPos (xs.getD i Ele.z).off) :
    Calls Tryz.prog 60 #[.slice a xs.length c, .func (.func 61) #[] #[]] w fun e w' => e = .returned (.bool (xs.all eleB)) ∧ Below w.heap.size w w' := by
  obtain ⟨hn, hll⟩ := hl
  have HL := Hid.mk' hL
  have Hl := Hid.mk' hll
  have HP := Hid.mk' hP
  clear hL hll hP
  go_enter Tryz.func60, Tryz.ntmps60
  go_wp2_with fail
  go_loopw [9] (fun i wr => ∃ k : Nat, k ≤ xs.length ∧ i = .int .i64 k ∧ (∀ j, j < k → eleB (xs.getD j Ele.z) = true) ∧ Below w.heap.size w wr) (fun i _ => xs.length - (intOf i).toNat)
  case atStart => exact ⟨0, Nat.zero_le _, rfl, fun j h => by omega, Below.refl _ _⟩
  case round =>
    obtain ⟨k, hk, rfl, hall, hb⟩ := hrel
    by_cases hlt : k < xs.length
    · have hki : (k : Int) < (xs.length : Int) := by omega
      rcases HL.out.up (up_below hb) with hx | ⟨b, o, ea, _, hc⟩
      · subst hx; simp at hlt
      have hxk := hc k hlt
      have hxl := Hl.out k hlt
      have hxp := HP.out k hlt
      subst ea
      obtain ⟨x, hx⟩ : ∃ x, x = xs.getD k Ele.z := ⟨_, rfl⟩
      rw [← hx] at hxk hxl hxp
      obtain ⟨a1, c1, a2, c2, ⟨q0, q1⟩, hi⟩ := hxk
      have ba : Below wr.heap.size wr (wr.alloc (.cells #[.slice a1 x.off.length c1, .slice a2 x.fs.length c2] 70)) := (Below.refl _ _).alloc (Nat.le_refl _) _
      have HI0 := Hid.mk' (iele_c x a1 c1 a2 c2 _ (hi.up (up_below ba)) hxl hxp)
      have HB := Hid.mk' hb
      have HBA := Hid.mk' ba
      generalize hg : eleB x = gx at HI0
      have HG : Hid (eleB (xs.getD k Ele.z) = gx) := by show _ = _; rw [← hx]; exact hg
      cases gx
      · have HFIN := Hid.mk' (alls_f eleB xs Ele.z k hlt HG.out)
        clear hall hc hb ba hi HL Hl hx hg
        go_wp2_with fail
        refine HI0.out.mono ?_
        rintro e w2 ⟨rfl, hb2⟩
        have hb3 : Below w.heap.size w w2 := HB.out.trans ((HBA.out.trans (hb2.mono (by simp))).mono HB.out.size)
        clear hb2
        go_wp2
        go_ret
        exact ⟨by rw [HFIN.out]; rfl, hb3⟩
      · have HA2 : Hid (∀ j, j < k + 1 → eleB (xs.getD j Ele.z) = true) := fun j hj => by
          rcases (by omega : j < k ∨ j = k) with h | h
          · exact hall j h
          · subst h; exact HG.out
        clear hall hc hb ba hi HL Hl hx hg
        go_wp2_with fail
        refine HI0.out.mono ?_
        rintro e w2 ⟨rfl, hb2⟩
        have hb3 : Below w.heap.size w w2 := HB.out.trans ((HBA.out.trans (hb2.mono (by simp))).mono HB.out.size)
        clear hb2
        go_wp2
        go_roundw
        case rel => exact ⟨k + 1, by omega, by go_num, HA2.out, hb3⟩
        case measure => simp [intOf]; omega
    · have e : k = xs.length := by omega
      subst e
      have HFIN := Hid.mk' (alls_t eleB xs Ele.z hall)
      clear hall HL Hl
      go_wp2
      go_ret
      exact ⟨by rw [HFIN.out]; rfl, hb⟩
set_option maxHeartbeats 8000000 in
theorem aaDat_c (a : Option Addr) (c : Nat) (xs : List Dat) (w : World) (hl : xs.length ≤ 1048576 ∧ ∀ i, i < xs.length → Dat.LB 1048576 (xs.getD i Dat.z)) (hL : Dat.Ls 0 w a xs) (hP : ∀ i, i < xs.length → InsPos (xs.getD i Dat.z).off) :
    Calls Tryz.prog 64 #[.slice a xs.length c, .func (.func 65) #[] #[]] w fun e w' => e = .returned (.bool (xs.all datB)) ∧ Below w.heap.size w w' := by
  obtain ⟨hn, hll⟩ := hl
  have HL := Hid.mk' hL
  have Hl := Hid.mk' hll
  have HP := Hid.mk' hP
  clear hL hll hP
  go_enter Tryz.func64, Tryz.ntmps64
  go_wp2_with fail
  go_loopw [9] (fun i wr => ∃ k : Nat, k ≤ xs.length ∧ i = .int .i64 k ∧ (∀ j, j < k → datB (xs.getD j Dat.z) = true) ∧ Below w.heap.size w wr) (fun i _ => xs.length - (intOf i).toNat)
  case atStart => exact ⟨0, Nat.zero_le _, rfl, fun j h => by omega, Below.refl _ _⟩
  case round =>
    obtain ⟨k, hk, rfl, hall, hb⟩ := hrel
    by_cases hlt : k < xs.length
    · have hki : (k : Int) < (xs.length : Int) := by omega
      rcases HL.out.up (up_below hb) with hx | ⟨b, o, ea, _, hc⟩
      · subst hx; simp at hlt
      have hxk := hc k hlt
      have hxl := Hl.out k hlt
      have hxp := HP.out k hlt
      subst ea
      obtain ⟨x, hx⟩ : ∃ x, x = xs.getD k Dat.z := ⟨_, rfl⟩
      rw [← hx] at hxk hxl hxp
      obtain ⟨a1, c1, a2, c2, ⟨q0, q1⟩, hi⟩ := hxk
      have ba : Below wr.heap.size wr (wr.alloc (.cells #[.slice a1 x.off.length c1, .slice a2 x.bs.length c2] 76)) := (Below.refl _ _).alloc (Nat.le_refl _) _
      have HI0 := Hid.mk' (idat_c x a1 c1 a2 c2 _ (hi.up (up_below ba)) hxl hxp)
      have HB := Hid.mk' hb
      have HBA := Hid.mk' ba
      generalize hg : datB x = gx at HI0
      have HG : Hid (datB (xs.getD k Dat.z) = gx) := by show _ = _; rw [← hx]; exact hg
      cases gx
      · have HFIN := Hid.mk' (alls_f datB xs Dat.z k hlt HG.out)
        clear hall hc hb ba hi HL Hl hx hg
        go_wp2_with fail
        refine HI0.out.mono ?_
        rintro e w2 ⟨rfl, hb2⟩
        have hb3 : Below w.heap.size w w2 := HB.out.trans ((HBA.out.trans (hb2.mono (by simp))).mono HB.out.size)
        clear hb2
        go_wp2
        go_ret
        exact ⟨by rw [HFIN.out]; rfl, hb3⟩
      · have HA2 : Hid (∀ j, j < k + 1 → datB (xs.getD j Dat.z) = true) := fun j hj => by
          rcases (by omega : j < k ∨ j = k) with h | h
          · exact hall j h
          · subst h; exact HG.out
        clear hall hc hb ba hi HL Hl hx hg
        go_wp2_with fail
        refine HI0.out.mono ?_
        rintro e w2 ⟨rfl, hb2⟩
        have hb3 : Below w.heap.size w w2 := HB.out.trans ((HBA.out.trans (hb2.mono (by simp))).mono HB.out.size)
        clear hb2
        go_wp2
        go_roundw
        case rel => exact ⟨k + 1, by omega, by go_num, HA2.out, hb3⟩
        case measure => simp [intOf]; omega
    · have e : k = xs.length := by omega
      subst e
      have HFIN := Hid.mk' (alls_t datB xs Dat.z hall)
      clear hall HL Hl
      go_wp2
      go_ret
      exact ⟨by rw [HFIN.out]; rfl, hb⟩
end Go.Proofs.YtdbmolambolmgaaGreat
