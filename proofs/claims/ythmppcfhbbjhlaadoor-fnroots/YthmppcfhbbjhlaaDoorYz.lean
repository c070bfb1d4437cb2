import Derived.Test.YthmppcfhbbjhlaaDoorYd
import Derived.Test.YthmppcfhbbjhlaaDoorRd
import Derived.Test.YthmppcfhbbjhlaaDoorSt
import Derived.Deep.RegionWith
import Derived.Deep.RegionHeld3
import Derived.Deep.CutRange
set_option linter.all false
set_option linter.unusedVariables false
namespace Go.Proofs.YthmppcfhbbjhlaaDoor
open Go.RowKit Go.Sort
set_option maxRecDepth 100000
theorem pow_lit (n v : Int) (w : World) (h0 : 0 ≤ n) (h1 : n ≤ 63) (hv : P2 n = v) : Calls Tryd.prog 25 #[.int .i64 n] w fun e w' => e = .returned (.int .u64 v) ∧ w = w' := by
  have h := pow_any n w h0 h1
  rw [hv] at h
  exact h
theorem pow_q (n v : Int) (V : World) (m : Nat) (h0 : 0 ≤ n) (h1 : n ≤ 63) (hv : P2 n = v) : Calls Tryd.prog 25 #[.int .i64 n] (V.drewN m) fun e w' => e = .returned (.int .u64 v) ∧ ∃ k, w' = V.drewN k :=
  (pow_lit n v _ h0 h1 hv).mono fun e w' ⟨a, b⟩ => ⟨a, m, b.symm⟩
theorem grown_below {w w' : World} {r : Option Nat} (h : Below w.heap.size w w') : w.grownBy w' r := ⟨h.os, h.tape, h.output, h.size, fun k hk _ => h.block k hk⟩
/-- The state of a draw: the cursor, and the format's box. -/
structure DS (w : World) (g : Nat) (a : Option Addr) (cap : Nat) (xs : List Int) (B : Nat) (p e l : Int) (V : World) : Prop where
  cur : Cur V g a cap xs
  gr : w.grownBy V (some g)
  lt : B < V.heap.size
  ne : B ≠ g
  c0 : V.cell? ⟨B, 0, none⟩ = some (.int .i64 p)
  c1 : V.cell? ⟨B, 1, none⟩ = some (.int .i64 e)
  c2 : V.cell? ⟨B, 2, none⟩ = some (.int .i64 l)
theorem DS.step {w V V' : World} {g : Nat} {a : Option Addr} {cap : Nat} {xs : List Int} {B : Nat} {p e l : Int} (h : DS w g a cap xs B p e l V) (hc : Cur V' g a cap xs) (hg : V.grownBy V' (some g)) : DS w g a cap xs B p e l V' := by
  have hb : V'.heap[B]? = V.heap[B]? := hg.block B h.lt (fun e => h.ne (by simpa using e))
  exact ⟨hc, grown_trans h.gr hg, Nat.lt_of_lt_of_le h.lt hg.size, h.ne, (World.cell?_of_block hb).trans h.c0, (World.cell?_of_block hb).trans h.c1, (World.cell?_of_block hb).trans h.c2⟩
theorem DS.drew {w V : World} {g : Nat} {a : Option Addr} {cap : Nat} {xs : List Int} {B : Nat} {p e l : Int} (h : DS w g a cap xs B p e l V) : DS w g a cap xs B p e l V.drew :=
  ⟨h.cur.of_heap rfl, grown_of h.gr rfl rfl rfl rfl, h.lt, h.ne, h.c0, h.c1, h.c2⟩
theorem DS.drewN {w V : World} {g : Nat} {a : Option Addr} {cap : Nat} {xs : List Int} {B : Nat} {p e l : Int} (h : DS w g a cap xs B p e l V) (n : Nat) : DS w g a cap xs B p e l (V.drewN n) :=
  ⟨h.cur.of_heap rfl, grown_of h.gr rfl rfl rfl rfl, h.lt, h.ne, h.c0, h.c1, h.c2⟩
theorem Cur.lt {w : World} {g : Nat} {a : Option Addr} {cap : Nat} {xs : List Int} (h : Cur w g a cap xs) : g < w.heap.size := by
  obtain ⟨k, v, h0, h1, h2, r⟩ := h
  exact World.block_lt_of_cell? w _ h1
theorem DS.below {w V V' : World} {g : Nat} {a : Option Addr} {cap : Nat} {xs : List Int} {B : Nat} {p e l : Int} (h : DS w g a cap xs B p e l V) (hb : Below V.heap.size V V') : DS w g a cap xs B p e l V' :=
  h.step (h.cur.below hb h.cur.lt) (grown_below hb)

set_option maxHeartbeats 8000000 in
theorem draw3_n (g : Nat) (a : Option Addr) (cap : Nat) (xs : List Int) (w : World) (hl : xs.length ≤ 1099511627776) (hB : AllB xs) (hC : Cur w g a cap xs) :
    Calls Tryd.prog 61 #[.pointer (some ⟨g, 0, none⟩), FSn] w fun e w' => ∃ x : Int, e = .returned (.int .u64 x) ∧ 0 ≤ x ∧ x ≤ 18446744073709551615 ∧ Cur w' g a cap xs ∧ w.grownBy w' (some g) := by
  have KB := Hid.mk' (fun W n hC h1 h2 => below_any g a cap xs n W hl hB hC h1 h2)
  have KD := Hid.mk' (fun W hC => drawU64_any g a cap xs W hl hB hC)
  have KO := Hid.mk' (fun W n hC h1 h2 => once_any g a cap xs n W hl hB hC h1 h2)
  have hlt := hC.lt
  have q32 : IntKind.i64.wrap 32 = 32 := by decide
  have q31 : IntKind.i64.wrap 31 = 31 := by decide
  have q23 : IntKind.i64.wrap 23 = 23 := by decide
  have q22 : IntKind.i64.wrap 22 = 22 := by decide
  have D0 : DS w g a cap xs w.heap.size 24 8 (-149) (w.alloc (.cells #[.int .i64 24, .int .i64 8, .int .i64 (-149)] 40)) :=
    ⟨hC.below ((Below.refl _ _).alloc (Nat.le_refl _) _) hlt, grown_below ((Below.refl _ _).alloc (Nat.le_refl _) _), by simp, by omega, cell_new rfl rfl, cell_new rfl rfl, cell_new rfl rfl⟩
  have HD0 := Hid.mk' D0
  clear hB hl hC D0
  go_enter Tryd.func61, Tryd.ntmps61
  go_wp2_with fail
  refine (KB.out _ 14 HD0.out.cur (by omega) (by omega)).mono ?_
  rintro e w1 ⟨k, rfl, hk0, hk1, hC1, hg1⟩
  have HD1 := Hid.mk' (HD0.out.step hC1 hg1)
  clear hC1 hg1 HD0
  go_wp2_with fail
  refine (KB.out _ 8 HD1.out.cur (by omega) (by omega)).mono ?_
  rintro e w2 ⟨x, rfl, hx0, hx1, hC1, hg1⟩
  have HD := Hid.mk' (HD1.out.step hC1 hg1)
  have f0 := HD.out.c0
  have f1 := HD.out.c1
  have f2 := HD.out.c2
  clear hC1 hg1 HD1
  go_upto_region 5 with (first | (go_at_call 25; with_reducible refine (pow_lit 8 256 _ (by decide) (by decide) (by decide)).mono ?_; rintro e w' ⟨rfl, rfl⟩) | (go_at_call 25; with_reducible refine (pow_lit 7 128 _ (by decide) (by decide) (by decide)).mono ?_; rintro e w' ⟨rfl, rfl⟩) | (go_at_call 25; with_reducible refine (pow_lit 31 2147483648 _ (by decide) (by decide) (by decide)).mono ?_; rintro e w' ⟨rfl, rfl⟩) | (go_at_call 25; with_reducible refine (pow_lit 23 8388608 _ (by decide) (by decide) (by decide)).mono ?_; rintro e w' ⟨rfl, rfl⟩) | (go_at_call 25; with_reducible refine (pow_lit 22 4194304 _ (by decide) (by decide) (by decide)).mono ?_; rintro e w' ⟨rfl, rfl⟩))
  go_cut [9] from 28 to 38 (fun s V => ∃ y : Int, s = .int .u64 y ∧ 0 ≤ y ∧ y ≤ 18446744073709551615 ∧ DS w g a cap xs w.heap.size 24 8 (-149) V)
  case first =>
    go_region_held3 (fun w' => w'.cell? ⟨w.heap.size, 0, none⟩ = some (.int .i64 24) ∧ w'.cell? ⟨w.heap.size, 1, none⟩ = some (.int .i64 8) ∧ w'.cell? ⟨w.heap.size, 2, none⟩ = some (.int .i64 (-149))) (first | exact ⟨f0, f1, f2⟩ | exact ⟨k0, k1, k2⟩ | exact ⟨k3, k4, k5⟩) (first
      | (go_at_call 59; refine (KB.out _ 2 ?hcur (by omega) (by omega)).mono ?_; (case hcur => first | exact HD.out.cur | exact HD.out.drew.cur); rintro e w3 ⟨y, rfl, hy0, hy1, hC1, hg1⟩; have HDn : Hid (DS w g a cap xs w.heap.size 24 8 (-149) w3) := (by first | exact HD.out.drew.step hC1 hg1 | exact HD.out.step hC1 hg1); have k0 := HDn.out.c0; have k1 := HDn.out.c1; have k2 := HDn.out.c2)
      | (go_at_call 25; with_reducible refine (pow_lit 8 256 _ (by decide) (by decide) (by decide)).mono ?_; rintro e w' ⟨rfl, rfl⟩) | (go_at_call 25; with_reducible refine (pow_lit 7 128 _ (by decide) (by decide) (by decide)).mono ?_; rintro e w' ⟨rfl, rfl⟩) | (go_at_call 25; with_reducible refine (pow_lit 31 2147483648 _ (by decide) (by decide) (by decide)).mono ?_; rintro e w' ⟨rfl, rfl⟩) | (go_at_call 25; with_reducible refine (pow_lit 23 8388608 _ (by decide) (by decide) (by decide)).mono ?_; rintro e w' ⟨rfl, rfl⟩) | (go_at_call 25; with_reducible refine (pow_lit 22 4194304 _ (by decide) (by decide) (by decide)).mono ?_; rintro e w' ⟨rfl, rfl⟩))
    all_goals
      go_wp2_with fail
      go_meet
      case rel => exact ⟨_, rfl, (u64w _).1, (u64w _).2, by first | exact HDn.out | exact HDn.out.drew⟩
  case rest =>
    obtain ⟨sg, rfl, sg0, sg1, hDD⟩ := hcut
    clear f0 f1 f2 HD
    have HD := Hid.mk' hDD
    have f0 := hDD.c0
    have f1 := hDD.c1
    have f2 := hDD.c2
    clear hDD
    rcases (show k = 0 ∨ k = 1 ∨ k = 2 ∨ k = 3 ∨ k = 4 ∨ k = 5 ∨ k = 6 ∨ k = 7 ∨ k = 8 ∨ k = 9 ∨ k = 10 ∨ 11 ≤ k by omega) with rfl | rfl | rfl | rfl | rfl | rfl | rfl | rfl | rfl | rfl | rfl | hk11
    · go_wp2
      go_ret
      exact ⟨_, rfl, by omega, by omega, HD.out.cur, HD.out.gr⟩
    · go_wp2_with (first | (go_at_call 25; with_reducible refine (pow_lit 8 256 _ (by decide) (by decide) (by decide)).mono ?_; rintro e w' ⟨rfl, rfl⟩) | (go_at_call 25; with_reducible refine (pow_lit 7 128 _ (by decide) (by decide) (by decide)).mono ?_; rintro e w' ⟨rfl, rfl⟩) | (go_at_call 25; with_reducible refine (pow_lit 31 2147483648 _ (by decide) (by decide) (by decide)).mono ?_; rintro e w' ⟨rfl, rfl⟩) | (go_at_call 25; with_reducible refine (pow_lit 23 8388608 _ (by decide) (by decide) (by decide)).mono ?_; rintro e w' ⟨rfl, rfl⟩) | (go_at_call 25; with_reducible refine (pow_lit 22 4194304 _ (by decide) (by decide) (by decide)).mono ?_; rintro e w' ⟨rfl, rfl⟩))
      go_ret
      exact ⟨_, rfl, (u64w _).1, (u64w _).2, HD.out.cur, HD.out.gr⟩
    · go_wp2_with (first | (go_at_call 25; with_reducible refine (pow_lit 8 256 _ (by decide) (by decide) (by decide)).mono ?_; rintro e w' ⟨rfl, rfl⟩) | (go_at_call 25; with_reducible refine (pow_lit 7 128 _ (by decide) (by decide) (by decide)).mono ?_; rintro e w' ⟨rfl, rfl⟩) | (go_at_call 25; with_reducible refine (pow_lit 31 2147483648 _ (by decide) (by decide) (by decide)).mono ?_; rintro e w' ⟨rfl, rfl⟩) | (go_at_call 25; with_reducible refine (pow_lit 23 8388608 _ (by decide) (by decide) (by decide)).mono ?_; rintro e w' ⟨rfl, rfl⟩) | (go_at_call 25; with_reducible refine (pow_lit 22 4194304 _ (by decide) (by decide) (by decide)).mono ?_; rintro e w' ⟨rfl, rfl⟩))
      go_ret
      exact ⟨_, rfl, (u64w _).1, (u64w _).2, HD.out.cur, HD.out.gr⟩
    · -- a NaN
      go_upto_region 14 with fail
      go_cut [4] from 68 to 81 (fun s V => ∃ y : Int, s = .int .u64 y ∧ 0 ≤ y ∧ y ≤ 18446744073709551615 ∧ DS w g a cap xs w.heap.size 24 8 (-149) V)
      case first =>
        go_region_held3 (fun w' => w'.cell? ⟨w.heap.size, 0, none⟩ = some (.int .i64 24) ∧ w'.cell? ⟨w.heap.size, 1, none⟩ = some (.int .i64 8) ∧ w'.cell? ⟨w.heap.size, 2, none⟩ = some (.int .i64 (-149))) (first | exact ⟨f0, f1, f2⟩ | exact ⟨k0, k1, k2⟩ | exact ⟨k3, k4, k5⟩) (first
          | (go_at_call 67; refine (nan_n _).mono ?_; rintro e w3 ⟨rfl, hb⟩; have HDn : Hid (DS w g a cap xs w.heap.size 24 8 (-149) w3) := (by first | exact HD.out.drew.below hb | exact HD.out.below hb); have k0 := HDn.out.c0; have k1 := HDn.out.c1; have k2 := HDn.out.c2)
          | (go_at_call 25; with_reducible refine (pow_lit 8 256 _ (by decide) (by decide) (by decide)).mono ?_; rintro e w' ⟨rfl, rfl⟩) | (go_at_call 25; with_reducible refine (pow_lit 7 128 _ (by decide) (by decide) (by decide)).mono ?_; rintro e w' ⟨rfl, rfl⟩) | (go_at_call 25; with_reducible refine (pow_lit 31 2147483648 _ (by decide) (by decide) (by decide)).mono ?_; rintro e w' ⟨rfl, rfl⟩) | (go_at_call 25; with_reducible refine (pow_lit 23 8388608 _ (by decide) (by decide) (by decide)).mono ?_; rintro e w' ⟨rfl, rfl⟩) | (go_at_call 25; with_reducible refine (pow_lit 22 4194304 _ (by decide) (by decide) (by decide)).mono ?_; rintro e w' ⟨rfl, rfl⟩))
        all_goals
          go_wp2_with fail
          go_meet
          case rel => exact ⟨_, rfl, (u64w _).1, (u64w _).2, by first | exact HDn.out | exact HDn.out.drew⟩
      case rest =>
        obtain ⟨y, rfl, y0, y1, hDD⟩ := hcut
        go_wp2
        go_ret
        exact ⟨y, rfl, y0, y1, hDD.cur, hDD.gr⟩
    · go_wp2
      go_ret
      exact ⟨_, rfl, (u64w _).1, (u64w _).2, HD.out.cur, HD.out.gr⟩
    · go_wp2_with (first | (go_at_call 25; with_reducible refine (pow_lit 8 256 _ (by decide) (by decide) (by decide)).mono ?_; rintro e w' ⟨rfl, rfl⟩) | (go_at_call 25; with_reducible refine (pow_lit 7 128 _ (by decide) (by decide) (by decide)).mono ?_; rintro e w' ⟨rfl, rfl⟩) | (go_at_call 25; with_reducible refine (pow_lit 31 2147483648 _ (by decide) (by decide) (by decide)).mono ?_; rintro e w' ⟨rfl, rfl⟩) | (go_at_call 25; with_reducible refine (pow_lit 23 8388608 _ (by decide) (by decide) (by decide)).mono ?_; rintro e w' ⟨rfl, rfl⟩) | (go_at_call 25; with_reducible refine (pow_lit 22 4194304 _ (by decide) (by decide) (by decide)).mono ?_; rintro e w' ⟨rfl, rfl⟩))
      go_ret
      exact ⟨_, rfl, (u64w _).1, (u64w _).2, HD.out.cur, HD.out.gr⟩
    · go_wp2_with (first | (go_at_call 25; with_reducible refine (pow_lit 8 256 _ (by decide) (by decide) (by decide)).mono ?_; rintro e w' ⟨rfl, rfl⟩) | (go_at_call 25; with_reducible refine (pow_lit 7 128 _ (by decide) (by decide) (by decide)).mono ?_; rintro e w' ⟨rfl, rfl⟩) | (go_at_call 25; with_reducible refine (pow_lit 31 2147483648 _ (by decide) (by decide) (by decide)).mono ?_; rintro e w' ⟨rfl, rfl⟩) | (go_at_call 25; with_reducible refine (pow_lit 23 8388608 _ (by decide) (by decide) (by decide)).mono ?_; rintro e w' ⟨rfl, rfl⟩) | (go_at_call 25; with_reducible refine (pow_lit 22 4194304 _ (by decide) (by decide) (by decide)).mono ?_; rintro e w' ⟨rfl, rfl⟩))
      go_ret
      exact ⟨_, rfl, (u64w _).1, (u64w _).2, HD.out.cur, HD.out.gr⟩
    · -- 7
      go_upto_region 22 with fail
      go_cut [4] from 113 to 126 (fun s V => ∃ y : Int, s = .int .u64 y ∧ 0 ≤ y ∧ y ≤ 18446744073709551615 ∧ DS w g a cap xs w.heap.size 24 8 (-149) V)
      case first =>
        go_region_held3 (fun w' => w'.cell? ⟨w.heap.size, 0, none⟩ = some (.int .i64 24) ∧ w'.cell? ⟨w.heap.size, 1, none⟩ = some (.int .i64 8) ∧ w'.cell? ⟨w.heap.size, 2, none⟩ = some (.int .i64 (-149))) (first | exact ⟨f0, f1, f2⟩ | exact ⟨k0, k1, k2⟩ | exact ⟨k3, k4, k5⟩) (first
          | (go_at_call 59; refine (KB.out _ 70 ?hcur (by omega) (by omega)).mono ?_; (case hcur => first | exact HD.out.cur | exact HD.out.drew.cur); rintro e w3 ⟨y, rfl, hy0, hy1, hC1, hg1⟩; have HDn : Hid (DS w g a cap xs w.heap.size 24 8 (-149) w3) := (by first | exact HD.out.drew.step hC1 hg1 | exact HD.out.step hC1 hg1); have k0 := HDn.out.c0; have k1 := HDn.out.c1; have k2 := HDn.out.c2)
          | (go_at_call 25; with_reducible refine (pow_lit 8 256 _ (by decide) (by decide) (by decide)).mono ?_; rintro e w' ⟨rfl, rfl⟩) | (go_at_call 25; with_reducible refine (pow_lit 7 128 _ (by decide) (by decide) (by decide)).mono ?_; rintro e w' ⟨rfl, rfl⟩) | (go_at_call 25; with_reducible refine (pow_lit 31 2147483648 _ (by decide) (by decide) (by decide)).mono ?_; rintro e w' ⟨rfl, rfl⟩) | (go_at_call 25; with_reducible refine (pow_lit 23 8388608 _ (by decide) (by decide) (by decide)).mono ?_; rintro e w' ⟨rfl, rfl⟩) | (go_at_call 25; with_reducible refine (pow_lit 22 4194304 _ (by decide) (by decide) (by decide)).mono ?_; rintro e w' ⟨rfl, rfl⟩))
        all_goals
          go_wp2_with fail
          go_meet
          case rel => exact ⟨_, rfl, (u64w _).1, (u64w _).2, by first | exact HDn.out | exact HDn.out.drew⟩
      case rest =>
        obtain ⟨y, rfl, y0, y1, hDD⟩ := hcut
        go_wp2
        go_ret
        exact ⟨y, rfl, y0, y1, hDD.cur, hDD.gr⟩
    · -- 8
      go_wp2_with fail
      refine (KB.out _ 40 HD.out.cur (by omega) (by omega)).mono ?_
      rintro e w3 ⟨z, rfl, hz0, hz1, hC1, hg1⟩
      have HE := Hid.mk' (HD.out.step hC1 hg1)
      clear HD f0 f1 f2 hC1 hg1
      have f0 := HE.out.c0
      have f1 := HE.out.c1
      have f2 := HE.out.c2
      obtain ⟨zn, hzn⟩ : ∃ zn : Nat, z = (zn : Int) := ⟨z.toNat, by omega⟩
      subst hzn
      have hzw : IntKind.u64.wrap (zn : Int) = (zn : Int) := by rw [IntKind.wrap_u64]; omega
      have hbl : bl zn ≤ 4000 := Nat.le_trans (bl_le (k := 6) (by omega)) (by decide)
      have LA : Hid (0 ≤ sg_n false + (rnd 24 8 (-149) zn (-1) false : Nat)) := by have := rnd_n_le zn (-1) false; show 0 ≤ (0 : Int) + _; omega
      have LB : Hid (sg_n false + (rnd 24 8 (-149) zn (-1) false : Nat) ≤ 18446744073709551615) := by have := rnd_n_le zn (-1) false; show (0 : Int) + _ ≤ _; omega
      go_upto_region 25 with fail
      go_cut [4] from 132 to 143 (fun s V => ∃ y : Int, s = .int .u64 y ∧ 0 ≤ y ∧ y ≤ 18446744073709551615 ∧ DS w g a cap xs w.heap.size 24 8 (-149) V)
      case first =>
        go_region_held3 (fun w' => w'.cell? ⟨w.heap.size, 0, none⟩ = some (.int .i64 24) ∧ w'.cell? ⟨w.heap.size, 1, none⟩ = some (.int .i64 8) ∧ w'.cell? ⟨w.heap.size, 2, none⟩ = some (.int .i64 (-149))) (first | exact ⟨f0, f1, f2⟩ | exact ⟨k0, k1, k2⟩ | exact ⟨k3, k4, k5⟩) (first
          | (go_at_call 65; refine (of_any zn _ (by omega)).mono ?_; rintro e w4 ⟨⟨v, rfl, hS⟩, hb⟩; have HDn : Hid (DS w g a cap xs w.heap.size 24 8 (-149) w4) := (by first | exact HE.out.drew.below hb | exact HE.out.below hb); have k0 := HDn.out.c0; have k1 := HDn.out.c1; have k2 := HDn.out.c2)
          | (go_at_call 30; refine (round_n false false zn (-1) v _ hbl (by omega) (by omega) hS).mono ?_; rintro e w5 ⟨rfl, hb'⟩; have HDm : Hid (DS w g a cap xs w.heap.size 24 8 (-149) w5) := HDn.out.below hb'; have k3 := HDm.out.c0; have k4 := HDm.out.c1; have k5 := HDm.out.c2)
          | (go_at_call 23; refine (low32 _ _ LA.out LB.out).mono ?_; rintro e w6 ⟨rfl, rfl⟩))
        all_goals
          go_wp2_with fail
          go_meet
          case rel => exact ⟨_, rfl, (u64w _).1, (u64w _).2, HDm.out⟩
      case rest =>
        obtain ⟨y, rfl, y0, y1, hDD⟩ := hcut
        go_wp2
        go_ret
        exact ⟨y, rfl, y0, y1, hDD.cur, hDD.gr⟩
    · -- 9
      go_upto_region 27 with fail
      go_cut [4] from 146 to 160 (fun s V => ∃ y : Int, s = .int .u64 y ∧ 0 ≤ y ∧ y ≤ 18446744073709551615 ∧ DS w g a cap xs w.heap.size 24 8 (-149) V)
      case first =>
        go_quiet (first | (with_reducible exact (pow_q 23 8388608 _ _ (by decide) (by decide) (by decide))) | (with_reducible exact (pow_q 22 4194304 _ _ (by decide) (by decide) (by decide))))
        go_wp2_with fail
        go_meet
        case rel => exact ⟨_, rfl, (u64w _).1, (u64w _).2, HD.out.drewN _⟩
      case rest =>
        obtain ⟨y, rfl, y0, y1, hDD⟩ := hcut
        go_wp2
        go_ret
        exact ⟨y, rfl, y0, y1, hDD.cur, hDD.gr⟩
    · -- 10
      obtain ⟨W, hW⟩ : ∃ W, W = wc.alloc (.cells #[.int .i64 31, .int .i64 32, .int .i64 63, .int .i64 64] 2) := ⟨_, rfl⟩
      have HW := Hid.mk' hW
      have HE : Hid (DS w g a cap xs w.heap.size 24 8 (-149) W) := by rw [hW]; exact HD.out.below ((Below.refl _ _).alloc (Nat.le_refl _) _)
      have hg : g < wc.heap.size := HD.out.cur.lt
      have HK : Hid (W.heap[wc.heap.size]? = some (.cells #[.int .i64 31, .int .i64 32, .int .i64 63, .int .i64 64] 2) ∧ wc.heap.size < W.heap.size) := by
        refine ⟨?_, ?_⟩
        · rw [hW]; show (wc.heap.push _)[wc.heap.size]? = _; simp
        · rw [hW]; simp
      clear hW HD f0 f1 f2
      go_wp2_with fail
      rw [← HW.out]
      refine (KB.out _ 4 HE.out.cur (by omega) (by omega)).mono ?_
      rintro e w3 ⟨z, rfl, hz0, hz1, hC1, hg1⟩
      have HF := Hid.mk' (HE.out.step hC1 hg1)
      have hb : w3.heap[wc.heap.size]? = some (.cells #[.int .i64 31, .int .i64 32, .int .i64 63, .int .i64 64] 2) := (hg1.block _ HK.out.2 (fun e => by simp at e; omega)).trans HK.out.1
      have b0 : w3.cell? ⟨wc.heap.size, 0, none⟩ = some (.int .i64 31) := by simp [World.cell?, hb]
      have b1 : w3.cell? ⟨wc.heap.size, 1, none⟩ = some (.int .i64 32) := by simp [World.cell?, hb]
      have b2 : w3.cell? ⟨wc.heap.size, 2, none⟩ = some (.int .i64 63) := by simp [World.cell?, hb]
      have b3 : w3.cell? ⟨wc.heap.size, 3, none⟩ = some (.int .i64 64) := by simp [World.cell?, hb]
      have f0 := HF.out.c0
      have f1 := HF.out.c1
      have f2 := HF.out.c2
      clear hb HK HE HW hC1 hg1
      rcases (show z = 0 ∨ z = 1 ∨ z = 2 ∨ z = 3 by omega) with rfl | rfl | rfl | rfl
      · go_wp2_with (first | (go_at_call 25; with_reducible refine (pow_lit 8 256 _ (by decide) (by decide) (by decide)).mono ?_; rintro e w' ⟨rfl, rfl⟩) | (go_at_call 25; with_reducible refine (pow_lit 7 128 _ (by decide) (by decide) (by decide)).mono ?_; rintro e w' ⟨rfl, rfl⟩) | (go_at_call 25; with_reducible refine (pow_lit 31 2147483648 _ (by decide) (by decide) (by decide)).mono ?_; rintro e w' ⟨rfl, rfl⟩) | (go_at_call 25; with_reducible refine (pow_lit 23 8388608 _ (by decide) (by decide) (by decide)).mono ?_; rintro e w' ⟨rfl, rfl⟩) | (go_at_call 25; with_reducible refine (pow_lit 22 4194304 _ (by decide) (by decide) (by decide)).mono ?_; rintro e w' ⟨rfl, rfl⟩))
        go_ret
        exact ⟨_, rfl, (u64w _).1, (u64w _).2, HF.out.cur, HF.out.gr⟩
      · go_wp2_with (first | (go_at_call 25; with_reducible refine (pow_lit 8 256 _ (by decide) (by decide) (by decide)).mono ?_; rintro e w' ⟨rfl, rfl⟩) | (go_at_call 25; with_reducible refine (pow_lit 7 128 _ (by decide) (by decide) (by decide)).mono ?_; rintro e w' ⟨rfl, rfl⟩) | (go_at_call 25; with_reducible refine (pow_lit 31 2147483648 _ (by decide) (by decide) (by decide)).mono ?_; rintro e w' ⟨rfl, rfl⟩) | (go_at_call 25; with_reducible refine (pow_lit 23 8388608 _ (by decide) (by decide) (by decide)).mono ?_; rintro e w' ⟨rfl, rfl⟩) | (go_at_call 25; with_reducible refine (pow_lit 22 4194304 _ (by decide) (by decide) (by decide)).mono ?_; rintro e w' ⟨rfl, rfl⟩))
        go_ret
        exact ⟨_, rfl, (u64w _).1, (u64w _).2, HF.out.cur, HF.out.gr⟩
      · go_wp2_with (first | (go_at_call 25; with_reducible refine (pow_lit 8 256 _ (by decide) (by decide) (by decide)).mono ?_; rintro e w' ⟨rfl, rfl⟩) | (go_at_call 25; with_reducible refine (pow_lit 7 128 _ (by decide) (by decide) (by decide)).mono ?_; rintro e w' ⟨rfl, rfl⟩) | (go_at_call 25; with_reducible refine (pow_lit 31 2147483648 _ (by decide) (by decide) (by decide)).mono ?_; rintro e w' ⟨rfl, rfl⟩) | (go_at_call 25; with_reducible refine (pow_lit 23 8388608 _ (by decide) (by decide) (by decide)).mono ?_; rintro e w' ⟨rfl, rfl⟩) | (go_at_call 25; with_reducible refine (pow_lit 22 4194304 _ (by decide) (by decide) (by decide)).mono ?_; rintro e w' ⟨rfl, rfl⟩))
        go_ret
        exact ⟨_, rfl, (u64w _).1, (u64w _).2, HF.out.cur, HF.out.gr⟩
      · go_wp2_with (first | (go_at_call 25; with_reducible refine (pow_lit 8 256 _ (by decide) (by decide) (by decide)).mono ?_; rintro e w' ⟨rfl, rfl⟩) | (go_at_call 25; with_reducible refine (pow_lit 7 128 _ (by decide) (by decide) (by decide)).mono ?_; rintro e w' ⟨rfl, rfl⟩) | (go_at_call 25; with_reducible refine (pow_lit 31 2147483648 _ (by decide) (by decide) (by decide)).mono ?_; rintro e w' ⟨rfl, rfl⟩) | (go_at_call 25; with_reducible refine (pow_lit 23 8388608 _ (by decide) (by decide) (by decide)).mono ?_; rintro e w' ⟨rfl, rfl⟩) | (go_at_call 25; with_reducible refine (pow_lit 22 4194304 _ (by decide) (by decide) (by decide)).mono ?_; rintro e w' ⟨rfl, rfl⟩))
        go_ret
        exact ⟨_, rfl, (u64w _).1, (u64w _).2, HF.out.cur, HF.out.gr⟩
    · -- any fraction
      have e0 : (k == 0) = false := beq_eq_false_iff_ne.2 (by omega)
      have e1 : (k == 1) = false := beq_eq_false_iff_ne.2 (by omega)
      have e2 : (k == 2) = false := beq_eq_false_iff_ne.2 (by omega)
      have e3 : (k == 3) = false := beq_eq_false_iff_ne.2 (by omega)
      have e4 : (k == 4) = false := beq_eq_false_iff_ne.2 (by omega)
      have e5 : (k == 5) = false := beq_eq_false_iff_ne.2 (by omega)
      have e6 : (k == 6) = false := beq_eq_false_iff_ne.2 (by omega)
      have e7 : (k == 7) = false := beq_eq_false_iff_ne.2 (by omega)
      have e8 : (k == 8) = false := beq_eq_false_iff_ne.2 (by omega)
      have e9 : (k == 9) = false := beq_eq_false_iff_ne.2 (by omega)
      have e10 : (k == 10) = false := beq_eq_false_iff_ne.2 (by omega)
      go_upto_region 31 with fail
      go_cut [12] from 182 to 188 (fun s V => ∃ y : Int, s = .int .u64 y ∧ DS w g a cap xs w.heap.size 24 8 (-149) V)
      case first =>
        go_region_held3 (fun w' => w'.cell? ⟨w.heap.size, 0, none⟩ = some (.int .i64 24) ∧ w'.cell? ⟨w.heap.size, 1, none⟩ = some (.int .i64 8) ∧ w'.cell? ⟨w.heap.size, 2, none⟩ = some (.int .i64 (-149))) (first | exact ⟨f0, f1, f2⟩ | exact ⟨k0, k1, k2⟩ | exact ⟨k3, k4, k5⟩) (first
          | (go_at_call 60; refine (KD.out _ ?hcur).mono ?_; (case hcur => first | exact HD.out.cur | exact HD.out.drew.cur); rintro e w3 ⟨y, rfl, hy0, hy1, hC1, hg1⟩; have HDn : Hid (DS w g a cap xs w.heap.size 24 8 (-149) w3) := (by first | exact HD.out.drew.step hC1 hg1 | exact HD.out.step hC1 hg1); have k0 := HDn.out.c0; have k1 := HDn.out.c1; have k2 := HDn.out.c2)
          | (go_at_call 25; with_reducible refine (pow_lit 8 256 _ (by decide) (by decide) (by decide)).mono ?_; rintro e w' ⟨rfl, rfl⟩) | (go_at_call 25; with_reducible refine (pow_lit 7 128 _ (by decide) (by decide) (by decide)).mono ?_; rintro e w' ⟨rfl, rfl⟩) | (go_at_call 25; with_reducible refine (pow_lit 31 2147483648 _ (by decide) (by decide) (by decide)).mono ?_; rintro e w' ⟨rfl, rfl⟩) | (go_at_call 25; with_reducible refine (pow_lit 23 8388608 _ (by decide) (by decide) (by decide)).mono ?_; rintro e w' ⟨rfl, rfl⟩) | (go_at_call 25; with_reducible refine (pow_lit 22 4194304 _ (by decide) (by decide) (by decide)).mono ?_; rintro e w' ⟨rfl, rfl⟩))
        all_goals
          go_wp2_with fail
          go_meet
          case rel => exact ⟨_, rfl, by first | exact HDn.out | exact HDn.out.drew⟩
      case rest =>
        rename_i wd _ _
        obtain ⟨fr, rfl, hDD⟩ := hcut
        clear f0 f1 f2 HD
        have HD := Hid.mk' hDD
        clear hDD
        go_wp2_with fail
        refine (KB.out _ 50 HD.out.cur (by omega) (by omega)).mono ?_
        rintro e w4 ⟨ee, rfl, he0, he1, hC1, hg1⟩
        have HE := Hid.mk' (HD.out.step hC1 hg1)
        clear HD hC1 hg1
        go_wp2_with fail
        refine (KO.out _ 3 HE.out.cur (by omega) (by omega)).mono ?_
        rintro e w5 ⟨r, rfl, hC1, hg1⟩
        have HF := Hid.mk' (HE.out.step hC1 hg1)
        clear HE hC1 hg1
        have f0 := HF.out.c0
        have f1 := HF.out.c1
        have f2 := HF.out.c2
        cases r
        · go_wp2_with (first | (go_at_call 25; with_reducible refine (pow_lit 8 256 _ (by decide) (by decide) (by decide)).mono ?_; rintro e w' ⟨rfl, rfl⟩) | (go_at_call 25; with_reducible refine (pow_lit 7 128 _ (by decide) (by decide) (by decide)).mono ?_; rintro e w' ⟨rfl, rfl⟩) | (go_at_call 25; with_reducible refine (pow_lit 31 2147483648 _ (by decide) (by decide) (by decide)).mono ?_; rintro e w' ⟨rfl, rfl⟩) | (go_at_call 25; with_reducible refine (pow_lit 23 8388608 _ (by decide) (by decide) (by decide)).mono ?_; rintro e w' ⟨rfl, rfl⟩) | (go_at_call 25; with_reducible refine (pow_lit 22 4194304 _ (by decide) (by decide) (by decide)).mono ?_; rintro e w' ⟨rfl, rfl⟩))
          go_ret
          exact ⟨_, rfl, (u64w _).1, (u64w _).2, HF.out.cur, HF.out.gr⟩
        · go_wp2
          go_quiet (first | (with_reducible exact (pow_q 23 8388608 _ _ (by decide) (by decide) (by decide))) | (with_reducible exact (pow_q 22 4194304 _ _ (by decide) (by decide) (by decide))))
          go_wp2
          go_ret
          exact ⟨_, rfl, (u64w _).1, (u64w _).2, HF.out.cur.of_heap rfl, grown_of HF.out.gr rfl rfl rfl rfl⟩

set_option maxHeartbeats 8000000 in
theorem draw3_w (g : Nat) (a : Option Addr) (cap : Nat) (xs : List Int) (w : World) (hl : xs.length ≤ 1099511627776) (hB : AllB xs) (hC : Cur w g a cap xs) :
    Calls Tryd.prog 61 #[.pointer (some ⟨g, 0, none⟩), FSw] w fun e w' => ∃ x : Int, e = .returned (.int .u64 x) ∧ 0 ≤ x ∧ x ≤ 18446744073709551615 ∧ Cur w' g a cap xs ∧ w.grownBy w' (some g) := by
  have KB := Hid.mk' (fun W n hC h1 h2 => below_any g a cap xs n W hl hB hC h1 h2)
  have KD := Hid.mk' (fun W hC => drawU64_any g a cap xs W hl hB hC)
  have KO := Hid.mk' (fun W n hC h1 h2 => once_any g a cap xs n W hl hB hC h1 h2)
  have hlt := hC.lt
  have q64 : IntKind.i64.wrap 64 = 64 := by decide
  have q63 : IntKind.i64.wrap 63 = 63 := by decide
  have q52 : IntKind.i64.wrap 52 = 52 := by decide
  have q51 : IntKind.i64.wrap 51 = 51 := by decide
  have D0 : DS w g a cap xs w.heap.size 53 11 (-1074) (w.alloc (.cells #[.int .i64 53, .int .i64 11, .int .i64 (-1074)] 40)) :=
    ⟨hC.below ((Below.refl _ _).alloc (Nat.le_refl _) _) hlt, grown_below ((Below.refl _ _).alloc (Nat.le_refl _) _), by simp, by omega, cell_new rfl rfl, cell_new rfl rfl, cell_new rfl rfl⟩
  have HD0 := Hid.mk' D0
  clear hB hl hC D0
  go_enter Tryd.func61, Tryd.ntmps61
  go_wp2_with fail
  refine (KB.out _ 14 HD0.out.cur (by omega) (by omega)).mono ?_
  rintro e w1 ⟨k, rfl, hk0, hk1, hC1, hg1⟩
  have HD1 := Hid.mk' (HD0.out.step hC1 hg1)
  clear hC1 hg1 HD0
  go_wp2_with fail
  refine (KB.out _ 8 HD1.out.cur (by omega) (by omega)).mono ?_
  rintro e w2 ⟨x, rfl, hx0, hx1, hC1, hg1⟩
  have HD := Hid.mk' (HD1.out.step hC1 hg1)
  have f0 := HD.out.c0
  have f1 := HD.out.c1
  have f2 := HD.out.c2
  clear hC1 hg1 HD1
  go_upto_region 5 with (first | (go_at_call 25; with_reducible refine (pow_lit 11 2048 _ (by decide) (by decide) (by decide)).mono ?_; rintro e w' ⟨rfl, rfl⟩) | (go_at_call 25; with_reducible refine (pow_lit 10 1024 _ (by decide) (by decide) (by decide)).mono ?_; rintro e w' ⟨rfl, rfl⟩) | (go_at_call 25; with_reducible refine (pow_lit 63 9223372036854775808 _ (by decide) (by decide) (by decide)).mono ?_; rintro e w' ⟨rfl, rfl⟩) | (go_at_call 25; with_reducible refine (pow_lit 52 4503599627370496 _ (by decide) (by decide) (by decide)).mono ?_; rintro e w' ⟨rfl, rfl⟩) | (go_at_call 25; with_reducible refine (pow_lit 51 2251799813685248 _ (by decide) (by decide) (by decide)).mono ?_; rintro e w' ⟨rfl, rfl⟩))
  go_cut [9] from 28 to 38 (fun s V => ∃ y : Int, s = .int .u64 y ∧ 0 ≤ y ∧ y ≤ 18446744073709551615 ∧ DS w g a cap xs w.heap.size 53 11 (-1074) V)
  case first =>
    go_region_held3 (fun w' => w'.cell? ⟨w.heap.size, 0, none⟩ = some (.int .i64 53) ∧ w'.cell? ⟨w.heap.size, 1, none⟩ = some (.int .i64 11) ∧ w'.cell? ⟨w.heap.size, 2, none⟩ = some (.int .i64 (-1074))) (first | exact ⟨f0, f1, f2⟩ | exact ⟨k0, k1, k2⟩ | exact ⟨k3, k4, k5⟩) (first
      | (go_at_call 59; refine (KB.out _ 2 ?hcur (by omega) (by omega)).mono ?_; (case hcur => first | exact HD.out.cur | exact HD.out.drew.cur); rintro e w3 ⟨y, rfl, hy0, hy1, hC1, hg1⟩; have HDn : Hid (DS w g a cap xs w.heap.size 53 11 (-1074) w3) := (by first | exact HD.out.drew.step hC1 hg1 | exact HD.out.step hC1 hg1); have k0 := HDn.out.c0; have k1 := HDn.out.c1; have k2 := HDn.out.c2)
      | (go_at_call 25; with_reducible refine (pow_lit 11 2048 _ (by decide) (by decide) (by decide)).mono ?_; rintro e w' ⟨rfl, rfl⟩) | (go_at_call 25; with_reducible refine (pow_lit 10 1024 _ (by decide) (by decide) (by decide)).mono ?_; rintro e w' ⟨rfl, rfl⟩) | (go_at_call 25; with_reducible refine (pow_lit 63 9223372036854775808 _ (by decide) (by decide) (by decide)).mono ?_; rintro e w' ⟨rfl, rfl⟩) | (go_at_call 25; with_reducible refine (pow_lit 52 4503599627370496 _ (by decide) (by decide) (by decide)).mono ?_; rintro e w' ⟨rfl, rfl⟩) | (go_at_call 25; with_reducible refine (pow_lit 51 2251799813685248 _ (by decide) (by decide) (by decide)).mono ?_; rintro e w' ⟨rfl, rfl⟩))
    all_goals
      go_wp2_with fail
      go_meet
      case rel => exact ⟨_, rfl, (u64w _).1, (u64w _).2, by first | exact HDn.out | exact HDn.out.drew⟩
  case rest =>
    obtain ⟨sg, rfl, sg0, sg1, hDD⟩ := hcut
    clear f0 f1 f2 HD
    have HD := Hid.mk' hDD
    have f0 := hDD.c0
    have f1 := hDD.c1
    have f2 := hDD.c2
    clear hDD
    rcases (show k = 0 ∨ k = 1 ∨ k = 2 ∨ k = 3 ∨ k = 4 ∨ k = 5 ∨ k = 6 ∨ k = 7 ∨ k = 8 ∨ k = 9 ∨ k = 10 ∨ 11 ≤ k by omega) with rfl | rfl | rfl | rfl | rfl | rfl | rfl | rfl | rfl | rfl | rfl | hk11
    · go_wp2
      go_ret
      exact ⟨_, rfl, by omega, by omega, HD.out.cur, HD.out.gr⟩
    · go_wp2_with (first | (go_at_call 25; with_reducible refine (pow_lit 11 2048 _ (by decide) (by decide) (by decide)).mono ?_; rintro e w' ⟨rfl, rfl⟩) | (go_at_call 25; with_reducible refine (pow_lit 10 1024 _ (by decide) (by decide) (by decide)).mono ?_; rintro e w' ⟨rfl, rfl⟩) | (go_at_call 25; with_reducible refine (pow_lit 63 9223372036854775808 _ (by decide) (by decide) (by decide)).mono ?_; rintro e w' ⟨rfl, rfl⟩) | (go_at_call 25; with_reducible refine (pow_lit 52 4503599627370496 _ (by decide) (by decide) (by decide)).mono ?_; rintro e w' ⟨rfl, rfl⟩) | (go_at_call 25; with_reducible refine (pow_lit 51 2251799813685248 _ (by decide) (by decide) (by decide)).mono ?_; rintro e w' ⟨rfl, rfl⟩))
      go_ret
      exact ⟨_, rfl, (u64w _).1, (u64w _).2, HD.out.cur, HD.out.gr⟩
    · go_wp2_with (first | (go_at_call 25; with_reducible refine (pow_lit 11 2048 _ (by decide) (by decide) (by decide)).mono ?_; rintro e w' ⟨rfl, rfl⟩) | (go_at_call 25; with_reducible refine (pow_lit 10 1024 _ (by decide) (by decide) (by decide)).mono ?_; rintro e w' ⟨rfl, rfl⟩) | (go_at_call 25; with_reducible refine (pow_lit 63 9223372036854775808 _ (by decide) (by decide) (by decide)).mono ?_; rintro e w' ⟨rfl, rfl⟩) | (go_at_call 25; with_reducible refine (pow_lit 52 4503599627370496 _ (by decide) (by decide) (by decide)).mono ?_; rintro e w' ⟨rfl, rfl⟩) | (go_at_call 25; with_reducible refine (pow_lit 51 2251799813685248 _ (by decide) (by decide) (by decide)).mono ?_; rintro e w' ⟨rfl, rfl⟩))
      go_ret
      exact ⟨_, rfl, (u64w _).1, (u64w _).2, HD.out.cur, HD.out.gr⟩
    · -- a NaN
      go_upto_region 14 with fail
      go_cut [4] from 68 to 81 (fun s V => ∃ y : Int, s = .int .u64 y ∧ 0 ≤ y ∧ y ≤ 18446744073709551615 ∧ DS w g a cap xs w.heap.size 53 11 (-1074) V)
      case first =>
        go_region_held3 (fun w' => w'.cell? ⟨w.heap.size, 0, none⟩ = some (.int .i64 53) ∧ w'.cell? ⟨w.heap.size, 1, none⟩ = some (.int .i64 11) ∧ w'.cell? ⟨w.heap.size, 2, none⟩ = some (.int .i64 (-1074))) (first | exact ⟨f0, f1, f2⟩ | exact ⟨k0, k1, k2⟩ | exact ⟨k3, k4, k5⟩) (first
          | (go_at_call 67; refine (nan_w _).mono ?_; rintro e w3 ⟨rfl, hb⟩; have HDn : Hid (DS w g a cap xs w.heap.size 53 11 (-1074) w3) := (by first | exact HD.out.drew.below hb | exact HD.out.below hb); have k0 := HDn.out.c0; have k1 := HDn.out.c1; have k2 := HDn.out.c2)
          | (go_at_call 25; with_reducible refine (pow_lit 11 2048 _ (by decide) (by decide) (by decide)).mono ?_; rintro e w' ⟨rfl, rfl⟩) | (go_at_call 25; with_reducible refine (pow_lit 10 1024 _ (by decide) (by decide) (by decide)).mono ?_; rintro e w' ⟨rfl, rfl⟩) | (go_at_call 25; with_reducible refine (pow_lit 63 9223372036854775808 _ (by decide) (by decide) (by decide)).mono ?_; rintro e w' ⟨rfl, rfl⟩) | (go_at_call 25; with_reducible refine (pow_lit 52 4503599627370496 _ (by decide) (by decide) (by decide)).mono ?_; rintro e w' ⟨rfl, rfl⟩) | (go_at_call 25; with_reducible refine (pow_lit 51 2251799813685248 _ (by decide) (by decide) (by decide)).mono ?_; rintro e w' ⟨rfl, rfl⟩))
        all_goals
          go_wp2_with fail
          go_meet
          case rel => exact ⟨_, rfl, (u64w _).1, (u64w _).2, by first | exact HDn.out | exact HDn.out.drew⟩
      case rest =>
        obtain ⟨y, rfl, y0, y1, hDD⟩ := hcut
        go_wp2
        go_ret
        exact ⟨y, rfl, y0, y1, hDD.cur, hDD.gr⟩
    · go_wp2
      go_ret
      exact ⟨_, rfl, (u64w _).1, (u64w _).2, HD.out.cur, HD.out.gr⟩
    · go_wp2_with (first | (go_at_call 25; with_reducible refine (pow_lit 11 2048 _ (by decide) (by decide) (by decide)).mono ?_; rintro e w' ⟨rfl, rfl⟩) | (go_at_call 25; with_reducible refine (pow_lit 10 1024 _ (by decide) (by decide) (by decide)).mono ?_; rintro e w' ⟨rfl, rfl⟩) | (go_at_call 25; with_reducible refine (pow_lit 63 9223372036854775808 _ (by decide) (by decide) (by decide)).mono ?_; rintro e w' ⟨rfl, rfl⟩) | (go_at_call 25; with_reducible refine (pow_lit 52 4503599627370496 _ (by decide) (by decide) (by decide)).mono ?_; rintro e w' ⟨rfl, rfl⟩) | (go_at_call 25; with_reducible refine (pow_lit 51 2251799813685248 _ (by decide) (by decide) (by decide)).mono ?_; rintro e w' ⟨rfl, rfl⟩))
      go_ret
      exact ⟨_, rfl, (u64w _).1, (u64w _).2, HD.out.cur, HD.out.gr⟩
    · go_wp2_with (first | (go_at_call 25; with_reducible refine (pow_lit 11 2048 _ (by decide) (by decide) (by decide)).mono ?_; rintro e w' ⟨rfl, rfl⟩) | (go_at_call 25; with_reducible refine (pow_lit 10 1024 _ (by decide) (by decide) (by decide)).mono ?_; rintro e w' ⟨rfl, rfl⟩) | (go_at_call 25; with_reducible refine (pow_lit 63 9223372036854775808 _ (by decide) (by decide) (by decide)).mono ?_; rintro e w' ⟨rfl, rfl⟩) | (go_at_call 25; with_reducible refine (pow_lit 52 4503599627370496 _ (by decide) (by decide) (by decide)).mono ?_; rintro e w' ⟨rfl, rfl⟩) | (go_at_call 25; with_reducible refine (pow_lit 51 2251799813685248 _ (by decide) (by decide) (by decide)).mono ?_; rintro e w' ⟨rfl, rfl⟩))
      go_ret
      exact ⟨_, rfl, (u64w _).1, (u64w _).2, HD.out.cur, HD.out.gr⟩
    · -- 7
      go_upto_region 22 with fail
      go_cut [4] from 113 to 126 (fun s V => ∃ y : Int, s = .int .u64 y ∧ 0 ≤ y ∧ y ≤ 18446744073709551615 ∧ DS w g a cap xs w.heap.size 53 11 (-1074) V)
      case first =>
        go_region_held3 (fun w' => w'.cell? ⟨w.heap.size, 0, none⟩ = some (.int .i64 53) ∧ w'.cell? ⟨w.heap.size, 1, none⟩ = some (.int .i64 11) ∧ w'.cell? ⟨w.heap.size, 2, none⟩ = some (.int .i64 (-1074))) (first | exact ⟨f0, f1, f2⟩ | exact ⟨k0, k1, k2⟩ | exact ⟨k3, k4, k5⟩) (first
          | (go_at_call 59; refine (KB.out _ 70 ?hcur (by omega) (by omega)).mono ?_; (case hcur => first | exact HD.out.cur | exact HD.out.drew.cur); rintro e w3 ⟨y, rfl, hy0, hy1, hC1, hg1⟩; have HDn : Hid (DS w g a cap xs w.heap.size 53 11 (-1074) w3) := (by first | exact HD.out.drew.step hC1 hg1 | exact HD.out.step hC1 hg1); have k0 := HDn.out.c0; have k1 := HDn.out.c1; have k2 := HDn.out.c2)
          | (go_at_call 25; with_reducible refine (pow_lit 11 2048 _ (by decide) (by decide) (by decide)).mono ?_; rintro e w' ⟨rfl, rfl⟩) | (go_at_call 25; with_reducible refine (pow_lit 10 1024 _ (by decide) (by decide) (by decide)).mono ?_; rintro e w' ⟨rfl, rfl⟩) | (go_at_call 25; with_reducible refine (pow_lit 63 9223372036854775808 _ (by decide) (by decide) (by decide)).mono ?_; rintro e w' ⟨rfl, rfl⟩) | (go_at_call 25; with_reducible refine (pow_lit 52 4503599627370496 _ (by decide) (by decide) (by decide)).mono ?_; rintro e w' ⟨rfl, rfl⟩) | (go_at_call 25; with_reducible refine (pow_lit 51 2251799813685248 _ (by decide) (by decide) (by decide)).mono ?_; rintro e w' ⟨rfl, rfl⟩))
        all_goals
          go_wp2_with fail
          go_meet
          case rel => exact ⟨_, rfl, (u64w _).1, (u64w _).2, by first | exact HDn.out | exact HDn.out.drew⟩
      case rest =>
        obtain ⟨y, rfl, y0, y1, hDD⟩ := hcut
        go_wp2
        go_ret
        exact ⟨y, rfl, y0, y1, hDD.cur, hDD.gr⟩
    · -- 8
      go_wp2_with fail
      refine (KB.out _ 40 HD.out.cur (by omega) (by omega)).mono ?_
      rintro e w3 ⟨z, rfl, hz0, hz1, hC1, hg1⟩
      have HE := Hid.mk' (HD.out.step hC1 hg1)
      clear HD f0 f1 f2 hC1 hg1
      have f0 := HE.out.c0
      have f1 := HE.out.c1
      have f2 := HE.out.c2
      obtain ⟨zn, hzn⟩ : ∃ zn : Nat, z = (zn : Int) := ⟨z.toNat, by omega⟩
      subst hzn
      have hzw : IntKind.u64.wrap (zn : Int) = (zn : Int) := by rw [IntKind.wrap_u64]; omega
      have hbl : bl zn ≤ 4000 := Nat.le_trans (bl_le (k := 6) (by omega)) (by decide)
      go_upto_region 25 with fail
      go_cut [4] from 132 to 143 (fun s V => ∃ y : Int, s = .int .u64 y ∧ 0 ≤ y ∧ y ≤ 18446744073709551615 ∧ DS w g a cap xs w.heap.size 53 11 (-1074) V)
      case first =>
        go_region_held3 (fun w' => w'.cell? ⟨w.heap.size, 0, none⟩ = some (.int .i64 53) ∧ w'.cell? ⟨w.heap.size, 1, none⟩ = some (.int .i64 11) ∧ w'.cell? ⟨w.heap.size, 2, none⟩ = some (.int .i64 (-1074))) (first | exact ⟨f0, f1, f2⟩ | exact ⟨k0, k1, k2⟩ | exact ⟨k3, k4, k5⟩) (first
          | (go_at_call 65; refine (of_any zn _ (by omega)).mono ?_; rintro e w4 ⟨⟨v, rfl, hS⟩, hb⟩; have HDn : Hid (DS w g a cap xs w.heap.size 53 11 (-1074) w4) := (by first | exact HE.out.drew.below hb | exact HE.out.below hb); have k0 := HDn.out.c0; have k1 := HDn.out.c1; have k2 := HDn.out.c2)
          | (go_at_call 30; refine (round_w false false zn (-1) v _ hbl (by omega) (by omega) hS).mono ?_; rintro e w5 ⟨rfl, hb'⟩; have HDm : Hid (DS w g a cap xs w.heap.size 53 11 (-1074) w5) := HDn.out.below hb'; have k3 := HDm.out.c0; have k4 := HDm.out.c1; have k5 := HDm.out.c2)
          | (go_at_call 23; refine (low64 _ _).mono ?_; rintro e w6 ⟨rfl, rfl⟩))
        all_goals
          go_wp2_with fail
          go_meet
          case rel => exact ⟨_, rfl, (u64w _).1, (u64w _).2, HDm.out⟩
      case rest =>
        obtain ⟨y, rfl, y0, y1, hDD⟩ := hcut
        go_wp2
        go_ret
        exact ⟨y, rfl, y0, y1, hDD.cur, hDD.gr⟩
    · -- 9
      go_upto_region 27 with fail
      go_cut [4] from 146 to 160 (fun s V => ∃ y : Int, s = .int .u64 y ∧ 0 ≤ y ∧ y ≤ 18446744073709551615 ∧ DS w g a cap xs w.heap.size 53 11 (-1074) V)
      case first =>
        go_quiet (first | (with_reducible exact (pow_q 52 4503599627370496 _ _ (by decide) (by decide) (by decide))) | (with_reducible exact (pow_q 51 2251799813685248 _ _ (by decide) (by decide) (by decide))))
        go_wp2_with fail
        go_meet
        case rel => exact ⟨_, rfl, (u64w _).1, (u64w _).2, HD.out.drewN _⟩
      case rest =>
        obtain ⟨y, rfl, y0, y1, hDD⟩ := hcut
        go_wp2
        go_ret
        exact ⟨y, rfl, y0, y1, hDD.cur, hDD.gr⟩
    · -- 10
      obtain ⟨W, hW⟩ : ∃ W, W = wc.alloc (.cells #[.int .i64 31, .int .i64 32, .int .i64 63, .int .i64 64] 2) := ⟨_, rfl⟩
      have HW := Hid.mk' hW
      have HE : Hid (DS w g a cap xs w.heap.size 53 11 (-1074) W) := by rw [hW]; exact HD.out.below ((Below.refl _ _).alloc (Nat.le_refl _) _)
      have hg : g < wc.heap.size := HD.out.cur.lt
      have HK : Hid (W.heap[wc.heap.size]? = some (.cells #[.int .i64 31, .int .i64 32, .int .i64 63, .int .i64 64] 2) ∧ wc.heap.size < W.heap.size) := by
        refine ⟨?_, ?_⟩
        · rw [hW]; show (wc.heap.push _)[wc.heap.size]? = _; simp
        · rw [hW]; simp
      clear hW HD f0 f1 f2
      go_wp2_with fail
      rw [← HW.out]
      refine (KB.out _ 4 HE.out.cur (by omega) (by omega)).mono ?_
      rintro e w3 ⟨z, rfl, hz0, hz1, hC1, hg1⟩
      have HF := Hid.mk' (HE.out.step hC1 hg1)
      have hb : w3.heap[wc.heap.size]? = some (.cells #[.int .i64 31, .int .i64 32, .int .i64 63, .int .i64 64] 2) := (hg1.block _ HK.out.2 (fun e => by simp at e; omega)).trans HK.out.1
      have b0 : w3.cell? ⟨wc.heap.size, 0, none⟩ = some (.int .i64 31) := by simp [World.cell?, hb]
      have b1 : w3.cell? ⟨wc.heap.size, 1, none⟩ = some (.int .i64 32) := by simp [World.cell?, hb]
      have b2 : w3.cell? ⟨wc.heap.size, 2, none⟩ = some (.int .i64 63) := by simp [World.cell?, hb]
      have b3 : w3.cell? ⟨wc.heap.size, 3, none⟩ = some (.int .i64 64) := by simp [World.cell?, hb]
      have f0 := HF.out.c0
      have f1 := HF.out.c1
      have f2 := HF.out.c2
      clear hb HK HE HW hC1 hg1
      rcases (show z = 0 ∨ z = 1 ∨ z = 2 ∨ z = 3 by omega) with rfl | rfl | rfl | rfl
      · go_wp2_with (first | (go_at_call 25; with_reducible refine (pow_lit 11 2048 _ (by decide) (by decide) (by decide)).mono ?_; rintro e w' ⟨rfl, rfl⟩) | (go_at_call 25; with_reducible refine (pow_lit 10 1024 _ (by decide) (by decide) (by decide)).mono ?_; rintro e w' ⟨rfl, rfl⟩) | (go_at_call 25; with_reducible refine (pow_lit 63 9223372036854775808 _ (by decide) (by decide) (by decide)).mono ?_; rintro e w' ⟨rfl, rfl⟩) | (go_at_call 25; with_reducible refine (pow_lit 52 4503599627370496 _ (by decide) (by decide) (by decide)).mono ?_; rintro e w' ⟨rfl, rfl⟩) | (go_at_call 25; with_reducible refine (pow_lit 51 2251799813685248 _ (by decide) (by decide) (by decide)).mono ?_; rintro e w' ⟨rfl, rfl⟩))
        go_ret
        exact ⟨_, rfl, (u64w _).1, (u64w _).2, HF.out.cur, HF.out.gr⟩
      · go_wp2_with (first | (go_at_call 25; with_reducible refine (pow_lit 11 2048 _ (by decide) (by decide) (by decide)).mono ?_; rintro e w' ⟨rfl, rfl⟩) | (go_at_call 25; with_reducible refine (pow_lit 10 1024 _ (by decide) (by decide) (by decide)).mono ?_; rintro e w' ⟨rfl, rfl⟩) | (go_at_call 25; with_reducible refine (pow_lit 63 9223372036854775808 _ (by decide) (by decide) (by decide)).mono ?_; rintro e w' ⟨rfl, rfl⟩) | (go_at_call 25; with_reducible refine (pow_lit 52 4503599627370496 _ (by decide) (by decide) (by decide)).mono ?_; rintro e w' ⟨rfl, rfl⟩) | (go_at_call 25; with_reducible refine (pow_lit 51 2251799813685248 _ (by decide) (by decide) (by decide)).mono ?_; rintro e w' ⟨rfl, rfl⟩))
        go_ret
        exact ⟨_, rfl, (u64w _).1, (u64w _).2, HF.out.cur, HF.out.gr⟩
      · go_wp2_with (first | (go_at_call 25; with_reducible refine (pow_lit 11 2048 _ (by decide) (by decide) (by decide)).mono ?_; rintro e w' ⟨rfl, rfl⟩) | (go_at_call 25; with_reducible refine (pow_lit 10 1024 _ (by decide) (by decide) (by decide)).mono ?_; rintro e w' ⟨rfl, rfl⟩) | (go_at_call 25; with_reducible refine (pow_lit 63 9223372036854775808 _ (by decide) (by decide) (by decide)).mono ?_; rintro e w' ⟨rfl, rfl⟩) | (go_at_call 25; with_reducible refine (pow_lit 52 4503599627370496 _ (by decide) (by decide) (by decide)).mono ?_; rintro e w' ⟨rfl, rfl⟩) | (go_at_call 25; with_reducible refine (pow_lit 51 2251799813685248 _ (by decide) (by decide) (by decide)).mono ?_; rintro e w' ⟨rfl, rfl⟩))
        go_ret
        exact ⟨_, rfl, (u64w _).1, (u64w _).2, HF.out.cur, HF.out.gr⟩
      · go_wp2_with (first | (go_at_call 25; with_reducible refine (pow_lit 11 2048 _ (by decide) (by decide) (by decide)).mono ?_; rintro e w' ⟨rfl, rfl⟩) | (go_at_call 25; with_reducible refine (pow_lit 10 1024 _ (by decide) (by decide) (by decide)).mono ?_; rintro e w' ⟨rfl, rfl⟩) | (go_at_call 25; with_reducible refine (pow_lit 63 9223372036854775808 _ (by decide) (by decide) (by decide)).mono ?_; rintro e w' ⟨rfl, rfl⟩) | (go_at_call 25; with_reducible refine (pow_lit 52 4503599627370496 _ (by decide) (by decide) (by decide)).mono ?_; rintro e w' ⟨rfl, rfl⟩) | (go_at_call 25; with_reducible refine (pow_lit 51 2251799813685248 _ (by decide) (by decide) (by decide)).mono ?_; rintro e w' ⟨rfl, rfl⟩))
        go_ret
        exact ⟨_, rfl, (u64w _).1, (u64w _).2, HF.out.cur, HF.out.gr⟩
    · -- any fraction
      have e0 : (k == 0) = false := beq_eq_false_iff_ne.2 (by omega)
      have e1 : (k == 1) = false := beq_eq_false_iff_ne.2 (by omega)
      have e2 : (k == 2) = false := beq_eq_false_iff_ne.2 (by omega)
      have e3 : (k == 3) = false := beq_eq_false_iff_ne.2 (by omega)
      have e4 : (k == 4) = false := beq_eq_false_iff_ne.2 (by omega)
      have e5 : (k == 5) = false := beq_eq_false_iff_ne.2 (by omega)
      have e6 : (k == 6) = false := beq_eq_false_iff_ne.2 (by omega)
      have e7 : (k == 7) = false := beq_eq_false_iff_ne.2 (by omega)
      have e8 : (k == 8) = false := beq_eq_false_iff_ne.2 (by omega)
      have e9 : (k == 9) = false := beq_eq_false_iff_ne.2 (by omega)
      have e10 : (k == 10) = false := beq_eq_false_iff_ne.2 (by omega)
      go_upto_region 31 with fail
      go_cut [12] from 182 to 188 (fun s V => ∃ y : Int, s = .int .u64 y ∧ DS w g a cap xs w.heap.size 53 11 (-1074) V)
      case first =>
        go_region_held3 (fun w' => w'.cell? ⟨w.heap.size, 0, none⟩ = some (.int .i64 53) ∧ w'.cell? ⟨w.heap.size, 1, none⟩ = some (.int .i64 11) ∧ w'.cell? ⟨w.heap.size, 2, none⟩ = some (.int .i64 (-1074))) (first | exact ⟨f0, f1, f2⟩ | exact ⟨k0, k1, k2⟩ | exact ⟨k3, k4, k5⟩) (first
          | (go_at_call 60; refine (KD.out _ ?hcur).mono ?_; (case hcur => first | exact HD.out.cur | exact HD.out.drew.cur); rintro e w3 ⟨y, rfl, hy0, hy1, hC1, hg1⟩; have HDn : Hid (DS w g a cap xs w.heap.size 53 11 (-1074) w3) := (by first | exact HD.out.drew.step hC1 hg1 | exact HD.out.step hC1 hg1); have k0 := HDn.out.c0; have k1 := HDn.out.c1; have k2 := HDn.out.c2)
          | (go_at_call 25; with_reducible refine (pow_lit 11 2048 _ (by decide) (by decide) (by decide)).mono ?_; rintro e w' ⟨rfl, rfl⟩) | (go_at_call 25; with_reducible refine (pow_lit 10 1024 _ (by decide) (by decide) (by decide)).mono ?_; rintro e w' ⟨rfl, rfl⟩) | (go_at_call 25; with_reducible refine (pow_lit 63 9223372036854775808 _ (by decide) (by decide) (by decide)).mono ?_; rintro e w' ⟨rfl, rfl⟩) | (go_at_call 25; with_reducible refine (pow_lit 52 4503599627370496 _ (by decide) (by decide) (by decide)).mono ?_; rintro e w' ⟨rfl, rfl⟩) | (go_at_call 25; with_reducible refine (pow_lit 51 2251799813685248 _ (by decide) (by decide) (by decide)).mono ?_; rintro e w' ⟨rfl, rfl⟩))
        all_goals
          go_wp2_with fail
          go_meet
          case rel => exact ⟨_, rfl, by first | exact HDn.out | exact HDn.out.drew⟩
      case rest =>
        rename_i wd _ _
        obtain ⟨fr, rfl, hDD⟩ := hcut
        clear f0 f1 f2 HD
        have HD := Hid.mk' hDD
        clear hDD
        go_wp2_with fail
        refine (KB.out _ 50 HD.out.cur (by omega) (by omega)).mono ?_
        rintro e w4 ⟨ee, rfl, he0, he1, hC1, hg1⟩
        have HE := Hid.mk' (HD.out.step hC1 hg1)
        clear HD hC1 hg1
        go_wp2_with fail
        refine (KO.out _ 3 HE.out.cur (by omega) (by omega)).mono ?_
        rintro e w5 ⟨r, rfl, hC1, hg1⟩
        have HF := Hid.mk' (HE.out.step hC1 hg1)
        clear HE hC1 hg1
        have f0 := HF.out.c0
        have f1 := HF.out.c1
        have f2 := HF.out.c2
        cases r
        · go_wp2_with (first | (go_at_call 25; with_reducible refine (pow_lit 11 2048 _ (by decide) (by decide) (by decide)).mono ?_; rintro e w' ⟨rfl, rfl⟩) | (go_at_call 25; with_reducible refine (pow_lit 10 1024 _ (by decide) (by decide) (by decide)).mono ?_; rintro e w' ⟨rfl, rfl⟩) | (go_at_call 25; with_reducible refine (pow_lit 63 9223372036854775808 _ (by decide) (by decide) (by decide)).mono ?_; rintro e w' ⟨rfl, rfl⟩) | (go_at_call 25; with_reducible refine (pow_lit 52 4503599627370496 _ (by decide) (by decide) (by decide)).mono ?_; rintro e w' ⟨rfl, rfl⟩) | (go_at_call 25; with_reducible refine (pow_lit 51 2251799813685248 _ (by decide) (by decide) (by decide)).mono ?_; rintro e w' ⟨rfl, rfl⟩))
          go_ret
          exact ⟨_, rfl, (u64w _).1, (u64w _).2, HF.out.cur, HF.out.gr⟩
        · go_wp2
          go_quiet (first | (with_reducible exact (pow_q 52 4503599627370496 _ _ (by decide) (by decide) (by decide))) | (with_reducible exact (pow_q 51 2251799813685248 _ _ (by decide) (by decide) (by decide))))
          go_wp2
          go_ret
          exact ⟨_, rfl, (u64w _).1, (u64w _).2, HF.out.cur.of_heap rfl, grown_of HF.out.gr rfl rfl rfl rfl⟩
end Go.Proofs.YthmppcfhbbjhlaaDoor
set_option linter.unusedVariables false
namespace Go.Proofs.YthmppcfhbbjhlaaDoor
open Go.RowKit Go.Sort
set_option maxRecDepth 100000
theorem f32_c (w : World) : Calls Tryd.prog 40 #[] w fun e w' => e = .returned FSn ∧ Below w.heap.size w w' := by
  go_enter Tryd.func40, Tryd.ntmps40
  go_wp2
  exact bodyPost_ret (v := FSn) (by simp [results, Tryd.results40, go_sem]) rfl ⟨rfl, (Below.refl _ _).alloc (Nat.le_refl _) _⟩
theorem f64_c (w : World) : Calls Tryd.prog 41 #[] w fun e w' => e = .returned FSw ∧ Below w.heap.size w w' := by
  go_enter Tryd.func41, Tryd.ntmps41
  go_wp2
  exact bodyPost_ret (v := FSw) (by simp [results, Tryd.results41, go_sem]) rfl ⟨rfl, (Below.refl _ _).alloc (Nat.le_refl _) _⟩
set_option maxHeartbeats 4000000 in
theorem formOf2_c (op : Int) (w : World) (h0 : (91 ≤ op ∧ op ≤ 102) ∨ (139 ≤ op ∧ op ≤ 166)) :
    Calls Tryd.prog 62 #[.int .i64 op] w fun e w' => ∃ v, e = .returned v ∧ (v = FSn ∨ v = FSw) ∧ Below w.heap.size w w' := by
  have K1 := Hid.mk' f32_c
  have K2 := Hid.mk' f64_c
  obtain ⟨W, hW⟩ : ∃ W, W = w.alloc (.cells #[.int .i64 0, .int .i64 0, .int .i64 0] 40) := ⟨_, rfl⟩
  have HW := Hid.mk' hW
  have hB : Below w.heap.size w W := by rw [hW]; exact (Below.refl _ _).alloc (Nat.le_refl _) _
  have HC : Hid ((W.cell? ⟨w.heap.size, 0, none⟩ = some (.int .i64 0) ∧ W.cell? ⟨w.heap.size, 1, none⟩ = some (.int .i64 0) ∧ W.cell? ⟨w.heap.size, 2, none⟩ = some (.int .i64 0)) ∧ (∀ i, W.frozen? ⟨w.heap.size, i, none⟩ = false) ∧ w.heap.size < W.heap.size) := by
    rw [hW]; exact ⟨⟨cell_new rfl rfl, cell_new rfl rfl, cell_new rfl rfl⟩, fun i => World.frozen?_alloc_new _ _ _ _, by simp⟩
  clear hW
  have g3 : 91 ≤ op := by omega
  have e1 : (op == 168) = false := beq_eq_false_iff_ne.2 (by omega)
  have e2 : (op == 169) = false := beq_eq_false_iff_ne.2 (by omega)
  have e3 : (op == 174) = false := beq_eq_false_iff_ne.2 (by omega)
  have e4 : (op == 175) = false := beq_eq_false_iff_ne.2 (by omega)
  have e5 : (op == 187) = false := beq_eq_false_iff_ne.2 (by omega)
  have e6 : (op == 188) = false := beq_eq_false_iff_ne.2 (by omega)
  go_enter Tryd.func62, Tryd.ntmps62
  go_upto_region 1 with fail
  rw [← HW.out]
  go_cut [40] from 3 to 40 (fun s V => ∃ b : Bool, s = .bool b ∧ V = W)
  case first =>
    rcases (show op ≤ 96 ∨ (97 ≤ op ∧ op ≤ 102) ∨ (139 ≤ op ∧ op ≤ 152) ∨ 153 ≤ op by omega) with n1 | ⟨n1, n2⟩ | ⟨n1, n2⟩ | n1
    · clear h0
      go_wp2_with fail
      go_meet
      case rel => exact ⟨_, rfl, rfl⟩
    · have q1 : ¬ op ≤ 96 := by omega
      have q2 : ¬ 139 ≤ op := by omega
      clear h0
      go_wp2_with fail
      go_meet
      case rel => exact ⟨_, rfl, rfl⟩
    · have q1 : ¬ op ≤ 96 := by omega
      clear h0
      go_wp2_with fail
      go_meet
      case rel => exact ⟨_, rfl, rfl⟩
    · have q1 : ¬ op ≤ 96 := by omega
      have q2 : 139 ≤ op := by omega
      have q3 : ¬ op ≤ 152 := by omega
      clear h0
      go_wp2_with fail
      go_meet
      case rel => exact ⟨_, rfl, rfl⟩
  case rest =>
    obtain ⟨b, rfl, rfl⟩ := hcut
    clear HW
    cases b
    · go_wp2_with fail
      refine (K2.out _).mono ?_
      rintro e w1 ⟨rfl, hb⟩
      obtain ⟨⟨c0, c1, c2⟩, cf, cl⟩ := HC.out
      have d0 := (hb.cell (p := ⟨w.heap.size, 0, none⟩) cl).trans c0
      have d1 := (hb.cell (p := ⟨w.heap.size, 1, none⟩) cl).trans c1
      have d2 := (hb.cell (p := ⟨w.heap.size, 2, none⟩) cl).trans c2
      have df : ∀ i, w1.frozen? ⟨w.heap.size, i, none⟩ = false := fun i => (hb.frozen (p := ⟨w.heap.size, i, none⟩) cl).trans (cf i)
      have HB := Hid.mk' (hB.trans (hb.mono hB.size))
      clear hb c0 c1 c2 cf HC hB
      go_wp2
      exact bodyPost_ret (v := FSw) (by simp [results, Tryd.results62, go_sem, d0, d1, d2]) rfl ⟨FSw, rfl, .inr rfl, ((HB.out.setCell (Nat.le_refl _) _).setCell (Nat.le_refl _) _).setCell (Nat.le_refl _) _⟩
    · go_wp2_with fail
      refine (K1.out _).mono ?_
      rintro e w1 ⟨rfl, hb⟩
      obtain ⟨⟨c0, c1, c2⟩, cf, cl⟩ := HC.out
      have d0 := (hb.cell (p := ⟨w.heap.size, 0, none⟩) cl).trans c0
      have d1 := (hb.cell (p := ⟨w.heap.size, 1, none⟩) cl).trans c1
      have d2 := (hb.cell (p := ⟨w.heap.size, 2, none⟩) cl).trans c2
      have df : ∀ i, w1.frozen? ⟨w.heap.size, i, none⟩ = false := fun i => (hb.frozen (p := ⟨w.heap.size, i, none⟩) cl).trans (cf i)
      have HB := Hid.mk' (hB.trans (hb.mono hB.size))
      clear hb c0 c1 c2 cf HC hB
      go_wp2
      exact bodyPost_ret (v := FSn) (by simp [results, Tryd.results62, go_sem, d0, d1, d2]) rfl ⟨FSn, rfl, .inl rfl, ((HB.out.setCell (Nat.le_refl _) _).setCell (Nat.le_refl _) _).setCell (Nat.le_refl _) _⟩
theorem sn_one' {W : World} {B : Nat} {t : TypeId} {f : Nat × Nat} (h : W.heap[B]? = some (.cells #[.int .u64 1] t f)) : SN W (.slice (some ⟨B, 0, none⟩) 1 1) 1 := by
  have e : dg 1 = [1] := by rw [dg_pos (by decide)]; simp [dg_zero]
  refine ⟨some ⟨B, 0, none⟩, 1, by rw [e]; rfl, ?_⟩
  rw [e]
  refine .inr ⟨B, 0, rfl, fun i hi => ?_⟩
  have : i = 0 := by simpa using hi
  subst this
  simp [World.cell?, h]
theorem grown_new {w V : World} {g : Nat} (h : w.grownBy V (some g)) (hg : w.heap.size ≤ g) : Below w.heap.size w V :=
  ⟨h.os, h.tape, h.output, h.size, fun k hk => h.block k hk (fun e => by simp at e; omega)⟩
theorem below_of_grown {B g : Nat} {w V V' : World} (hb : Below B w V) (h : V.grownBy V' (some g)) (hg : B ≤ g) (hs : B ≤ V.heap.size) : Below B w V' :=
  ⟨h.os.trans hb.os, h.tape.trans hb.tape, h.output.trans hb.output, Nat.le_trans hb.size h.size, fun k hk => (h.block k (by omega) (fun e => by simp at e; omega)).trans (hb.block k hk)⟩
/-- The state of a draw, from outside. -/
structure DQ (w : World) (a : Option Addr) (cap : Nat) (xs : List Int) (V : World) : Prop where
  cur : Cur V w.heap.size a cap xs
  bel : Below w.heap.size w V
theorem DQ.step {w V V' : World} {a : Option Addr} {cap : Nat} {xs : List Int} (h : DQ w a cap xs V) (hc : Cur V' w.heap.size a cap xs) (hg : V.grownBy V' (some w.heap.size)) : DQ w a cap xs V' :=
  ⟨hc, below_of_grown h.bel hg (Nat.le_refl _) h.bel.size⟩
theorem DQ.below {w V V' : World} {a : Option Addr} {cap : Nat} {xs : List Int} (h : DQ w a cap xs V) (hb : Below V.heap.size V V') : DQ w a cap xs V' :=
  ⟨h.cur.below hb h.cur.lt, h.bel.trans (hb.mono h.bel.size)⟩
theorem DQ.drew {w V : World} {a : Option Addr} {cap : Nat} {xs : List Int} (h : DQ w a cap xs V) : DQ w a cap xs V.drew :=
  ⟨h.cur.of_heap rfl, ⟨h.bel.os, h.bel.tape, h.bel.output, h.bel.size, h.bel.block⟩⟩
theorem fsz (v : Value) (h : v = FSn ∨ v = FSw) : ∃ p e l : Int, v = .agg #[.int .i64 p, .int .i64 e, .int .i64 l] := by
  rcases h with rfl | rfl
  · exact ⟨_, _, _, rfl⟩
  · exact ⟨_, _, _, rfl⟩
theorem round_any (v : Value) (hv : v = FSn ∨ v = FSw) (g more : Bool) (sig : Nat) (ex : Int) (u : Value) (w : World) (hb : bl sig ≤ 4000) (hx0 : -4000 ≤ ex) (hx1 : ex ≤ 4000) (hS : SN w u sig) :
    Calls Tryd.prog 30 #[v, .bool g, u, .int .i64 ex, .bool more] w fun e w' => ∃ x : Int, e = .returned (.int .u64 x) ∧ Below w.heap.size w w' := by
  rcases hv with rfl | rfl
  · exact (round_n g more sig ex u w hb hx0 hx1 hS).mono fun e w' ⟨h1, h2⟩ => ⟨_, h1, h2⟩
  · exact (round_w g more sig ex u w hb hx0 hx1 hS).mono fun e w' ⟨h1, h2⟩ => ⟨_, h1, h2⟩
theorem draw3_any (v : Value) (hv : v = FSn ∨ v = FSw) (g : Nat) (a : Option Addr) (cap : Nat) (xs : List Int) (w : World) (hl : xs.length ≤ 1099511627776) (hB : AllB xs) (hC : Cur w g a cap xs) :
    Calls Tryd.prog 61 #[.pointer (some ⟨g, 0, none⟩), v] w fun e w' => ∃ x : Int, e = .returned (.int .u64 x) ∧ 0 ≤ x ∧ x ≤ 18446744073709551615 ∧ Cur w' g a cap xs ∧ w.grownBy w' (some g) := by
  rcases hv with rfl | rfl
  · exact draw3_n g a cap xs w hl hB hC
  · exact draw3_w g a cap xs w hl hB hC
set_option maxHeartbeats 8000000 in
theorem drawFloat2_c (a : Option Addr) (cap : Nat) (xs : List Int) (w : World) (hl : xs.length ≤ 1099511627776) (hB : AllB xs) (ha : Has w a xs) :
    Calls Tryd.prog 19 #[.slice a xs.length cap] w fun e w' => ∃ op x y : Int, e = .returned (.tuple #[.int .i64 op, .int .u64 x, .int .u64 y]) ∧ ((91 ≤ op ∧ op ≤ 102) ∨ (139 ≤ op ∧ op ≤ 166)) ∧ 0 ≤ x ∧ x ≤ 18446744073709551615 ∧ 0 ≤ y ∧ y ≤ 18446744073709551615 ∧ Below w.heap.size w w' := by
  have KN := Hid.mk' (new_any a cap xs w hl hB ha)
  have KB := Hid.mk' (fun W n hC h1 h2 => below_any w.heap.size a cap xs n W hl hB hC h1 h2)
  have KO := Hid.mk' (fun W n hC h1 h2 => once_any w.heap.size a cap xs n W hl hB hC h1 h2)
  have K3 := Hid.mk' (fun v hv W hC => draw3_any v hv w.heap.size a cap xs W hl hB hC)
  clear hl hB ha
  go_enter Tryd.func19, Tryd.ntmps19
  go_wp2_with fail
  refine KN.out.mono ?_
  rintro e w1 ⟨rfl, hC1, hb1, hs1⟩
  have HQ := Hid.mk' (DQ.mk hC1 hb1)
  clear KN hC1 hb1 hs1
  go_wp2_with fail
  refine (KB.out _ 7 HQ.out.cur (by omega) (by omega)).mono ?_
  rintro e w2 ⟨k, rfl, hk0, hk1, hC1, hg1⟩
  replace HQ := Hid.mk' (HQ.out.step hC1 hg1)
  clear hC1 hg1
  go_wp2_with fail
  refine (KB.out _ 2 HQ.out.cur (by omega) (by omega)).mono ?_
  rintro e w3 ⟨j, rfl, hj0, hj1, hC1, hg1⟩
  replace HQ := Hid.mk' (HQ.out.step hC1 hg1)
  clear hC1 hg1
  obtain ⟨op, hop⟩ : ∃ op, op = 146 + k + 14 * j := ⟨_, rfl⟩
  have o1 : 146 ≤ op ∧ op ≤ 166 := by omega
  have hopw : IntKind.i64.wrap (IntKind.i64.wrap (146 + k) + IntKind.i64.wrap (14 * j)) = op := by simp only [IntKind.wrap_i64]; omega
  have hopw2 : 146 + k + 14 * j = op := hop.symm
  clear hop
  go_wp2_with fail
  refine (KO.out _ 3 HQ.out.cur (by omega) (by omega)).mono ?_
  rintro e w4 ⟨r, rfl, hC1, hg1⟩
  replace HQ := Hid.mk' (HQ.out.step hC1 hg1)
  clear hC1 hg1
  go_upto_if 20 with fail
  go_cut [6] from 21 (fun s V => ∃ op : Int, s = .int .i64 op ∧ ((91 ≤ op ∧ op ≤ 102) ∨ (139 ≤ op ∧ op ≤ 166)) ∧ DQ w a cap xs V)
  case first =>
    cases r
    · go_wp2_with fail
      go_meet
      case rel => exact ⟨op, rfl, .inr ⟨by omega, o1.2⟩, HQ.out⟩
    · go_wp2_with fail
      refine (KB.out _ 12 HQ.out.cur (by omega) (by omega)).mono ?_
      rintro e w5 ⟨q, rfl, hq0, hq1, hC1, hg1⟩
      replace HQ := Hid.mk' (HQ.out.step hC1 hg1)
      clear hC1 hg1
      go_wp2_with fail
      go_meet
      case rel => exact ⟨91 + q, rfl, .inl ⟨by omega, by omega⟩, HQ.out⟩
  case rest =>
    obtain ⟨op, rfl, ho, hQ⟩ := hcut
    clear HQ hopw hopw2 o1 hk0 hk1 hj0 hj1
    have HQ := Hid.mk' hQ
    have HO := Hid.mk' ho
    clear hQ ho
    go_wp2_with fail
    refine (formOf2_c op _ HO.out).mono ?_
    rintro e w6 ⟨v, rfl, hv, hb⟩
    replace HQ := Hid.mk' (HQ.out.below hb)
    clear hb
    go_wp2_with fail
    refine (K3.out v hv _ HQ.out.cur).mono ?_
    rintro e w7 ⟨x, rfl, x0, x1, hC1, hg1⟩
    replace HQ := Hid.mk' (HQ.out.step hC1 hg1)
    clear hC1 hg1 hv
    go_wp2_with fail
    refine (formOf2_c op _ HO.out).mono ?_
    rintro e w8 ⟨v2, rfl, hv, hb⟩
    replace HQ := Hid.mk' (HQ.out.below hb)
    clear hb
    go_wp2_with fail
    refine (K3.out v2 hv _ HQ.out.cur).mono ?_
    rintro e w9 ⟨y, rfl, y0, y1, hC1, hg1⟩
    replace HQ := Hid.mk' (HQ.out.step hC1 hg1)
    clear hC1 hg1 hv
    go_wp2_with fail
    refine (KO.out _ 6 HQ.out.cur (by omega) (by omega)).mono ?_
    rintro e w10 ⟨r, rfl, hC1, hg1⟩
    replace HQ := Hid.mk' (HQ.out.step hC1 hg1)
    clear hC1 hg1
    go_upto_if 33 with fail
    go_cut [8] from 34 (fun s V => ∃ y : Int, s = .int .u64 y ∧ 0 ≤ y ∧ y ≤ 18446744073709551615 ∧ DQ w a cap xs V)
    case first =>
      cases r
      · go_wp2_with fail
        go_meet
        case rel => exact ⟨y, rfl, y0, y1, HQ.out⟩
      · go_wp2_with fail
        refine (KB.out _ 5 HQ.out.cur (by omega) (by omega)).mono ?_
        rintro e w11 ⟨q, rfl, hq0, hq1, hC1, hg1⟩
        replace HQ := Hid.mk' (HQ.out.step hC1 hg1)
        clear hC1 hg1
        go_wp2_with fail
        go_meet
        case rel => exact ⟨_, rfl, (u64w _).1, (u64w _).2, HQ.out⟩
    case rest =>
      obtain ⟨y', rfl, y0', y1', hQ⟩ := hcut
      clear HQ
      have HQ := Hid.mk' hQ
      clear hQ
      go_wp2_with fail
      refine (KO.out _ 40 HQ.out.cur (by omega) (by omega)).mono ?_
      rintro e w12 ⟨r, rfl, hC1, hg1⟩
      replace HQ := Hid.mk' (HQ.out.step hC1 hg1)
      clear hC1 hg1
      cases r
      · go_wp2
        exact bodyPost_ret (v := .tuple #[.int .i64 op, .int .u64 x, .int .u64 y']) (by simp [results, Tryd.results19, go_sem]) rfl ⟨op, x, y', rfl, HO.out, x0, x1, y0', y1', HQ.out.bel⟩
      · go_wp2
        exact bodyPost_ret (v := .tuple #[.int .i64 139, .int .u64 x, .int .u64 y']) (by simp [results, Tryd.results19, go_sem]) rfl ⟨139, x, y', rfl, .inr (by omega), x0, x1, y0', y1', HQ.out.bel⟩
end Go.Proofs.YthmppcfhbbjhlaaDoor
