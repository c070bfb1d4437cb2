import Derived.Test.YthmppcfhbbjhlaaDoorSt
import Derived.Test.YthmppcfhbbjhlaaDoorIc
set_option linter.all false
namespace Go.Proofs.YthmppcfhbbjhlaaDoor
open Go.RowKit Go.Sort

set_option maxHeartbeats 2000000 in
theorem fold_wide (op : Int) (w : World) (ha : 153 ≤ op) (hb : op ≤ 166) (hT : Tab0 w) (hz : 0 < w.heap.size) :
    Calls Tryd.prog 32 #[.int .i64 op] w fun e w' => e = .returned (.tuple #[.int .i64 (op - 153 + 139), FVw]) ∧ Below w.heap.size w w' := by
  obtain ⟨⟨h0, h1, h2, h3⟩, h4, h5, h6, h7⟩ := hT
  go_enter Tryd.func32, Tryd.ntmps32
  go_wp2
  go_region
  go_wp2
  exact bodyPost_ret (v := .tuple #[.int .i64 (op - 153 + 139), FVw]) (by simp [results, Tryd.results32, go_sem]) rfl ⟨rfl, by repeat (first | exact Below.refl _ _ | refine Below.setCell ?_ (by first | (simp; done) | (simp; omega) | omega) _ | refine Below.alloc ?_ (by first | (simp; done) | (simp; omega)) _ | refine Below.drew ?_)⟩
set_option maxHeartbeats 2000000 in
theorem fold_test (op : Int) (w : World) (ha : 97 ≤ op) (hb : op ≤ 102) (hT : Tab0 w) (hz : 0 < w.heap.size) :
    Calls Tryd.prog 32 #[.int .i64 op] w fun e w' => e = .returned (.tuple #[.int .i64 (op - 97 + 91), FVw]) ∧ Below w.heap.size w w' := by
  obtain ⟨⟨h0, h1, h2, h3⟩, h4, h5, h6, h7⟩ := hT
  go_enter Tryd.func32, Tryd.ntmps32
  go_wp2
  go_region
  go_wp2
  exact bodyPost_ret (v := .tuple #[.int .i64 (op - 97 + 91), FVw]) (by simp [results, Tryd.results32, go_sem]) rfl ⟨rfl, by repeat (first | exact Below.refl _ _ | refine Below.setCell ?_ (by first | (simp; done) | (simp; omega) | omega) _ | refine Below.alloc ?_ (by first | (simp; done) | (simp; omega)) _ | refine Below.drew ?_)⟩
set_option maxHeartbeats 2000000 in
theorem fold_na (op : Int) (w : World) (ha : op < 97) (hT : Tab0 w) (hz : 0 < w.heap.size) :
    Calls Tryd.prog 32 #[.int .i64 op] w fun e w' => e = .returned (.tuple #[.int .i64 op, FVn]) ∧ Below w.heap.size w w' := by
  obtain ⟨⟨h0, h1, h2, h3⟩, h4, h5, h6, h7⟩ := hT
  go_enter Tryd.func32, Tryd.ntmps32
  go_wp2
  go_region
  go_wp2
  exact bodyPost_ret (v := .tuple #[.int .i64 op, FVn]) (by simp [results, Tryd.results32, go_sem]) rfl ⟨rfl, by repeat (first | exact Below.refl _ _ | refine Below.setCell ?_ (by first | (simp; done) | (simp; omega) | omega) _ | refine Below.alloc ?_ (by first | (simp; done) | (simp; omega)) _ | refine Below.drew ?_)⟩
set_option maxHeartbeats 2000000 in
theorem fold_nb (op : Int) (w : World) (ha : 102 < op) (hb : op < 153) (hT : Tab0 w) (hz : 0 < w.heap.size) :
    Calls Tryd.prog 32 #[.int .i64 op] w fun e w' => e = .returned (.tuple #[.int .i64 op, FVn]) ∧ Below w.heap.size w w' := by
  obtain ⟨⟨h0, h1, h2, h3⟩, h4, h5, h6, h7⟩ := hT
  go_enter Tryd.func32, Tryd.ntmps32
  go_wp2
  go_region
  go_wp2
  exact bodyPost_ret (v := .tuple #[.int .i64 op, FVn]) (by simp [results, Tryd.results32, go_sem]) rfl ⟨rfl, by repeat (first | exact Below.refl _ _ | refine Below.setCell ?_ (by first | (simp; done) | (simp; omega) | omega) _ | refine Below.alloc ?_ (by first | (simp; done) | (simp; omega)) _ | refine Below.drew ?_)⟩
set_option maxHeartbeats 2000000 in
theorem fold_nc (op : Int) (w : World) (ha : 166 < op) (hT : Tab0 w) (hz : 0 < w.heap.size) :
    Calls Tryd.prog 32 #[.int .i64 op] w fun e w' => e = .returned (.tuple #[.int .i64 op, FVn]) ∧ Below w.heap.size w w' := by
  obtain ⟨⟨h0, h1, h2, h3⟩, h4, h5, h6, h7⟩ := hT
  go_enter Tryd.func32, Tryd.ntmps32
  go_wp2
  go_region
  go_wp2
  exact bodyPost_ret (v := .tuple #[.int .i64 op, FVn]) (by simp [results, Tryd.results32, go_sem]) rfl ⟨rfl, by repeat (first | exact Below.refl _ _ | refine Below.setCell ?_ (by first | (simp; done) | (simp; omega) | omega) _ | refine Below.alloc ?_ (by first | (simp; done) | (simp; omega)) _ | refine Below.drew ?_)⟩
set_option maxHeartbeats 2000000 in
theorem which_n (op : Int) (w : World) (ha : 139 ≤ op) (hb : op < 146) (hl : -9223372036854775808 ≤ op) (hr : op ≤ 9223372036854775807) :
    Calls Tryd.prog 22 #[.int .i64 op, .int .i64 139, .int .i64 153, .int .i64 7] w fun e w' => e = .returned (.tuple #[FSn, .int .i64 (op - 139)]) ∧ Below w.heap.size w w' := by
  go_enter Tryd.func22, Tryd.ntmps22
  go_wp2_with fail
  refine (form_n _).mono ?_
  rintro e w1 ⟨rfl, hb⟩
  obtain ⟨⟨r0, r1, r2⟩, v0, v1, v2⟩ := r3_new.keep hb
  have HB := Hid.mk' (below_box hb)
  clear hb
  go_wp2
  exact bodyPost_ret (v := .tuple #[FSn, .int .i64 (op - 139)]) (by simp [results, Tryd.results22, go_sem, r0, r1, r2]) rfl ⟨rfl, by repeat (first | exact HB.out | refine Below.setCell ?_ (by first | (simp; done) | (simp; omega) | omega) _)⟩
set_option maxHeartbeats 2000000 in
theorem which_w (op : Int) (w : World) (ha : 153 ≤ op) (hb : op < 160) (hl : -9223372036854775808 ≤ op) (hr : op ≤ 9223372036854775807) :
    Calls Tryd.prog 22 #[.int .i64 op, .int .i64 139, .int .i64 153, .int .i64 7] w fun e w' => e = .returned (.tuple #[FSw, .int .i64 (op - 153)]) ∧ Below w.heap.size w w' := by
  go_enter Tryd.func22, Tryd.ntmps22
  go_wp2_with fail
  refine (form_w _).mono ?_
  rintro e w1 ⟨rfl, hb⟩
  obtain ⟨⟨r0, r1, r2⟩, v0, v1, v2⟩ := r3_new.keep hb
  have HB := Hid.mk' (below_box hb)
  clear hb
  go_wp2
  exact bodyPost_ret (v := .tuple #[FSw, .int .i64 (op - 153)]) (by simp [results, Tryd.results22, go_sem, r0, r1, r2]) rfl ⟨rfl, by repeat (first | exact HB.out | refine Below.setCell ?_ (by first | (simp; done) | (simp; omega) | omega) _)⟩
set_option maxHeartbeats 2000000 in
theorem which_a (op : Int) (w : World) (ha : op < 139) (hl : -9223372036854775808 ≤ op) (hr : op ≤ 9223372036854775807) :
    Calls Tryd.prog 22 #[.int .i64 op, .int .i64 139, .int .i64 153, .int .i64 7] w fun e w' => e = .returned (.tuple #[FSn, .int .i64 (-1)]) ∧ Below w.heap.size w w' := by
  go_enter Tryd.func22, Tryd.ntmps22
  go_wp2_with fail
  refine (form_n _).mono ?_
  rintro e w1 ⟨rfl, hb⟩
  obtain ⟨⟨r0, r1, r2⟩, v0, v1, v2⟩ := r3_new.keep hb
  have HB := Hid.mk' (below_box hb)
  clear hb
  go_wp2
  exact bodyPost_ret (v := .tuple #[FSn, .int .i64 (-1)]) (by simp [results, Tryd.results22, go_sem, r0, r1, r2]) rfl ⟨rfl, by repeat (first | exact HB.out | refine Below.setCell ?_ (by first | (simp; done) | (simp; omega) | omega) _)⟩
set_option maxHeartbeats 2000000 in
theorem which_b (op : Int) (w : World) (ha : 146 ≤ op) (hb : op < 153) (hl : -9223372036854775808 ≤ op) (hr : op ≤ 9223372036854775807) :
    Calls Tryd.prog 22 #[.int .i64 op, .int .i64 139, .int .i64 153, .int .i64 7] w fun e w' => e = .returned (.tuple #[FSn, .int .i64 (-1)]) ∧ Below w.heap.size w w' := by
  go_enter Tryd.func22, Tryd.ntmps22
  go_wp2_with fail
  refine (form_n _).mono ?_
  rintro e w1 ⟨rfl, hb⟩
  obtain ⟨⟨r0, r1, r2⟩, v0, v1, v2⟩ := r3_new.keep hb
  have HB := Hid.mk' (below_box hb)
  clear hb
  go_wp2
  exact bodyPost_ret (v := .tuple #[FSn, .int .i64 (-1)]) (by simp [results, Tryd.results22, go_sem, r0, r1, r2]) rfl ⟨rfl, by repeat (first | exact HB.out | refine Below.setCell ?_ (by first | (simp; done) | (simp; omega) | omega) _)⟩
set_option maxHeartbeats 2000000 in
theorem which_c (op : Int) (w : World) (ha : 160 ≤ op) (hl : -9223372036854775808 ≤ op) (hr : op ≤ 9223372036854775807) :
    Calls Tryd.prog 22 #[.int .i64 op, .int .i64 139, .int .i64 153, .int .i64 7] w fun e w' => e = .returned (.tuple #[FSn, .int .i64 (-1)]) ∧ Below w.heap.size w w' := by
  go_enter Tryd.func22, Tryd.ntmps22
  go_wp2_with fail
  refine (form_n _).mono ?_
  rintro e w1 ⟨rfl, hb⟩
  obtain ⟨⟨r0, r1, r2⟩, v0, v1, v2⟩ := r3_new.keep hb
  have HB := Hid.mk' (below_box hb)
  clear hb
  go_wp2
  exact bodyPost_ret (v := .tuple #[FSn, .int .i64 (-1)]) (by simp [results, Tryd.results22, go_sem, r0, r1, r2]) rfl ⟨rfl, by repeat (first | exact HB.out | refine Below.setCell ?_ (by first | (simp; done) | (simp; omega) | omega) _)⟩
end Go.Proofs.YthmppcfhbbjhlaaDoor
