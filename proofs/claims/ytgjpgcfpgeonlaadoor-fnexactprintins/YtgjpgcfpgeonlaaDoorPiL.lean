import Derived.Test.YtgjpgcfpgeonlaaDoorPe
import Derived.Deep.RegionHeld3
import Derived.Deep.Slices
import Derived.ProofKit
import Derived.OpenShut
import Derived.Test.YtgjpgcfpgeonlaaDoorPi3
import Derived.Lib.AppendStr
import Derived.Laws.AppendOwnNone
set_option linter.all false
set_option linter.unusedVariables false
namespace Go.Proofs.YtgjpgcfpgeonlaaDoor
open Go.RowKit Go.Sort
set_option maxRecDepth 100000
theorem zI_c (a : Option Addr) (n c : Nat) (left : Int) (w : World) (h0 : 0 ≤ left) (h1 : left ≤ 1048576) (hn : n ≤ 9223372036854775807) :
    Calls Tryd.prog 13 #[.slice a n c, .int .i64 left] w fun e w' => ∃ r : Int, e = .returned (.int .i64 r) ∧ w = w' ∧ (r = -1 ∨ (r = left - n ∧ 0 ≤ r)) := by
  have hw : IntKind.i64.wrap (left - n) = left - n := by rw [IntKind.wrap_i64]; omega
  by_cases h : left - n < 0
  · go_enter Tryd.func13, Tryd.ntmps13
    go_wp2
    go_ret
    exact ⟨-1, rfl, rfl, .inl rfl⟩
  · go_enter Tryd.func13, Tryd.ntmps13
    go_wp2
    go_ret
    exact ⟨left - n, rfl, rfl, .inr ⟨rfl, by omega⟩⟩
theorem zIn_c (x : In) (la : Option Addr) (lc : Nat) (left : Int) (w : World) (h0 : 0 ≤ left) (h1 : left ≤ 1048576) (hn : x.l.length ≤ 9223372036854775807) :
    Calls Tryd.prog 4 #[inV x la lc, .int .i64 left] w fun e w' => ∃ r : Int, e = .returned (.int .i64 r) ∧ Below w.heap.size w w' ∧ (r = -1 ∨ (r = left - x.l.length ∧ 0 ≤ r)) := by
  have H := Hid.mk' (fun w => zI_c la x.l.length lc left w h0 h1 hn)
  go_enter Tryd.func4, Tryd.ntmps4
  go_wp2_with fail
  refine (H.out _).mono ?_
  rintro e w1 ⟨r, rfl, rfl, hr⟩
  rcases hr with rfl | ⟨hr, hr0⟩
  · go_wp2
    go_ret
    exact ⟨-1, rfl, (Below.refl _ _).alloc (Nat.le_refl _) _, .inl rfl⟩
  · have f : ¬ r < 0 := by omega
    have HR := Hid.mk' hr
    clear hr
    go_wp2
    go_ret
    exact ⟨r, rfl, (Below.refl _ _).alloc (Nat.le_refl _) _, .inr ⟨HR.out, hr0⟩⟩
end Go.Proofs.YtgjpgcfpgeonlaaDoor


set_option linter.unusedVariables false
namespace Go.Proofs.YtgjpgcfpgeonlaaDoor
open Go.RowKit Go.ChangeShapes Go.WideShapes Go.ChangeAt
set_option maxRecDepth 100000
theorem c2' : Tryd.prog.cellsOf 2 = 1 := by kernel_rfl
theorem c57' : Tryd.prog.cellsOf 22 = 1 := by kernel_rfl
theorem c27' : Tryd.prog.cellsOf 23 = 1 := by kernel_rfl
theorem c59' : Tryd.prog.cellsOf 25 = 5 := by kernel_rfl
theorem has_take {W : World} {a : Addr} {len : Nat} {zs : List Int} (hl : len ≤ zs.length) (hc : ∀ i, i < zs.length → W.cell? (a.add i) = some (.int .i64 (zs.getD i 0))) : Has W (some a) (zs.take len) := by
  by_cases h0 : len = 0
  · subst h0; exact .inl (by simp)
  · obtain ⟨b, off, spot⟩ := a
    have h1 := hc 0 (by omega)
    have hspot : spot = none := by simpa [Addr.add] using World.cell?_spot h1
    subst hspot
    refine .inr ⟨b, off, rfl, fun i hi => ?_⟩
    have hi' : i < len := by simp at hi; omega
    have h2 := hc i (by omega)
    have e : (zs.take len).getD i 0 = zs.getD i 0 := by simp [List.getD, hi']
    rw [e]
    rwa [Addr.add_lit] at h2
end Go.Proofs.YtgjpgcfpgeonlaaDoor


set_option linter.unusedVariables false
namespace Go.Proofs.YtgjpgcfpgeonlaaDoor
open Go.RowKit Go.Sort
set_option maxRecDepth 100000
theorem fields_c (x : In) (la : Option Addr) (lc : Nat) (w : World) (hg : gd x = true) (hv0 : 0 ≤ x.v) (hv1 : x.v ≤ 18446744073709551615) (hn : x.l.length ≤ 1048576) (hH : Has w la x.l) (hV : Vs w) :
    Calls Tryd.prog 36 #[inV x la lc] w fun e w' => ∃ u, e = .returned u ∧ Wd w' w.heap.size u (fld (formR (rowOf x.op)) x) ∧ Below w.heap.size w w' := by
  obtain ⟨op, a, b, v, l⟩ := x
  simp only [gd] at *
  rcases form_range op with h | h | h | h | h | h | h | h | h | h | h | h
  · rw [h] at hg; simp [goodF] at hg
  · rw [h]; exact f8_0 op a b v l la lc w h hV
  · rw [h] at hg ⊢
    by_cases ha : a = 64
    · subst ha; exact f8_1 op b v l la lc w h hV
    · refine f8_1n op a b v l la lc w h hV ha ?_
      simp [goodF, tyB, ha] at hg
      omega
  · rw [h] at hg ⊢
    simp [goodF, u32B_iff] at hg
    exact f8_2 op a b v l la lc w h hV (by omega) (by omega)
  · rw [h] at hg ⊢
    simp [goodF, u32B_iff] at hg
    refine f8_3 op a b v l la lc w h hV (by omega) (by omega) hn (fun i hi => ?_) hH
    have := hg.1.1.1 (l.getD i 0) (by simp [List.getD, hi])
    omega
  · rw [h] at hg ⊢
    simp [goodF, u32B_iff] at hg
    exact f8_4 op a b v l la lc w h hV (by omega) (by omega)
  · rw [h] at hg ⊢
    simp [goodF, u32B_iff] at hg
    exact f8_5 op a b v l la lc w h hV (by omega) (by omega) (by omega) (by omega)
  · rw [h]; exact f8_6 op a b v l la lc w h hV
  · rw [h] at hg ⊢
    simp [goodF, u32B_iff] at hg
    exact f8_7 op a b v l la lc w h hV hv0 (by omega)
  · rw [h]; exact f8_8 op a b v l la lc w h hV hv0 hv1
  · rw [h] at hg ⊢
    simp [goodF, u32B_iff] at hg
    exact f8_9 op a b v l la lc w h hV hv0 (by omega)
  · rw [h]; exact f8_10 op a b v l la lc w h hV hv0 hv1
theorem strCells_S (l : List UInt8) : Lib.strCells (S l) = U (bI l) := by simp [Lib.strCells, S, U, bI]
theorem join_eq (nm : List UInt8) (r : List (List UInt8)) : Lib.join (((nm :: r).map S).map (·.data.toList)) [32] = nm ++ tl r := by
  rw [List.map_map, show ((fun x : ByteArray => x.data.toList) ∘ S) = id from funext fun l => S_toList l, List.map_id, Lib.join_cons]
  rfl
theorem alloc_size (w : World) (o : Obj) : (w.alloc o).heap.size = w.heap.size + 1 := by simp
theorem own_g (g n c : Nat) : (Value.slice (some ⟨g, 0, none⟩) n c).ownBlock = some g := rfl
theorem join_c (nm : List UInt8) (r : List (List UInt8)) (B : Nat) (v : Value) (w : World) (ho : w.ownsRow B 9 1 v (1 + r.length) (Sv (nm :: r))) (hr : r.length ≤ 1048580) (hl : (nm ++ tl r).length ≤ 1099511627776) :
    Calls Tryd.prog 50 #[v, .string ⟨#[32]⟩] w fun e w' => e = .returned (.string (S (nm ++ tl r))) ∧ Below w.heap.size w w' := by
  rcases ho.2 with ⟨_, h0⟩ | ⟨g, cap, cur, hv, hB, hh, hnc, _⟩
  · omega
  subst hv
  have hcell : ∀ (j : Nat) x, ((nm :: r).map S)[j]? = some x → w.cell? ⟨g, 0 + j, none⟩ = some (.string x) := by
    intro j x hx
    have hj : j < 1 + r.length := by
      rcases Nat.lt_or_ge j (1 + r.length) with h | h
      · exact h
      · rw [List.getElem?_eq_none (by simp; omega)] at hx; cases hx
    rw [Nat.zero_add, ho.cellAt j (by omega)]
    simp only [Sv, List.getElem?_map] at hx ⊢
    cases h : (nm :: r)[j]? with
    | none => rw [h] at hx; cases hx
    | some y => rw [h] at hx; simp at hx ⊢; exact hx
  have hg : g < w.heap.size := (ho.lt g rfl).2
  have hlen : ((nm :: r).map S).length = 1 + r.length := by simp; omega
  have := Tryd.strings_Join g 0 cap ((nm :: r).map S) ⟨#[32]⟩ w hcell hg (by rw [hlen]; omega) (by rw [hlen]; exact hnc) (by
    rw [show (⟨#[32]⟩ : ByteArray).data.toList = [32] from rfl, join_eq]
    omega)
  rw [hlen, show (⟨#[32]⟩ : ByteArray).data.toList = [32] from rfl, join_eq] at this
  exact this
set_option maxHeartbeats 4000000 in
theorem line_nil (p g B : Nat) (nm : List UInt8) (r : List (List UInt8)) (w : World) (hp : w.cell? ⟨p, 0, none⟩ = some (.slice none 0 0)) (hf : w.frozen? ⟨p, 0, none⟩ = false) (hBp : B ≤ p) (hBg : B ≤ g) (hgp : g ≠ p) (hw : w.ownsRow g 9 1 (.slice (some ⟨g, 0, none⟩) 1 1) 1 (Sv [nm])) (hr0 : r = []) (hr : r.length ≤ 1048580) (hl : (nm ++ tl r).length ≤ 1000000000) :
    Calls Tryd.prog 34 #[.pointer (some ⟨p, 0, none⟩), .slice (some ⟨g, 0, none⟩) 1 1, .slice none 0 0] w fun e w' => e = .returned (.tuple #[]) ∧ (∃ v, w'.cell? ⟨p, 0, none⟩ = some v ∧ w'.ownsRow (p + 1) 5 1 v ((nm ++ tl r).length + 1) (U (bI (nm ++ tl r) ++ [10]))) ∧ Below B w w' := by
  obtain ⟨i0, hi, hz0, hz1, hz2⟩ := info_parts Tryd.info9
  obtain ⟨i5, hi5, hy0, hy1, hy2⟩ := info_parts Tryd.info5
  have lp : p < w.heap.size := World.block_lt_of_cell? w _ hp
  have lg : g < w.heap.size := (hw.lt g rfl).2
  have HP := Hid.mk' hp
  have HFz := Hid.mk' hf
  have HW := Hid.mk' hw
  have O3 : Hid (w.ownsRow g 9 1 (.slice (some ⟨g, 0, none⟩) 1 1) (1 + r.length) (Sv (nm :: r))) := by show World.ownsRow _ _ _ _ _ _ _; rw [hr0]; exact hw
  have E3 : Hid (w.heap[p]? = w.heap[p]?) := rfl
  have B3 := Hid.mk' (Below.refl B w)
  have z3 : w.heap.size ≤ w.heap.size := Nat.le_refl _
  have KJ := Hid.mk' (fun (B : Nat) (v : Value) (w : World) ho => join_c nm r B v w ho hr (by omega))
  generalize hM : nm ++ tl r = M at *
  have hSl : (S M).size = M.length := S_size M
  have hsc := Hid.mk' (strCells_S M)
  clear hp hf hw hM hr0
  go_enter Tryd.func34, Tryd.ntmps34
  go_wp2_with (first
    | (go_at_call 50
       refine (KJ.out _ _ _ O3.out).mono ?_
       rintro e w2 ⟨rfl, hb2⟩
       have z2 := hb2.size
       have e2 : w2.heap[p]? = w.heap[p]? := (hb2.block p (by omega)).trans E3.out
       have c2 : w2.cell? ⟨p, 0, none⟩ = some (.slice none 0 0) := (World.cell?_of_block e2).trans HP.out
       have f2 : w2.frozen? ⟨p, 0, none⟩ = false := (World.frozen?_of_block e2).trans HFz.out
       have B2 := Hid.mk' (B3.out.trans (hb2.mono (by omega)))
       clear hb2 e2)
    | (at_builtin
       refine Lib.wpList_append_own_string _ rfl _ _ 27 9 rfl (p + 1) 5 i5 Tryd.underlying27 Tryd.underlying9 hi5 hy0 hy1 hy2 (.slice none 0 0) 0 [] rfl (World.ownsRow_nil _ _ _ _) (S M) rfl (by unfold maxLen; omega) (by omega) (by omega) ?_
       intro v4 w4 own4 gr4 hnn4
       have e4 : w4.heap[p]? = w2.heap[p]? := gr4.block p (by omega) (by simp [Value.ownBlock])
       have c4 : w4.cell? ⟨p, 0, none⟩ = some (.slice none 0 0) := (World.cell?_of_block e4).trans c2
       have f4 : w4.frozen? ⟨p, 0, none⟩ = false := (World.frozen?_of_block e4).trans f2
       have B4 := Hid.mk' (B2.out.grown gr4 (by omega) (fun k hk => by simp [Value.ownBlock] at hk))
       have z4 := gr4.size
       have O4 : Hid (w4.ownsRow (p + 1) 5 1 v4 M.length (U (bI M))) := by show World.ownsRow _ _ _ _ _ _ _; have h := own4; rw [hsc.out, hSl, Nat.zero_add, List.nil_append] at h; exact h
       obtain ⟨va, vc, rfl⟩ := ownE_slice O4.out
       have c5 : (w4.setCell ⟨p, 0, none⟩ (.slice va M.length vc)).cell? ⟨p, 0, none⟩ = some (.slice va M.length vc) := set_same c4
       have O5 : Hid ((w4.setCell ⟨p, 0, none⟩ (.slice va M.length vc)).ownsRow (p + 1) 5 1 (.slice va M.length vc) M.length (U (bI M))) := ownE_set O4.out (fun e => by have := (O4.out.lt p e).1; omega)
       have s5 : Hid ((w4.setCell ⟨p, 0, none⟩ (.slice va M.length vc)).heap.size = w4.heap.size) := by show _ = _; simp [World.setCell]
       have f5 : Hid ((w4.setCell ⟨p, 0, none⟩ (.slice va M.length vc)).frozen? ⟨p, 0, none⟩ = false) := by show _ = _; rw [World.frozen?_setCell]; exact f4
       have C5 := Hid.mk' c5
       have B5 : Hid (Below B w (w4.setCell ⟨p, 0, none⟩ (.slice va M.length vc))) := B4.out.setCell (by simpa using hBp) _
       clear own4 gr4 hnn4 e4 c2 f2)
    | (at_builtin
       have hcn : ∀ (o : Obj) j u, o = .cells #[.int .u8 10] 5 → [Value.int .u8 10][j]? = some u → ((w4.setCell ⟨p, 0, none⟩ (.slice va M.length vc)).alloc o).cell? ((⟨w4.heap.size, 0, none⟩ : Addr).add j) = some u := by
         intro o j u ho hu
         subst ho
         have h := cell_one_new (w4.setCell ⟨p, 0, none⟩ (.slice va M.length vc)) (.int .u8 10) 5 j u hu
         rw [s5.out] at h
         exact h
       have s6 := alloc_size (w4.setCell ⟨p, 0, none⟩ (.slice va M.length vc)) (.cells #[.int .u8 10] 5)
       rw [s5.out] at s6
       refine wpList_append_own _ rfl _ _ 27 rfl (p + 1) 5 i5 (.int .u8 0) 1 1 Tryd.underlying27 hi5 hy0 hy1 hy2 rfl (by decide) (.slice va M.length vc) M.length (U (bI M)) rfl (O5.out.alloc _) ⟨w4.heap.size, 0, none⟩ 1 1 [.int .u8 10] rfl rfl (fun j u hu => hcn _ j u rfl hu) (oneB _) (by unfold maxLen; omega) (by omega) (by rw [s6]; omega) ?_
       intro v6 w6 own6 gr6 hnn6
       have s7 := gr6.size
       rw [s6] at s7
       have e6 : w6.heap[p]? = (w4.setCell ⟨p, 0, none⟩ (.slice va M.length vc)).heap[p]? := (gr6.block p (by rw [s6]; omega) (fun e => by have := (O5.out.lt p e.symm).1; omega)).trans (heap_old (w4.setCell ⟨p, 0, none⟩ (.slice va M.length vc)) _ p (by rw [s5.out]; omega))
       have c6 : w6.cell? ⟨p, 0, none⟩ = some (.slice va M.length vc) := (World.cell?_of_block e6).trans C5.out
       have f6 : w6.frozen? ⟨p, 0, none⟩ = false := (World.frozen?_of_block e6).trans f5.out
       have B6 := Hid.mk' ((B5.out.alloc (by rw [s5.out]; omega) _).grown gr6 (by rw [s6]; omega) (fun k hk => by have := (O5.out.lt k hk).1; omega))
       have O6 : Hid (w6.ownsRow (p + 1) 5 1 v6 (M.length + 1) (U (bI M ++ [10]))) := by show World.ownsRow _ _ _ _ _ _ _; simpa [U] using own6
       obtain ⟨v6a, v6c, rfl⟩ := ownE_slice O6.out
       clear own6 gr6 hnn6 e6 c5 hcn))
  go_end0
  refine ⟨rfl, ⟨_, set_same c6, ?_⟩, B6.out.setCell (by simpa using hBp) _⟩
  exact ownE_set O6.out (fun e => by have := (O6.out.lt p e).1; omega)
set_option maxHeartbeats 4000000 in
theorem line_some (p g B : Nat) (nm : List UInt8) (r : List (List UInt8)) (g2 c2 Bm : Nat) (w : World) (hp : w.cell? ⟨p, 0, none⟩ = some (.slice none 0 0)) (hf : w.frozen? ⟨p, 0, none⟩ = false) (hBp : B ≤ p) (hBg : B ≤ g) (hgp : g ≠ p) (hw : w.ownsRow g 9 1 (.slice (some ⟨g, 0, none⟩) 1 1) 1 (Sv [nm])) (hm : w.ownsRow Bm 9 1 (.slice (some ⟨g2, 0, none⟩) r.length c2) r.length (Sv r)) (hr : r.length ≤ 1048580) (hl : (nm ++ tl r).length ≤ 1000000000) :
    Calls Tryd.prog 34 #[.pointer (some ⟨p, 0, none⟩), .slice (some ⟨g, 0, none⟩) 1 1, .slice (some ⟨g2, 0, none⟩) r.length c2] w fun e w' => e = .returned (.tuple #[]) ∧ (∃ v, w'.cell? ⟨p, 0, none⟩ = some v ∧ w'.ownsRow (p + 1) 5 1 v ((nm ++ tl r).length + 1) (U (bI (nm ++ tl r) ++ [10]))) ∧ Below B w w' := by
  obtain ⟨i0, hi, hz0, hz1, hz2⟩ := info_parts Tryd.info9
  obtain ⟨i5, hi5, hy0, hy1, hy2⟩ := info_parts Tryd.info5
  have lp : p < w.heap.size := World.block_lt_of_cell? w _ hp
  have lg : g < w.heap.size := (hw.lt g rfl).2
  have HP := Hid.mk' hp
  have HFz := Hid.mk' hf
  have HW := Hid.mk' hw
  have HS : Hid (∀ j u, (Sv r)[j]? = some u → w.cell? ((⟨g2, 0, none⟩ : Addr).add j) = some u) := by
    intro j u hu
    have hj : j < r.length := by
      rcases Nat.lt_or_ge j r.length with h | h
      · exact h
      · rw [List.getElem?_eq_none (by simp [Sv]; omega)] at hu; cases hu
    rw [show (⟨g2, 0, none⟩ : Addr).add j = ⟨g2, j, none⟩ by unfold Addr.add; split <;> simp_all, hm.cellAt j (by omega)]
    exact hu
  have hsl : (Sv r).length = r.length * 1 := by simp [Sv]
  have h1c : ∀ u ∈ Sv r, u.oneCell' = true := by
    intro u hu
    simp only [Sv, List.mem_map] at hu
    obtain ⟨y, _, rfl⟩ := hu
    rfl
  have KJ := Hid.mk' (fun (B : Nat) (v : Value) (w : World) ho => join_c nm r B v w ho hr (by omega))
  generalize hM : nm ++ tl r = M at *
  have hSl : (S M).size = M.length := S_size M
  have hsc := Hid.mk' (strCells_S M)
  clear hp hf hw hM hm
  go_enter Tryd.func34, Tryd.ntmps34
  go_wp2_with (first
    | (at_builtin
       refine wpList_append_own _ rfl _ _ 53 rfl g 9 i0 (.string ⟨#[]⟩) 1 16 Tryd.underlying53 hi hz0 hz1 hz2 rfl (by decide) (.slice (some ⟨g, 0, none⟩) 1 1) 1 (Sv [nm]) rfl HW.out ⟨g2, 0, none⟩ r.length c2 (Sv r) rfl hsl HS.out h1c (by unfold maxLen; omega) (by omega) (by omega) ?_
       intro v3 w3 own3 gr3 hnn3
       have O3 : Hid (w3.ownsRow g 9 1 v3 (1 + r.length) (Sv (nm :: r))) := own3
       have E3 : Hid (w3.heap[p]? = w.heap[p]?) := gr3.block p lp (by rw [own_g]; intro e; injection e with e; omega)
       have B3 := Hid.mk' ((Below.refl B w).grown gr3 (by omega) (fun k hk => by rw [own_g] at hk; injection hk with hk; omega))
       have z3 : w.heap.size ≤ w3.heap.size := gr3.size
       obtain ⟨v3a, v3c, rfl⟩ := ownE_slice own3
       clear own3 gr3 hnn3)
    | (go_at_call 50
       refine (KJ.out _ _ _ O3.out).mono ?_
       rintro e w2 ⟨rfl, hb2⟩
       have z2 := hb2.size
       have e2 : w2.heap[p]? = w.heap[p]? := (hb2.block p (by omega)).trans E3.out
       have c2 : w2.cell? ⟨p, 0, none⟩ = some (.slice none 0 0) := (World.cell?_of_block e2).trans HP.out
       have f2 : w2.frozen? ⟨p, 0, none⟩ = false := (World.frozen?_of_block e2).trans HFz.out
       have B2 := Hid.mk' (B3.out.trans (hb2.mono (by omega)))
       clear hb2 e2)
    | (at_builtin
       refine Lib.wpList_append_own_string _ rfl _ _ 27 9 rfl (p + 1) 5 i5 Tryd.underlying27 Tryd.underlying9 hi5 hy0 hy1 hy2 (.slice none 0 0) 0 [] rfl (World.ownsRow_nil _ _ _ _) (S M) rfl (by unfold maxLen; omega) (by omega) (by omega) ?_
       intro v4 w4 own4 gr4 hnn4
       have e4 : w4.heap[p]? = w2.heap[p]? := gr4.block p (by omega) (by simp [Value.ownBlock])
       have c4 : w4.cell? ⟨p, 0, none⟩ = some (.slice none 0 0) := (World.cell?_of_block e4).trans c2
       have f4 : w4.frozen? ⟨p, 0, none⟩ = false := (World.frozen?_of_block e4).trans f2
       have B4 := Hid.mk' (B2.out.grown gr4 (by omega) (fun k hk => by simp [Value.ownBlock] at hk))
       have z4 := gr4.size
       have O4 : Hid (w4.ownsRow (p + 1) 5 1 v4 M.length (U (bI M))) := by show World.ownsRow _ _ _ _ _ _ _; have h := own4; rw [hsc.out, hSl, Nat.zero_add, List.nil_append] at h; exact h
       obtain ⟨va, vc, rfl⟩ := ownE_slice O4.out
       have c5 : (w4.setCell ⟨p, 0, none⟩ (.slice va M.length vc)).cell? ⟨p, 0, none⟩ = some (.slice va M.length vc) := set_same c4
       have O5 : Hid ((w4.setCell ⟨p, 0, none⟩ (.slice va M.length vc)).ownsRow (p + 1) 5 1 (.slice va M.length vc) M.length (U (bI M))) := ownE_set O4.out (fun e => by have := (O4.out.lt p e).1; omega)
       have s5 : Hid ((w4.setCell ⟨p, 0, none⟩ (.slice va M.length vc)).heap.size = w4.heap.size) := by show _ = _; simp [World.setCell]
       have f5 : Hid ((w4.setCell ⟨p, 0, none⟩ (.slice va M.length vc)).frozen? ⟨p, 0, none⟩ = false) := by show _ = _; rw [World.frozen?_setCell]; exact f4
       have C5 := Hid.mk' c5
       have B5 : Hid (Below B w (w4.setCell ⟨p, 0, none⟩ (.slice va M.length vc))) := B4.out.setCell (by simpa using hBp) _
       clear own4 gr4 hnn4 e4 c2 f2)
    | (at_builtin
       have hcn : ∀ (o : Obj) j u, o = .cells #[.int .u8 10] 5 → [Value.int .u8 10][j]? = some u → ((w4.setCell ⟨p, 0, none⟩ (.slice va M.length vc)).alloc o).cell? ((⟨w4.heap.size, 0, none⟩ : Addr).add j) = some u := by
         intro o j u ho hu
         subst ho
         have h := cell_one_new (w4.setCell ⟨p, 0, none⟩ (.slice va M.length vc)) (.int .u8 10) 5 j u hu
         rw [s5.out] at h
         exact h
       have s6 := alloc_size (w4.setCell ⟨p, 0, none⟩ (.slice va M.length vc)) (.cells #[.int .u8 10] 5)
       rw [s5.out] at s6
       refine wpList_append_own _ rfl _ _ 27 rfl (p + 1) 5 i5 (.int .u8 0) 1 1 Tryd.underlying27 hi5 hy0 hy1 hy2 rfl (by decide) (.slice va M.length vc) M.length (U (bI M)) rfl (O5.out.alloc _) ⟨w4.heap.size, 0, none⟩ 1 1 [.int .u8 10] rfl rfl (fun j u hu => hcn _ j u rfl hu) (oneB _) (by unfold maxLen; omega) (by omega) (by rw [s6]; omega) ?_
       intro v6 w6 own6 gr6 hnn6
       have s7 := gr6.size
       rw [s6] at s7
       have e6 : w6.heap[p]? = (w4.setCell ⟨p, 0, none⟩ (.slice va M.length vc)).heap[p]? := (gr6.block p (by rw [s6]; omega) (fun e => by have := (O5.out.lt p e.symm).1; omega)).trans (heap_old (w4.setCell ⟨p, 0, none⟩ (.slice va M.length vc)) _ p (by rw [s5.out]; omega))
       have c6 : w6.cell? ⟨p, 0, none⟩ = some (.slice va M.length vc) := (World.cell?_of_block e6).trans C5.out
       have f6 : w6.frozen? ⟨p, 0, none⟩ = false := (World.frozen?_of_block e6).trans f5.out
       have B6 := Hid.mk' ((B5.out.alloc (by rw [s5.out]; omega) _).grown gr6 (by rw [s6]; omega) (fun k hk => by have := (O5.out.lt k hk).1; omega))
       have O6 : Hid (w6.ownsRow (p + 1) 5 1 v6 (M.length + 1) (U (bI M ++ [10]))) := by show World.ownsRow _ _ _ _ _ _ _; simpa [U] using own6
       obtain ⟨v6a, v6c, rfl⟩ := ownE_slice O6.out
       clear own6 gr6 hnn6 e6 c5 hcn))
  go_end0
  refine ⟨rfl, ⟨_, set_same c6, ?_⟩, B6.out.setCell (by simpa using hBp) _⟩
  exact ownE_set O6.out (fun e => by have := (O6.out.lt p e).1; omega)
end Go.Proofs.YtgjpgcfpgeonlaaDoor

set_option linter.unusedVariables false
namespace Go.Proofs.YtgjpgcfpgeonlaaDoor
open Go.RowKit Go.Sort
set_option maxRecDepth 100000
theorem line_c (p g B Bm : Nat) (nm : List UInt8) (r : List (List UInt8)) (vm : Value) (w : World) (hp : w.cell? ⟨p, 0, none⟩ = some (.slice none 0 0)) (hf : w.frozen? ⟨p, 0, none⟩ = false) (hBp : B ≤ p) (hBg : B ≤ g) (hgp : g ≠ p) (hw : w.ownsRow g 9 1 (.slice (some ⟨g, 0, none⟩) 1 1) 1 (Sv [nm])) (hm : Wd w Bm vm r) (hr : r.length ≤ 1048580) (hl : (nm ++ tl r).length ≤ 1000000000) :
    Calls Tryd.prog 34 #[.pointer (some ⟨p, 0, none⟩), .slice (some ⟨g, 0, none⟩) 1 1, vm] w fun e w' => e = .returned (.tuple #[]) ∧ (∃ v, w'.cell? ⟨p, 0, none⟩ = some v ∧ w'.ownsRow (p + 1) 5 1 v ((nm ++ tl r).length + 1) (U (bI (nm ++ tl r) ++ [10]))) ∧ Below B w w' := by
  have hm' := hm
  rcases hm.2 with ⟨e, h0⟩ | ⟨g2, cap, cur, hv, hB, hh, hnc, _⟩
  · subst e
    exact line_nil p g B nm r w hp hf hBp hBg hgp hw (List.length_eq_zero_iff.1 h0) hr hl
  · subst hv
    exact line_some p g B nm r g2 cap Bm w hp hf hBp hBg hgp hw hm' hr hl
theorem fld_len (x : In) (hg : gd x = true) (hv0 : 0 ≤ x.v) (hv1 : x.v ≤ 18446744073709551615) (hn : x.l.length ≤ 1048576) : (fld (formR (rowOf x.op)) x).length ≤ 1048580 ∧ (lnX x).length ≤ 100000000 := by
  have h1 : (fld (formR (rowOf x.op)) x).length ≤ 1048577 := by
    unfold fld
    repeat' split
    all_goals simp
    all_goals omega
  have h2 : ∀ y ∈ fld (formR (rowOf x.op)) x, y.length ≤ 21 := by
    intro y hy
    have hi : ∀ n : Int, -9223372036854775808 ≤ n → n ≤ 9223372036854775807 → (Lib.itoa n).length ≤ 21 := fun n a b => itoa_len n a b
    have h3 : -9223372036854775808 ≤ wrap32 x.v ∧ wrap32 x.v ≤ 9223372036854775807 := by unfold wrap32; omega
    have h4 : -9223372036854775808 ≤ wrap64 x.v ∧ wrap64 x.v ≤ 9223372036854775807 := by unfold wrap64; omega
    obtain ⟨op, a, b, v, l⟩ := x
    simp only [gd] at *
    rcases form_range op with h | h | h | h | h | h | h | h | h | h | h | h
    all_goals rw [h] at hg hy
    all_goals simp [goodF, u32B_iff, fld] at hg hy
    · obtain ⟨_, rfl⟩ := hy; rw [typT_len]; omega
    · subst hy; exact hi a (by omega) (by omega)
    · rcases hy with ⟨z, hz, rfl⟩ | rfl
      · have := hg.1.1.1 z hz; exact hi z (by omega) (by omega)
      · exact hi a (by omega) (by omega)
    · subst hy; exact hi a (by omega) (by omega)
    · rcases hy with rfl | rfl
      · exact hi a (by omega) (by omega)
      · exact hi b (by omega) (by omega)
    · subst hy; exact hi _ h3.1 h3.2
    · subst hy; exact hi _ h4.1 h4.2
    · subst hy; rw [bits_len]; omega
    · subst hy; rw [bits_len]; omega
  refine ⟨by omega, ?_⟩
  have := tl_len 21 _ h2
  have h5 := nmL_len x.op
  simp only [lnX, lnT, List.length_append]
  omega
theorem cells5 {W : World} {b : Nat} {x : In} {la : Option Addr} {lc : Nat} (h : C5 W b 0 (.int .i64 x.op) (.int .i64 x.a) (.int .i64 x.b) (.int .u64 x.v) (.slice la x.l.length lc)) : W.cell? ⟨b, 0, none⟩ = some (.int .i64 x.op) ∧ W.cell? ⟨b, 1, none⟩ = some (.int .i64 x.a) ∧ W.cell? ⟨b, 2, none⟩ = some (.int .i64 x.b) ∧ W.cell? ⟨b, 3, none⟩ = some (.int .u64 x.v) ∧ W.cell? ⟨b, 4, none⟩ = some (.slice la x.l.length lc) := ⟨h.1.1, h.1.2.1, h.1.2.2.1, h.1.2.2.2.1, h.1.2.2.2.2⟩
set_option maxHeartbeats 4000000 in
theorem pins_c (p : Nat) (x : In) (la : Option Addr) (lc : Nat) (w : World) (hp : w.cell? ⟨p, 0, none⟩ = some (.slice none 0 0)) (hf : w.frozen? ⟨p, 0, none⟩ = false) (hg : gd x = true) (hv0 : 0 ≤ x.v) (hv1 : x.v ≤ 18446744073709551615) (hn : x.l.length ≤ 1048576) (hH : Has w la x.l) (hV : Vs w) :
    Calls Tryd.prog 18 #[.pointer (some ⟨p, 0, none⟩), inV x la lc] w fun e w' => e = .returned (.tuple #[]) ∧ (∃ v, w'.cell? ⟨p, 0, none⟩ = some v ∧ w'.ownsRow (p + 1) 5 1 v ((lnX x).length + 1) (U (bI (lnX x) ++ [10]))) ∧ Below p w w' := by
  have lp : p < w.heap.size := World.block_lt_of_cell? w _ hp
  obtain ⟨hfl, hll⟩ := fld_len x hg hv0 hv1 hn
  have KN := Hid.mk' (fun w => iname_c x.op w)
  rw [nmL_S] at KN
  have KF := Hid.mk' (fun (W : World) (h : Below w.heap.size w W) => fields_c x la lc W hg hv0 hv1 hn (hH.keep h) (hV.keep h))
  have KL := Hid.mk' (fun (g Bm : Nat) (vm : Value) (W : World) (h : Below w.heap.size w W) (hgl : w.heap.size ≤ g) (hw : W.ownsRow g 9 1 (.slice (some ⟨g, 0, none⟩) 1 1) 1 (Sv [nmL x.op])) (hm : Wd W Bm vm (fld (formR (rowOf x.op)) x)) => line_c p g p Bm (nmL x.op) (fld (formR (rowOf x.op)) x) vm W ((h.cell (p := ⟨p, 0, none⟩) lp).trans hp) ((h.frozen (p := ⟨p, 0, none⟩) lp).trans hf) (Nat.le_refl _) (by omega) (by omega) hw hm hfl (by have := hll; simp only [lnX, lnT] at this; omega))
  rw [show nmL x.op ++ tl (fld (formR (rowOf x.op)) x) = lnX x from rfl] at KL
  generalize lnX x = M at *
  generalize fld (formR (rowOf x.op)) x = R at *
  generalize nmL x.op = N at *
  have hC : C5 (w.alloc (.cells #[.int .i64 x.op, .int .i64 x.a, .int .i64 x.b, .int .u64 x.v, .slice la x.l.length lc] 29)) w.heap.size 0 (.int .i64 x.op) (.int .i64 x.a) (.int .i64 x.b) (.int .u64 x.v) (.slice la x.l.length lc) := C5.new
  have HC := Hid.mk' hC
  have B0 := Hid.mk' (show Below w.heap.size w (w.alloc (.cells #[.int .i64 x.op, .int .i64 x.a, .int .i64 x.b, .int .u64 x.v, .slice la x.l.length lc] 29)) from (Below.refl _ _).alloc (Nat.le_refl _) _)
  obtain ⟨c0, c1, c2, c3, c4⟩ := cells5 hC
  clear hp hf hH hV hg hv0 hv1 hC hfl hll
  go_enter Tryd.func18, Tryd.ntmps18
  go_wp2_with fail
  go_region_law (first
    | (go_simp
       go_at_call 35
       refine (KN.out _).mono ?_
       rintro e w1 ⟨rfl, hb1⟩
       have hb1' : Below (w.alloc (.cells #[.int .i64 x.op, .int .i64 x.a, .int .i64 x.b, .int .u64 x.v, .slice la x.l.length lc] 29)).heap.size (w.alloc (.cells #[.int .i64 x.op, .int .i64 x.a, .int .i64 x.b, .int .u64 x.v, .slice la x.l.length lc] 29)) w1 := (Below.refl _ _).drew.trans hb1
       have C1 := Hid.mk' (HC.out.keep hb1')
       have B1 := Hid.mk' (B0.out.trans (hb1'.mono (by simp)))
       obtain ⟨d0, d1, d2, d3, d4⟩ := cells5 C1.out
       have D1 := Hid.mk' (fun (o : Obj) => cells5 (C1.out.keep ((Below.refl _ _).alloc (Nat.le_refl _) o)))
       obtain ⟨g0, g1, g2, g3, g4⟩ := D1.out (.cells #[.string (S N)] 9)
       clear hb1 hb1' c0 c1 c2 c3 c4)
    | (go_simp
       go_at_call 36
       refine (KF.out _ (by first | exact B1.out | exact B1.out.alloc B1.out.size _)).mono ?_
       rintro e w2 ⟨u2, rfl, hu2, hb2⟩
       have HK := Hid.mk' (fun (B : Nat) (v : Value) (n : Nat) (xs : List Value) h => ownE_keep (B := B) (e := 9) (n := n) (v := v) (xs := xs) h hb2 (Nat.le_refl _))
       have B2 : Hid (Below w.heap.size w w2) := by first | exact B1.out.trans (hb2.mono B1.out.size) | exact (B1.out.alloc B1.out.size _).trans (hb2.mono (by have := B1.out.size; simp; omega))
       have U2 := Hid.mk' hu2
       clear hb2 hu2)
    | (go_simp
       go_at_call 34
       first
         | (refine (KL.out w1.heap.size _ _ w2 B2.out B1.out.size (HK.out _ _ _ _ (World.ownsRow_lit w1 #[.string (S N)] 1 (Nat.le_refl _) (by unfold maxLen; omega) rfl)) U2.out).mono ?_
            rintro e w3 ⟨rfl, hv3, hb3⟩
            have V3 := Hid.mk' hv3
            have B3 := Hid.mk' ((B2.out.mono (Nat.le_of_lt lp)).trans hb3)
            clear hv3 hb3)
         | (refine (KL.out w2.heap.size _ _ (w2.alloc (.cells #[.string (S N)] 9)) (B2.out.alloc B2.out.size _) B2.out.size (World.ownsRow_lit w2 #[.string (S N)] 1 (Nat.le_refl _) (by unfold maxLen; omega) rfl) (ownE_keep U2.out ((Below.refl _ _).alloc (Nat.le_refl _) _) (Nat.le_refl _))).mono ?_
            rintro e w3 ⟨rfl, hv3, hb3⟩
            have V3 := Hid.mk' hv3
            have B3 := Hid.mk' (((B2.out.alloc B2.out.size _).mono (Nat.le_of_lt lp)).trans hb3)
            clear hv3 hb3)))
  all_goals
    go_wp2
    go_end0
    exact ⟨rfl, V3.out, B3.out⟩
end Go.Proofs.YtgjpgcfpgeonlaaDoor

set_option linter.unusedVariables false
namespace Go.Proofs.YtgjpgcfpgeonlaaDoor
open Go.RowKit Go.Sort
set_option maxRecDepth 100000
theorem own_cut {w : World} {B g n c : Nat} {L : List Int} {y : Int} (h : w.ownsRow B 5 1 (.slice (some ⟨g, 0, none⟩) (n + 1) c) (n + 1) (U (L ++ [y]))) (hn : L.length = n) : w.ownsRow B 5 1 (.slice (some ⟨g, 0, none⟩) n c) n (U L) := by
  refine ⟨by simp [hn], ?_⟩
  rcases h.2 with ⟨e, _⟩ | ⟨g', cap, cur, hv, hB, hh, hnc, hm, hs, ht⟩
  · cases e
  · simp only [Value.slice.injEq, Option.some.injEq, Addr.mk.injEq, true_and, and_true] at hv
    obtain ⟨rfl, rfl⟩ := hv
    refine .inr ⟨g, c, cur, rfl, hB, hh, by omega, hm, hs, ?_⟩
    have h2 := congrArg (List.take n) ht
    rw [List.take_take, Nat.mul_one] at h2
    rw [Nat.mul_one, show min n (n + 1) = n by omega] at *
    rw [h2]
    simp [U, hn]
set_option maxHeartbeats 4000000 in
theorem iprt_c (x : In) (la : Option Addr) (lc : Nat) (w : World) (hv0 : 0 ≤ x.v) (hv1 : x.v ≤ 18446744073709551615) (hn : x.l.length ≤ 1048576) (hH : Has w la x.l) (hV : Vs w) :
    Calls Tryd.prog 7 #[inV x la lc] w fun e w' => ∃ v, e = .returned v ∧ w'.ownsRow w.heap.size 5 1 v (prtM x).length (U (prtM x)) ∧ Below w.heap.size w w' := by
  have b0 : ∀ o, Below w.heap.size w (w.alloc o) := fun o => (Below.refl _ _).alloc (Nat.le_refl _) o
  have KG := Hid.mk' (fun o => isIns_c x la lc (w.alloc o) hv0 (by omega) (hH.keep (b0 o)))
  have HC := Hid.mk' (C5.new (w := w) (a := .int .i64 x.op) (b := .int .i64 x.a) (c := .int .i64 x.b) (d := .int .u64 x.v) (e := .slice la x.l.length lc) (t := 29))
  have HHH := Hid.mk' hH
  have HVV := Hid.mk' hV
  have B0 := Hid.mk' b0
  cases hg : gd x
  · have HE : Hid (prtM x = []) := by show _ = _; simp [prtM, hg]
    rw [hg] at KG
    clear hg hH b0 hV
    go_enter Tryd.func7, Tryd.ntmps7
    go_wp2_with fail
    refine (KG.out _).mono ?_
    rintro e w1 ⟨rfl, hb⟩
    have HB := Hid.mk' ((B0.out _).trans (hb.mono (by simp)))
    clear hb KG HC
    go_wp2
    go_ret
    refine ⟨_, rfl, ?_, HB.out.alloc HB.out.size _⟩
    rw [HE.out]
    exact World.ownsRow_lit w1 #[] 0 HB.out.size (Nat.zero_le _) rfl
  · have HE : Hid (prtM x = bI (lnX x)) := by show _ = _; simp [prtM, hg]
    have HG := Hid.mk' hg
    have hll := (fld_len x hg hv0 hv1 hn).2
    rw [hg] at KG
    clear hg hH b0 hV
    go_enter Tryd.func7, Tryd.ntmps7
    go_wp2_with fail
    refine (KG.out _).mono ?_
    rintro e w1 ⟨rfl, hb⟩
    have HB := Hid.mk' ((B0.out _).trans (hb.mono (by simp)))
    have C1 := Hid.mk' (HC.out.keep hb)
    have z1 := HB.out.size
    have KP := Hid.mk' (fun (o : Obj) (hp : (w1.alloc o).cell? ⟨w1.heap.size, 0, none⟩ = some (.slice none 0 0)) (hf : (w1.alloc o).frozen? ⟨w1.heap.size, 0, none⟩ = false) => pins_c w1.heap.size x la lc (w1.alloc o) hp hf HG.out hv0 hv1 hn (HHH.out.keep (HB.out.alloc HB.out.size o)) (HVV.out.keep (HB.out.alloc HB.out.size o)))
    obtain ⟨d0, d1, d2, d3, d4⟩ := cells5 C1.out
    have D1 := Hid.mk' (fun (o : Obj) => cells5 (C1.out.keep ((Below.refl _ _).alloc (Nat.le_refl _) o)))
    obtain ⟨g0, g1, g2, g3, g4⟩ := D1.out (.cells #[.slice none 0 0] 41)
    clear hb KG HC
    generalize lnX x = M at *
    go_wp2_with fail
    refine (KP.out _ (by simp) (by simp)).mono ?_
    rintro e w2 ⟨rfl, ⟨v, c2, o2⟩, hb2⟩
    have hlen : (bI M).length = M.length := bI_len M
    obtain ⟨g, cap, rfl, hBg, _⟩ := By.own_split o2 (by omega)
    have O2 := Hid.mk' o2
    have B2 := Hid.mk' ((HB.out.alloc HB.out.size _).trans (hb2.mono z1))
    have hcap : M.length + 1 ≤ cap := by
      rcases o2.2 with ⟨e, _⟩ | ⟨g', cap', cur, hv, _, _, hnc, _⟩
      · cases e
      · simp only [Value.slice.injEq, Option.some.injEq, Addr.mk.injEq, true_and, and_true] at hv
        obtain ⟨_, rfl⟩ := hv
        exact hnc
    have hsub : IntKind.i64.wrap (((M.length + 1 : Nat) : Int) - 1) = (M.length : Int) := by rw [IntKind.wrap_i64]; omega
    clear o2 hb2 KP
    go_wp2
    go_ret
    refine ⟨_, rfl, ?_, B2.out⟩
    rw [HE.out, hlen]
    exact ownE_down (own_cut O2.out hlen) (by omega)
theorem prtM_len (x : In) (hv0 : 0 ≤ x.v) (hv1 : x.v ≤ 18446744073709551615) (hn : x.l.length ≤ 1048576) : (prtM x).length ≤ 100000000 := by
  unfold prtM
  split
  · rename_i h
    rw [bI_len]
    exact (fld_len x h hv0 hv1 hn).2
  · simp
theorem RowB.keep {w w' : World} {B : Nat} {v : Value} {M : List Int} (h : RowB w B v M) (hb : Below w.heap.size w w') : RowB w' B v M := by
  obtain ⟨a, c, rfl, hh, hl⟩ := h
  refine ⟨a, c, rfl, ?_, fun k hk => ⟨(hl k hk).1, Nat.lt_of_lt_of_le (hl k hk).2 hb.size⟩⟩
  rcases hh with hh | ⟨b, o, e, hc⟩
  · exact .inl hh
  · exact .inr ⟨b, o, e, fun i hi => by have := hc i hi; rw [hb.cell (World.block_lt_of_cell? w _ this)]; exact this⟩
theorem RowB.grown {w w' : World} {B : Nat} {v : Value} {M : List Int} {r : Option Nat} (h : RowB w B v M) (hg : w.grownBy w' r) (hne : ∀ k, v.ownBlock = some k → r ≠ some k) : RowB w' B v M := by
  obtain ⟨a, c, rfl, hh, hl⟩ := h
  refine ⟨a, c, rfl, ?_, fun k hk => ⟨(hl k hk).1, Nat.lt_of_lt_of_le (hl k hk).2 hg.size⟩⟩
  rcases hh with hh | ⟨b, o, e, hc⟩
  · exact .inl hh
  · subst e
    refine .inr ⟨b, o, rfl, fun i hi => ?_⟩
    have h1 := hc i hi
    rw [World.cell?_of_block (hg.block b (World.block_lt_of_cell? w _ h1) (fun e => hne b rfl e.symm))]
    exact h1
theorem eqW (B B' : Nat) (v v' : Value) (xs : List Int) (w : World) (hl : xs.length ≤ 1099511627776) (h : w.ownsRow B 5 1 v xs.length (U xs)) (h' : RowB w B' v' xs) :
    Calls Tryd.prog 8 #[v, v'] w fun e w' => e = .returned (.bool true) ∧ ∃ n, w' = w.drewN n := by
  obtain ⟨a, c, rfl, k⟩ := By.own_shape h
  obtain ⟨a', c', rfl, k', _⟩ := h'
  exact By.eq_any a a' c c' xs w hl k k'
end Go.Proofs.YtgjpgcfpgeonlaaDoor

set_option linter.unusedVariables false
namespace Go.Proofs.YtgjpgcfpgeonlaaDoor
open Go.RowKit Go.Sort
set_option maxRecDepth 100000
theorem RowB.lt {w : World} {B : Nat} {v : Value} {M : List Int} (h : RowB w B v M) : ∀ k, v.ownBlock = some k → B ≤ k ∧ k < w.heap.size := by
  obtain ⟨a, c, _, _, hl⟩ := h
  exact hl
set_option maxHeartbeats 8000000 in
theorem lawPrt (x : In) (la : Option Addr) (lc : Nat) (w : World) (hv0 : 0 ≤ x.v) (hv1 : x.v ≤ 18446744073709551615) (hln : x.l.length ≤ 9223372036854775807) (hH : Has w la x.l) (hV : Vs w) :
    Calls Tryd.prog 3 #[inV x la lc] w fun e w' => e = .returned (.bool true) ∧ Below w.heap.size w w' := by
  obtain ⟨W, hW⟩ : ∃ W, W = w.alloc (.cells #[.int .i64 x.op, .int .i64 x.a, .int .i64 x.b, .int .u64 x.v, .slice la x.l.length lc] 25) := ⟨_, rfl⟩
  have hC : cA W w.heap.size x la lc := by rw [hW]; exact C5.new
  have bW : Below w.heap.size w W := by rw [hW]; exact (Below.refl _ _).alloc (Nat.le_refl _) _
  have hws : W.heap.size = w.heap.size + 1 := by rw [hW]; simp
  have HZ := Hid.mk' (zIn_c x la lc 1048576 W (by omega) (by omega) hln)
  have HW := Hid.mk' hW
  have HC := Hid.mk' hC
  have BW := Hid.mk' bW
  have HH := Hid.mk' (hH.keep bW)
  have HVW := Hid.mk' (hV.keep bW)
  obtain ⟨⟨a0, a1, a2, a3, a4⟩, af⟩ := id hC
  clear hW hC bW hH af hV
  go_enter Tryd.func3, Tryd.ntmps3
  go_wp2_with fail
  rw [show w.alloc (.cells #[.int .i64 x.op, .int .i64 x.a, .int .i64 x.b, .int .u64 x.v, .slice la x.l.length lc] 25) = W from HW.out.symm]
  refine HZ.out.mono ?_
  rintro e w1 ⟨r, rfl, b1, hr⟩
  have B1 := Hid.mk' b1
  clear HW HZ b1 a0 a1 a2 a3 a4
  rcases hr with rfl | ⟨hr, hr0⟩
  · go_wp2
    go_ret
    exact ⟨rfl, BW.out.trans (B1.out.mono (by omega))⟩
  have hn : x.l.length ≤ 1048576 := by omega
  have f : ¬ r < 0 := by omega
  have KT := Hid.mk' (fun (V : World) (h : Below W.heap.size W V) => toIn_c x la lc V hn (HH.out.keep h))
  have KS := Hid.mk' (fun (a : Option Addr) (c : Nat) (V : World) (h : Has V a x.l) => sprt_c x a c V hv0 hv1 hn h)
  have KI := Hid.mk' (fun (a : Option Addr) (c : Nat) (V : World) (h : Has V a x.l) (hv : Vs V) => iprt_c x a c V hv0 hv1 hn h hv)
  have KE := Hid.mk' (fun (a a' : Option Addr) (c c' : Nat) (V : World) (h : Has V a x.l) (h' : Has V a' x.l) => eqIn_c x a a' c c' V (by omega) h h')
  have KM := Hid.mk' (fun (B g : Nat) (V : World) (h : Got V B x g) => markIn_c B g x V hn h)
  have hML := prtM_len x hv0 hv1 hn
  generalize prtM x = M at *
  have hMl : M.length ≤ 1099511627776 := by omega
  clear hr hr0
  obtain ⟨⟨a0, a1, a2, a3, a4⟩, af⟩ := HC.out.keep B1.out
  clear af
  go_wp2_with fail
  refine (KT.out _ B1.out).mono ?_
  rintro e w2 ⟨g2, rfl, hg2, b2⟩
  have H2 := Hid.mk' (own_has hg2)
  have B2 := Hid.mk' (B1.out.trans (b2.mono B1.out.size))
  clear hg2 b2 a0 a1 a2 a3 a4
  go_wp2_with fail
  refine (KS.out _ _ _ H2.out).mono ?_
  rintro e w3 ⟨v0, rfl, o0, b3⟩
  have B3 := Hid.mk' (B2.out.trans (b3.mono B2.out.size))
  have O0 := Hid.mk' o0
  obtain ⟨⟨a0, a1, a2, a3, a4⟩, af⟩ := HC.out.keep B3.out
  clear o0 b3 H2 af
  go_wp2_with fail
  refine (KT.out _ B3.out).mono ?_
  rintro e w4 ⟨g4, rfl, hg4, b4⟩
  have B4 := Hid.mk' (B3.out.trans (b4.mono B3.out.size))
  have O4 := Hid.mk' (O0.out.keep b4)
  have lo4 : ∀ k, v0.ownBlock = some k → k < w3.heap.size := fun k hk => (RowB.lt O0.out k hk).2
  obtain ⟨z4, z4'⟩ := hg4.lt g4 rfl
  obtain ⟨V, hV⟩ : ∃ V, V = w4.alloc (.cells #[.int .i64 x.op, .int .i64 x.a, .int .i64 x.b, .int .u64 x.v, .slice (some ⟨g4, 0, none⟩) x.l.length x.l.length] 29) := ⟨_, rfl⟩
  have bV : Below w4.heap.size w4 V := by rw [hV]; exact (Below.refl _ _).alloc (Nat.le_refl _) _
  have hVs : V.heap.size = w4.heap.size + 1 := by rw [hV]; simp
  have XC := Hid.mk' (show cA V w4.heap.size x (some ⟨g4, 0, none⟩) x.l.length by rw [hV]; exact C5.new)
  have B5 := Hid.mk' (B4.out.trans (bV.mono B4.out.size))
  have O5 := Hid.mk' (O4.out.keep bV)
  have G5 := Hid.mk' (hg4.keep bV)
  have HV := Hid.mk' hV
  have LO := Hid.mk' lo4
  obtain ⟨⟨x0, x1, x2, x3, x4⟩, xf⟩ := XC.out
  clear hg4 b4 a0 a1 a2 a3 a4 hV bV O0 O4 lo4 xf
  go_wp2_with fail
  rw [show w4.alloc (.cells #[.int .i64 x.op, .int .i64 x.a, .int .i64 x.b, .int .u64 x.v, .slice (some ⟨g4, 0, none⟩) x.l.length x.l.length] 29) = V from HV.out.symm]
  refine (KI.out _ _ _ (own_has G5.out) (HVW.out.keep B5.out)).mono ?_
  rintro e w6 ⟨v1, rfl, o1, b6⟩
  have B6 := Hid.mk' (B5.out.trans (b6.mono B5.out.size))
  have O06 := Hid.mk' (O5.out.keep b6)
  have O16 := Hid.mk' o1
  have X6 := Hid.mk' (XC.out.keep b6)
  have A6 := Hid.mk' (HC.out.keep B6.out)
  have G6 := Hid.mk' (G5.out.keep b6)
  have z6 := b6.size
  clear o1 b6 HV O5 XC G5 x0 x1 x2 x3 x4
  go_wp2_with fail
  refine (eqW _ _ _ _ M _ hMl O16.out O06.out).mono ?_
  rintro e w7 ⟨rfl, n7, rfl⟩
  have B7 := Hid.mk' (below_drewN' B6.out n7)
  have O07 := Hid.mk' (show RowB (w6.drewN n7) w2.heap.size v0 M from O06.out)
  have O17 := Hid.mk' (show (w6.drewN n7).ownsRow V.heap.size 5 1 v1 M.length (U M) from O16.out)
  have X7 := Hid.mk' (show cA (w6.drewN n7) w4.heap.size x (some ⟨g4, 0, none⟩) x.l.length from X6.out)
  have A7 := Hid.mk' (show cA (w6.drewN n7) w.heap.size x la lc from A6.out)
  have G7 := Hid.mk' (show Got (w6.drewN n7) w3.heap.size x g4 from G6.out)
  have z7 : V.heap.size ≤ (w6.drewN n7).heap.size := z6
  clear B6 O06 O16 X6 A6 G6 z6
  generalize w6.drewN n7 = w7 at *
  have KA := Hid.mk' (show cA w7.drew w.heap.size x la lc from A7.out)
  have KX := Hid.mk' (show cA w7.drew w4.heap.size x (some ⟨g4, 0, none⟩) x.l.length from X7.out)
  go_wp2_with fail
  go_region_held3 (fun w' => w'.cell? ⟨w.heap.size, 0, none⟩ = some (.int .i64 x.op) ∧ w'.cell? ⟨w.heap.size, 1, none⟩ = some (.int .i64 x.a) ∧ w'.cell? ⟨w.heap.size, 2, none⟩ = some (.int .i64 x.b) ∧ w'.cell? ⟨w.heap.size, 3, none⟩ = some (.int .u64 x.v) ∧ w'.cell? ⟨w.heap.size, 4, none⟩ = some (.slice la x.l.length lc) ∧ w'.cell? ⟨w4.heap.size, 0, none⟩ = some (.int .i64 x.op) ∧ w'.cell? ⟨w4.heap.size, 1, none⟩ = some (.int .i64 x.a) ∧ w'.cell? ⟨w4.heap.size, 2, none⟩ = some (.int .i64 x.b) ∧ w'.cell? ⟨w4.heap.size, 3, none⟩ = some (.int .u64 x.v) ∧ w'.cell? ⟨w4.heap.size, 4, none⟩ = some (.slice (some ⟨g4, 0, none⟩) x.l.length x.l.length)) (exact s10 KA.out KX.out)
    (first
      | (go_at_call 6
         refine (KT.out _ B7.out.drew).mono ?_
         rintro e w8 ⟨g8, rfl, hg8, b8⟩
         have B8 := Hid.mk' (B7.out.drew.trans (b8.mono B7.out.size))
         have H8 := Hid.mk' (own_has hg8)
         have H48 := Hid.mk' (own_has (Got.keep (show Got w7.drew w3.heap.size x g4 from G7.out) b8))
         have S8 := Hid.mk' (show Below w7.heap.size w7 w8 from ⟨b8.os, b8.tape, b8.output, b8.size, b8.block⟩)
         replace KA := Hid.mk' (A7.out.keep S8.out)
         replace KX := Hid.mk' (X7.out.keep S8.out)
         clear hg8 b8)
      | (go_at_call 9
         refine (KE.out _ _ _ _ _ H48.out H8.out).mono ?_
         rintro e w9 ⟨rfl, b9⟩
         have B9 := Hid.mk' (B8.out.trans (b9.mono B8.out.size))
         have S9 := Hid.mk' (S8.out.trans (b9.mono S8.out.size))
         replace KA := Hid.mk' (A7.out.keep S9.out)
         replace KX := Hid.mk' (X7.out.keep S9.out)
         clear b9 H8 H48 B8 S8))
  have O09 := Hid.mk' (O07.out.keep S9.out)
  have O19 := Hid.mk' (ownE_keep O17.out S9.out (Nat.le_refl _))
  have G9 := Hid.mk' (G7.out.keep S9.out)
  have z9 : V.heap.size ≤ w9.heap.size := Nat.le_trans z7 S9.out.size
  obtain ⟨⟨x0, x1, x2, x3, x4⟩, xf⟩ := KX.out
  clear O07 O17 G7 S9 A7 X7 B7 xf
  go_wp2_with fail
  refine (KM.out _ _ _ G9.out).mono ?_
  rintro e w10 ⟨rfl, hg10⟩
  have z10 := hg10.size
  have l3 := B3.out.size
  have B10 := Hid.mk' (B9.out.grown hg10 B9.out.size (fun k hk => by simp at hk; omega))
  have O010 := Hid.mk' (O09.out.grown hg10 (fun k hk => by have := LO.out k hk; simp; omega))
  have O110 := Hid.mk' (ownE_grown O19.out hg10 (fun k hk => by have := (O19.out.lt k hk).1; simp; omega))
  clear O09 O19 hg10 G9 KA KX x0 x1 x2 x3 x4 KM KE
  have hk1 : ¬ (1 + (x.l.length : Int)) < 0 := by omega
  have hd1 : decide ((1 + (x.l.length : Int)) < 0) = false := decide_eq_false hk1
  go_wp2_with fail
  refine (eqW _ _ _ _ M _ hMl O110.out O010.out).mono ?_
  rintro e w11 ⟨rfl, n11, rfl⟩
  have B11 := Hid.mk' (below_drewN' B10.out n11)
  have O011 := Hid.mk' (show RowB (w10.drewN n11) w2.heap.size v0 M from O010.out)
  have O111 := Hid.mk' (show (w10.drewN n11).ownsRow V.heap.size 5 1 v1 M.length (U M) from O110.out)
  have z11 : V.heap.size ≤ (w10.drewN n11).heap.size := Nat.le_trans z9 z10
  clear O010 O110
  generalize w10.drewN n11 = w11 at *
  go_wp2_with fail
  refine (By.markV _ _ _ M _ hMl O111.out).mono ?_
  rintro e w12 ⟨rfl, o12, hg12⟩
  have z12 := hg12.size
  have B12 := Hid.mk' (B11.out.grown hg12 B11.out.size (fun k hk => by have := (O111.out.lt k hk).1; have := B5.out.size; omega))
  have O012 := Hid.mk' (O011.out.grown hg12 (fun k hk e => by have := LO.out k hk; have := (O111.out.lt k e).1; omega))
  have O112 := Hid.mk' o12
  clear O011 O111 hg12 o12
  go_wp2_with fail
  refine (By.heldV _ _ _ _ hMl O112.out).mono ?_
  rintro e w13 ⟨rfl, rfl⟩
  have hq1 : ¬ (1 + (M.length : Int)) < 0 := by omega
  have hq2 : ((1 + (M.length : Int)) != (1 + (M.length : Int))) = false := by simp
  obtain ⟨⟨a0, a1, a2, a3, a4⟩, af⟩ := HC.out.keep B12.out
  clear af
  go_wp2_with fail
  refine (KT.out _ B12.out).mono ?_
  rintro e w14 ⟨g14, rfl, hg14, b14⟩
  have O014 := Hid.mk' (O012.out.keep b14)
  have O114 := Hid.mk' (ownE_keep O112.out b14 (Nat.le_refl _))
  have B14 := Hid.mk' (B12.out.trans (b14.mono B12.out.size))
  have H14 := Hid.mk' (own_has hg14)
  clear hg14 b14 a0 a1 a2 a3 a4 O012 O112
  go_wp2_with fail
  refine (KI.out _ _ _ H14.out (HVW.out.keep B14.out)).mono ?_
  rintro e w15 ⟨v2, rfl, o15, b15⟩
  have O015 := Hid.mk' (O014.out.keep b15)
  have O115 := Hid.mk' (ownE_keep O114.out b15 (Nat.le_refl _))
  have O215 := Hid.mk' o15
  have B15 := Hid.mk' (B14.out.trans (b15.mono B14.out.size))
  clear o15 b15 O014 O114
  go_wp2_with fail
  refine (eqW _ _ _ _ M _ hMl O215.out O015.out).mono ?_
  rintro e w16 ⟨rfl, n16, rfl⟩
  have O116 := Hid.mk' (show (w15.drewN n16).ownsRow V.heap.size 5 1 v1 M.length (U (By.marks 1 M.length)) from O115.out)
  have B16 := Hid.mk' (below_drewN' B15.out n16)
  go_wp2_with fail
  refine (By.heldV _ _ _ _ hMl O116.out).mono ?_
  rintro e w17 ⟨rfl, rfl⟩
  go_wp2
  go_ret
  exact ⟨rfl, BW.out.trans (B16.out.mono (by omega))⟩
end Go.Proofs.YtgjpgcfpgeonlaaDoor
