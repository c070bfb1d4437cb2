import Derived.Test.YthicgblefhgbeaaE1
set_option linter.all false
set_option linter.unusedVariables false
namespace Go.Proofs.Ythicgblefhgbeaa
open Go.RowKit Go.Sort
set_option maxRecDepth 100000
set_option maxHeartbeats 4000000 in
theorem wu32_c (p : Nat) (S : Nat → Prop) (xs : List Int) (x : Int) (w : World) (h0 : 0 ≤ x) (h1 : x ≤ 9223372036854775807) (hl : xs.length ≤ 1099511627776) (hW : Wr w p S xs) :
    Calls Try.prog 60 #[.pointer (some ⟨p, 0, none⟩), .int .i64 x] w fun e w' => e = .returned (.tuple #[]) ∧ Wr w' p S (xs ++ lebU 9 x) ∧ Kept S w w' := by
  obtain ⟨i0, hi, hz0, hz1, hz2⟩ := info_parts Try.info5
  obtain ⟨v, c0, f0, own, hp, hr, hS⟩ := hW
  have lt : p < w.heap.size := World.block_lt_of_cell? w _ c0
  obtain ⟨a, c, rfl⟩ := ownE_slice own
  obtain ⟨L, hL⟩ : ∃ L, L = lebU 9 x := ⟨_, rfl⟩
  have hlen := lebU_len 9 x
  have KP := Hid.mk' (fun w => implPutU_any x w h0 (by omega))
  rw [← hL] at hlen KP ⊢
  have HP := Hid.mk' (fun (W w1 : World) (v' : Value) (h1 : Below w.heap.size w W) (h2 : w1.ownsRow (p + 1) 5 1 v' (xs.length + L.length) (U xs ++ U L)) (h3 : W.grownBy w1 (Value.slice a xs.length c).ownBlock) (h4 : v'.ownBlock = (Value.slice a xs.length c).ownBlock ∨ v'.ownBlock = some W.heap.size) => wr_pushed (ys := L) c0 f0 own hp hr hS h1 h2 h3 h4)
  have OW := Hid.mk' own
  obtain ⟨hl0, hl1⟩ := hlen
  have hlU : (U L).length = L.length * 1 := by simp
  have HC := Hid.mk' c0
  have hwx : IntKind.u64.wrap x = x := by rw [IntKind.wrap_u64]; omega
  clear hL own hp hr hS
  go_enter Try.func60, Try.ntmps60
  go_region_law (first
    | (refine step_append_src rfl (.tmp 8) (.tmp 11) 34 rfl (p + 1) 5 i0 (.int .u8 0) 1 1 Try.underlying34 hi hz0 hz1 hz2 rfl (by decide) (.slice a xs.length c) xs.length (U xs) (by simp [Act.eval, Act.put]) O1.out ⟨g, 0, none⟩ L.length gc (U L) (by simp [Act.eval, Act.put]) hlU S1.out (oneU _) (by simp [maxLen]; omega) (by omega) Z1.out ?_
       intro v2 w2 own2 gr2 hloc
       have HQ := Hid.mk' (HP.out _ _ _ B1.out own2 gr2 hloc)
       have d0 := HQ.out.2.2.1
       have df := HQ.out.2.2.2
       obtain ⟨va, vc, rfl⟩ := ownE_slice own2
       clear own2 gr2 hloc)
    | (go_simp
       refine (KP.out _).mono ?_
       rintro e w1 ⟨v1, rfl, ho1, hb1⟩
       obtain ⟨g, gc, rfl, hg, hg'⟩ := By.own_split ho1 hl0
       have hb2 : Below w.heap.size w w1 := (Below.refl _ _).drew.trans hb1
       have c1 : w1.cell? ⟨p, 0, none⟩ = some (.slice a xs.length c) := (hb2.cell (p := ⟨p, 0, none⟩) lt).trans HC.out
       have O1 := Hid.mk' (ownE_keep OW.out hb2 (Nat.le_refl _))
       have S1 := Hid.mk' (own_src ho1)
       have B1 := Hid.mk' hb2
       have Z1 : Hid (p + 1 ≤ w1.heap.size) := by have := hb2.size; show _ ≤ _; omega
       clear ho1 hb1 hb2 hg hg'))
  all_goals
    go_wp2_with fail
    go_end0
    exact ⟨rfl, HQ.out.1, HQ.out.2.1⟩
end Go.Proofs.Ythicgblefhgbeaa

set_option linter.unusedVariables false
namespace Go.Proofs.Ythicgblefhgbeaa
open Go.RowKit Go.Sort
set_option maxRecDepth 100000
set_option maxHeartbeats 4000000 in
theorem wsig_c (p : Nat) (S : Nat → Prop) (xs : List Int) (x : Int) (w : World) (h0 : -9223372036854775808 ≤ x) (h1 : x ≤ 9223372036854775807) (hl : xs.length ≤ 1099511627776) (hW : Wr w p S xs) :
    Calls Try.prog 62 #[.pointer (some ⟨p, 0, none⟩), .int .i64 x] w fun e w' => e = .returned (.tuple #[]) ∧ Wr w' p S (xs ++ lebS 9 x) ∧ Kept S w w' := by
  obtain ⟨i0, hi, hz0, hz1, hz2⟩ := info_parts Try.info5
  obtain ⟨v, c0, f0, own, hp, hr, hS⟩ := hW
  have lt : p < w.heap.size := World.block_lt_of_cell? w _ c0
  obtain ⟨a, c, rfl⟩ := ownE_slice own
  obtain ⟨L, hL⟩ : ∃ L, L = lebS 9 x := ⟨_, rfl⟩
  have hlen := lebS_len 9 x
  have KP := Hid.mk' (fun w => implPutS_any x w h0 h1)
  rw [← hL] at hlen KP ⊢
  have HP := Hid.mk' (fun (W w1 : World) (v' : Value) (h1 : Below w.heap.size w W) (h2 : w1.ownsRow (p + 1) 5 1 v' (xs.length + L.length) (U xs ++ U L)) (h3 : W.grownBy w1 (Value.slice a xs.length c).ownBlock) (h4 : v'.ownBlock = (Value.slice a xs.length c).ownBlock ∨ v'.ownBlock = some W.heap.size) => wr_pushed (ys := L) c0 f0 own hp hr hS h1 h2 h3 h4)
  have OW := Hid.mk' own
  obtain ⟨hl0, hl1⟩ := hlen
  have hlU : (U L).length = L.length * 1 := by simp
  have HC := Hid.mk' c0
  clear hL own hp hr hS h0 h1
  go_enter Try.func62, Try.ntmps62
  go_region_law (first
    | (refine step_append_src rfl (.tmp 8) (.tmp 10) 34 rfl (p + 1) 5 i0 (.int .u8 0) 1 1 Try.underlying34 hi hz0 hz1 hz2 rfl (by decide) (.slice a xs.length c) xs.length (U xs) (by simp [Act.eval, Act.put]) O1.out ⟨g, 0, none⟩ L.length gc (U L) (by simp [Act.eval, Act.put]) hlU S1.out (oneU _) (by simp [maxLen]; omega) (by omega) Z1.out ?_
       intro v2 w2 own2 gr2 hloc
       have HQ := Hid.mk' (HP.out _ _ _ B1.out own2 gr2 hloc)
       have d0 := HQ.out.2.2.1
       have df := HQ.out.2.2.2
       obtain ⟨va, vc, rfl⟩ := ownE_slice own2
       clear own2 gr2 hloc)
    | (go_simp
       refine (KP.out _).mono ?_
       rintro e w1 ⟨v1, rfl, ho1, hb1⟩
       obtain ⟨g, gc, rfl, hg, hg'⟩ := By.own_split ho1 hl0
       have hb2 : Below w.heap.size w w1 := (Below.refl _ _).drew.trans hb1
       have c1 : w1.cell? ⟨p, 0, none⟩ = some (.slice a xs.length c) := (hb2.cell (p := ⟨p, 0, none⟩) lt).trans HC.out
       have O1 := Hid.mk' (ownE_keep OW.out hb2 (Nat.le_refl _))
       have S1 := Hid.mk' (own_src ho1)
       have B1 := Hid.mk' hb2
       have Z1 : Hid (p + 1 ≤ w1.heap.size) := by have := hb2.size; show _ ≤ _; omega
       clear ho1 hb1 hb2 hg hg'))
  all_goals
    go_wp2_with fail
    go_end0
    exact ⟨rfl, HQ.out.1, HQ.out.2.1⟩
/-- The first k bytes of a number, the lowest first. -/
def fx (k : Nat) (v : Int) : List Int := (List.range k).map fun i => v / 2 ^ (8 * i) % 256
theorem fx_succ (k : Nat) (v : Int) : fx (k + 1) v = fx k v ++ [v / 2 ^ (8 * k) % 256] := by simp [fx, List.range_succ]
theorem fx_len (k : Nat) (v : Int) : (fx k v).length = k := by simp [fx]
theorem wrap_byte (y : Int) : wrap64 y % 256 = y % 256 := by unfold wrap64; omega
set_option maxHeartbeats 4000000 in
theorem wflt_c (p : Nat) (S : Nat → Prop) (xs : List Int) (v : Int) (n : Nat) (w : World) (hn : n = 4 ∨ n = 8) (h0 : 0 ≤ v) (h1 : v ≤ 18446744073709551615) (hl : xs.length ≤ 549755813888) (hW : Wr w p S xs) :
    Calls Try.prog 63 #[.pointer (some ⟨p, 0, none⟩), .int .u64 v, .int .i64 (8 * (n : Int))] w fun e w' => e = .returned (.tuple #[]) ∧ Wr w' p S (xs ++ fx n v) ∧ Kept S w w' := by
  have hn8 : n ≤ 8 := by omega
  have HN := Hid.mk' hn
  have HW := Hid.mk' hW
  clear hW hn
  go_enter Try.func63, Try.ntmps63
  go_wp2
  go_loopw [6] (fun at_ wr => ∃ k : Nat, k ≤ n ∧ at_ = .int .i64 (8 * (k : Int)) ∧ Wr wr p S (xs ++ fx k v) ∧ Kept S w wr) (fun at_ _ => 8 * n - (intOf at_).toNat)
  case atStart => exact ⟨0, Nat.zero_le _, rfl, by simpa [fx] using HW.out, Kept.refl _ _⟩
  case round =>
    obtain ⟨k, hk, rfl, hw, hkp⟩ := hrel
    by_cases hlt : k < n
    · have hki : 8 * (k : Int) < 8 * (n : Int) := by omega
      have hk8 : (k : Int) ≤ 7 := by omega
      have hlk : (xs ++ fx k v).length ≤ 1099511627776 := by simp [fx_len]; omega
      have KO := Hid.mk' (wone_c p S (xs ++ fx k v) (wrap64 (v / 2 ^ (8 * k))) wr hlk hw)
      have HKP := Hid.mk' hkp
      clear hw hkp HW
      go_wp2_with fail
      refine (KO.out).mono ?_
      rintro e w1 ⟨rfl, hw1, hk1⟩
      have HW1 : Hid (Wr w1 p S (xs ++ fx (k + 1) v)) := by
        rw [wrap_byte] at hw1
        show Wr _ _ _ _
        rw [fx_succ, ← List.append_assoc]; exact hw1
      have HK1 := Hid.mk' (HKP.out.trans hk1)
      clear hw1 hk1 KO HKP
      go_wp2
      go_roundw
      case rel => exact ⟨k + 1, by omega, by go_num, HW1.out, HK1.out⟩
      case measure => simp [intOf]; omega
    · have e : k = n := by omega
      subst e
      have HQ := Hid.mk' hw
      have HK1 := Hid.mk' hkp
      clear hw hkp HW
      go_wp2
      go_end0
      exact ⟨rfl, HQ.out, HK1.out⟩
end Go.Proofs.Ythicgblefhgbeaa

set_option linter.unusedVariables false
namespace Go.Proofs.Ythicgblefhgbeaa
open Go.RowKit Go.Sort
set_option maxRecDepth 100000
def nums (l : List Int) : List Int := l.flatMap (lebU 9)
theorem nums_step (l : List Int) (k : Nat) (h : k < l.length) : nums (l.take (k + 1)) = nums (l.take k) ++ lebU 9 (l.getD k 0) := by
  rw [List.take_add_one, List.getD_eq_getElem?_getD, List.getElem?_eq_getElem h]
  show nums (l.take k ++ [l[k]]) = nums (l.take k) ++ lebU 9 l[k]
  unfold nums
  rw [List.flatMap_append, List.flatMap_singleton]
theorem nums_len (l : List Int) : (nums l).length ≤ 10 * l.length := by
  induction l with
  | nil => simp [nums]
  | cons x t ih =>
    have := (lebU_len 9 x).2
    simp only [nums, List.flatMap_cons, List.length_append, List.length_cons] at *
    omega
theorem nums_take_len (l : List Int) (k : Nat) : (nums (l.take k)).length ≤ 10 * l.length := by
  have := nums_len (l.take k)
  have h2 : (l.take k).length ≤ l.length := by simp; omega
  omega
set_option maxHeartbeats 4000000 in
theorem wvec_c (p : Nat) (S : Nat → Prop) (xs l : List Int) (la : Option Addr) (lc : Nat) (w : World) (hn : l.length ≤ 1048576) (hu : ∀ i, i < l.length → 0 ≤ l.getD i 0 ∧ l.getD i 0 ≤ 4294967295) (hl : xs.length ≤ 1048576) (hH : ∀ w', Kept S w w' → Has w' la l) (hW : Wr w p S xs) :
    Calls Try.prog 61 #[.pointer (some ⟨p, 0, none⟩), .slice la l.length lc, .func (.func 60) #[.pointer (some ⟨p, 0, none⟩)] #[]] w fun e w' => e = .returned (.tuple #[]) ∧ Wr w' p S (xs ++ (lebU 9 l.length ++ nums l)) ∧ Kept S w w' := by
  have HU := Hid.mk' hu
  have HH := Hid.mk' hH
  have KL := Hid.mk' (wu32_c p S xs l.length w (by omega) (by omega) (by omega) hW)
  have hll := (lebU_len 9 l.length).2
  generalize hQ : xs ++ lebU 9 l.length = ys at *
  have hys : ys.length ≤ 1048586 := by rw [← hQ]; simp; omega
  have HQ := Hid.mk' hQ
  clear hW hu hH hQ hll
  go_enter Try.func61, Try.ntmps61
  go_wp2_with fail
  refine (KL.out).mono ?_
  rintro e w1 ⟨rfl, hw1, hk1⟩
  have HW1 := Hid.mk' hw1
  have HK1 := Hid.mk' hk1
  clear hw1 hk1 KL
  go_wp2_with fail
  go_loopw [14] (fun i wr => ∃ k : Nat, k ≤ l.length ∧ i = .int .i64 k ∧ Wr wr p S (ys ++ nums (l.take k)) ∧ Kept S w wr) (fun i _ => l.length - (intOf i).toNat)
  case atStart => exact ⟨0, Nat.zero_le _, rfl, by simpa [nums] using HW1.out, HK1.out⟩
  case round =>
    obtain ⟨k, hk, rfl, hw, hkp⟩ := hrel
    clear HW1 HK1
    by_cases hlt : k < l.length
    · have hki : (k : Int) < (l.length : Int) := by omega
      rcases HH.out wr hkp with hx | ⟨b1, o1, ea, hc⟩
      · subst hx; simp at hlt
      have d := hc k hlt
      subst ea
      obtain ⟨u0, u1⟩ := HU.out k hlt
      have hs := nums_step l k hlt
      have hlk : (ys ++ nums (l.take k)).length ≤ 1099511627776 := by
        have := nums_take_len l k
        simp only [List.length_append]; omega
      generalize hy : l.getD k 0 = y at *
      have KO := Hid.mk' (wu32_c p S (ys ++ nums (l.take k)) y wr u0 (by omega) hlk hw)
      have HS := Hid.mk' hs
      have HKP := Hid.mk' hkp
      clear hw hkp hc hs hy hlk HH HU
      go_wp2_with fail
      refine (KO.out).mono ?_
      rintro e w2 ⟨rfl, hw2, hk2⟩
      have HW2 : Hid (Wr w2 p S (ys ++ nums (l.take (k + 1)))) := by
        show Wr _ _ _ _
        rw [HS.out, ← List.append_assoc]; exact hw2
      have HK2 := Hid.mk' (HKP.out.trans hk2)
      clear hw2 hk2 KO HKP HS d u0 u1
      go_wp2
      go_roundw
      case rel => exact ⟨k + 1, by omega, by go_num, HW2.out, HK2.out⟩
      case measure => simp [intOf]; omega
    · have e : k = l.length := by omega
      subst e
      have HW2 : Hid (Wr wr p S (xs ++ (lebU 9 l.length ++ nums l))) := by
        rw [List.take_length, ← HQ.out, List.append_assoc] at hw
        exact hw
      have HK2 := Hid.mk' hkp
      clear hw hkp HH HU
      go_wp2
      go_end0
      exact ⟨rfl, HW2.out, HK2.out⟩
end Go.Proofs.Ythicgblefhgbeaa

set_option linter.unusedVariables false
namespace Go.Proofs.Ythicgblefhgbeaa
open Go.RowKit Go.Sort
set_option maxRecDepth 100000
def s32 (v : Int) : Int := if v < 2147483648 then v else v - 4294967296
def encF (f : Int) (x : In) : List Int :=
  if f = 1 then [x.a % 256] else if f = 2 then lebU 9 x.a else if f = 3 then lebU 9 x.l.length ++ nums x.l ++ lebU 9 x.a else if f = 4 then lebU 9 x.a ++ [0]
  else if f = 5 then lebU 9 x.a ++ lebU 9 x.b else if f = 6 then [0] else if f = 7 then lebS 9 (s32 x.v) else if f = 8 then lebS 9 (wrap64 x.v)
  else if f = 9 then fx 4 x.v else if f = 10 then fx 8 x.v else []
theorem Wr.keep {w w1 : World} {p : Nat} {S : Nat → Prop} {xs : List Int} (h : Wr w p S xs) (hb : Below w.heap.size w w1) : Wr w1 p S xs := (h.on hb).weak fun _ => .inl
theorem Wr.lt {w : World} {p : Nat} {S : Nat → Prop} {xs : List Int} (h : Wr w p S xs) : ∀ k, S k → k < w.heap.size := h.choose_spec.2.2.2.2.2
theorem Wr.pos {w : World} {p : Nat} {S : Nat → Prop} {xs : List Int} (h : Wr w p S xs) : p < w.heap.size := World.block_lt_of_cell? w _ h.choose_spec.1
theorem Kept.wr {w w1 w2 : World} {p : Nat} {S : Nat → Prop} {xs : List Int} (h : Kept S w w1) (hw : Wr w1 p S xs) (hb : Below w1.heap.size w1 w2) : Kept S w w2 := h.trans (Kept.of_below hb hw.lt)
/-- The blocks of S and the box. -/
def Bx (S : Nat → Prop) (b k : Nat) : Prop := S k ∨ k = b
theorem Bx.box (S : Nat → Prop) (b : Nat) : Bx S b b := .inr rfl
theorem wr_box {w : World} {p : Nat} {S : Nat → Prop} {xs : List Int} (h : Wr w p S xs) (o : Obj) : Wr (w.alloc o) p (Bx S w.heap.size) xs :=
  (h.on ((Below.refl _ _).alloc (Nat.le_refl _) o)).weak fun k hk => by
    rcases hk with hk | hk
    · exact .inl hk
    · exact .inr (by simp; omega)
/-- At the end: what the box kept out is let in again. -/
theorem wr_fin {w w1 : World} {p : Nat} {S : Nat → Prop} {xs ys : List Int} {o : Obj} (hl : ∀ k, S k → k < w.heap.size) (h : Wr w1 p (Bx S w.heap.size) ys) (hk : Kept (Bx S w.heap.size) (w.alloc o) w1) (e : ys = xs) : Wr w1 p S xs ∧ Kept S w w1 := by
  subst e
  exact ⟨h.weak fun k hk => .inl hk, (Kept.of_below ((Below.refl w.heap.size w).alloc (Nat.le_refl _) o) hl).trans (hk.weak fun k hk => .inl hk)⟩
end Go.Proofs.Ythicgblefhgbeaa
