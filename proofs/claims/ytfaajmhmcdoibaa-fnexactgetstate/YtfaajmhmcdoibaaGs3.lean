import Derived.Test.YtfaajmhmcdoibaaGs2
set_option linter.all false
set_option linter.unusedVariables false
namespace Go.Proofs.Ytfaajmhmcdoibaa
open Go.RowKit Go.Sort
set_option maxRecDepth 100000
/-- The reading of a number. -/
abbrev NumR (l : List Int) (b : Bool) (n : Int) (l' : List Int) (b' : Bool) : Prop := RP (fun n => numsE [n]) u32B 0 (fun _ => 0) 0 l b n l' b'
theorem sn_at (bs : List Int) (p : Nat) (b : Bool) : NumR (bs.drop p) b (snV (bs.drop p) b) (bs.drop (p + snN (bs.drop p) b)) (rnB (bs.drop p) b) := by
  have := sn_rp (bs.drop p) b
  rw [List.drop_drop] at this
  exact this
theorem flag_rp {l l' : List Int} {b b' : Bool} {n : Int} (h : NumR l b n l' b') : RP flB (fun _ => true) false (fun _ => 0) 0 l b (n == 1) l' b' :=
  h.iso (fun n => n == 1) (fun y => if y then 1 else 0) flB (fun _ => true) false (fun _ => 0) (fun y _ => by cases y <;> rfl) (fun y => by cases y <;> decide) (fun y => by cases y <;> decide) rfl rfl
theorem slab_rp {l l1 l2 l3 l4 : List Int} {b b1 b2 b3 b4 : Bool} {n1 n2 n3 : Int} {f : Bool} (h1 : NumR l b n1 l1 b1) (h2 : NumR l1 b1 n2 l2 b2) (h3 : NumR l2 b2 n3 l3 b3) (hf : RP flB (fun _ => true) false (fun _ => 0) 0 l3 b3 f l4 b4) : RP labE labO Lab.z (fun _ => 0) 0 l b ⟨n1, n2, n3, f⟩ l4 b4 := by
  have h := ((RP.seq h1 h2).seq h3).seq hf
  exact h.iso (fun p => (⟨p.1.1.1, p.1.1.2, p.1.2, p.2⟩ : Lab)) (fun y => (((y.pc, y.ar), y.ht), y.lp)) labE labO Lab.z (fun _ => 0) (fun y _ => rfl) (fun y => by simp [labE, numsE]) (fun y => by simp [labO, numsO, Bool.and_assoc]) rfl rfl
theorem sfrm_rp {l l1 l2 l3 l4 l5 : List Int} {b b1 b2 b3 b4 b5 : Bool} {n1 n2 n3 : Int} {ws : List Int} {ls : List Lab} (h1 : NumR l b n1 l1 b1) (h2 : NumR l1 b1 n2 l2 b2) (hw : RP (listE (fx 8)) (listO okW) [] wSz 1 l2 b2 ws l3 b3) (h3 : NumR l3 b3 n3 l4 b4) (hl : RP (listE labE) (listO labO) [] lSz 1 l4 b4 ls l5 b5) : RP frmE frmO' Frm.z fSz 1 l b ⟨n1, n2, ws, n3, ls⟩ l5 b5 := by
  have h := ((((RP.seq h1 h2).more (Nat.zero_le 1)).seq hw).seq (RP.more h3 (Nat.zero_le 1))).seq hl
  exact h.iso (fun p => (⟨p.1.1.1.1, p.1.1.1.2, p.1.1.2, p.1.2, p.2⟩ : Frm)) (fun y => ((((y.fn, y.pc), y.loc), y.ht), y.labs)) frmE frmO' Frm.z fSz (fun y _ => rfl) (fun y => by simp [frmE, numsE]) (fun y => by simp [frmO', numsO, Bool.and_assoc]) rfl (by simp [fSz])
theorem ssta_rp {l l1 l2 l3 l4 : List Int} {b b1 b2 b3 b4 : Bool} {n1 n2 : Int} {ws : List Int} {fs : List Frm} (h1 : NumR l b n1 l1 b1) (h2 : NumR l1 b1 n2 l2 b2) (hw : RP (listE (fx 8)) (listO okW) [] wSz 1 l2 b2 ws l3 b3) (hl : RP (listE frmE) (listO frmO') [] (fun l => l.length + (l.map fSz).sum) 2 l3 b3 fs l4 b4) : RP staE staO' ⟨0, 0, [], []⟩ sSz 2 l b ⟨n1, n2, ws, fs⟩ l4 b4 := by
  have h := (((RP.seq h1 h2).more (Nat.zero_le 2)).seq (hw.more (by omega))).seq hl
  exact h.iso (fun p => (⟨p.1.1.1, p.1.1.2, p.1.2, p.2⟩ : Sta)) (fun y => (((y.st, y.tr), y.stk), y.frs)) staE staO' ⟨0, 0, [], []⟩ sSz (fun y _ => rfl) (fun y => by simp [staE, numsE]) (fun y => by simp [staO', numsO, Bool.and_assoc]) rfl (by simp [sSz])
/-- Below w's end only the blocks of S have changed. -/
structure Kq (S : Nat → Prop) (w w' : World) : Prop where
  os : w'.os = w.os
  tape : w'.tape = w.tape
  output : w'.output = w.output
  size : w.heap.size ≤ w'.heap.size
  block : ∀ k, k < w.heap.size → ¬ S k → w'.heap[k]? = w.heap[k]?
theorem Kq.refl (S : Nat → Prop) (w : World) : Kq S w w := ⟨rfl, rfl, rfl, Nat.le_refl _, fun _ _ _ => rfl⟩
theorem Kq.tail {S S' : Nat → Prop} {a b c : World} (h : Kq S a b) (k : Kq S' b c) (hS : ∀ q, S' q → S q ∨ a.heap.size ≤ q) : Kq S a c :=
  ⟨k.os.trans h.os, k.tape.trans h.tape, k.output.trans h.output, Nat.le_trans h.size k.size, fun i hi h1 => (k.block i (Nat.lt_of_lt_of_le hi h.size) (fun h2 => by rcases hS i h2 with h3 | h3 <;> first | exact h1 h3 | omega)).trans (h.block i hi h1)⟩
theorem Kq.of_below {S : Nat → Prop} {w w' : World} (h : Below w.heap.size w w') : Kq S w w' := ⟨h.os, h.tape, h.output, h.size, fun k hk _ => h.block k hk⟩
theorem Kq.of_kp {S : Nat → Prop} {P : Nat} {w w' : World} (h : Kp P w w') (hS : S P) : Kq S w w' := ⟨h.os, h.tape, h.output, h.size, fun k hk hn => h.block k hk (fun e => hn (e ▸ hS))⟩
theorem Kq.set {S : Nat → Prop} {g o : Nat} (w : World) (v : Value) (hS : S g) : Kq S w (w.setCell ⟨g, o, none⟩ v) := ⟨rfl, rfl, rfl, by simp, fun k _ hn => Below.heap_setCell _ _ _ _ (fun e => hn (by have e' : k = g := e; rw [e']; exact hS))⟩
theorem Kq.trans {S : Nat → Prop} {a b c : World} (h : Kq S a b) (k : Kq S b c) : Kq S a c := h.tail k (fun _ h => .inl h)
theorem Kq.grown {S : Nat → Prop} {w W w3 : World} {o : Option Nat} (h : Kq S w W) (hg : W.grownBy w3 o) (ho : ∀ q, o = some q → w.heap.size ≤ q) : Kq S w w3 :=
  ⟨hg.os.trans h.os, hg.tape.trans h.tape, hg.output.trans h.output, Nat.le_trans h.size hg.size, fun k hk hn => (hg.block k (Nat.lt_of_lt_of_le hk h.size) (fun e => by have := ho k e.symm; omega)).trans (h.block k hk hn)⟩
theorem Bk.of {W W' : World} {g : Nat} {cs : List Value} (h : Bk W g cs) (hs : W.heap.size ≤ W'.heap.size) (hb : W'.heap[g]? = W.heap[g]?) : Bk W' g cs :=
  ⟨Nat.lt_of_lt_of_le h.1 hs, fun j v hv => (World.cell?_of_block (a := ⟨g, j, none⟩) hb).trans (h.2.1 j v hv), fun j => (World.frozen?_of_block (a := ⟨g, j, none⟩) hb).trans (h.2.2 j)⟩
theorem Bk.kq {S : Nat → Prop} {W W' : World} {g : Nat} {cs : List Value} (h : Bk W g cs) (k : Kq S W W') (hn : ¬ S g) : Bk W' g cs := h.of k.size (k.block g h.1 hn)
theorem Bk.grown {W W' : World} {g : Nat} {cs : List Value} {o : Option Nat} (h : Bk W g cs) (k : W.grownBy W' o) (hn : o ≠ some g) : Bk W' g cs := h.of k.size (k.block g h.1 (fun e => hn e.symm))
theorem Sb.set {w0 w : World} {P : Nat} {bs : List Int} {p : Nat} {b : Bool} (h : Sb w0 w P bs p b) {g o : Nat} (hg : g ≠ P) (hg0 : w0.heap.size ≤ g) (v : Value) : Sb w0 (w.setCell ⟨g, o, none⟩ v) P bs p b := by
  have hp := h.pos
  obtain ⟨ab, ao, c, h1, h2, h3, h4, h5, h6, h7, h8, h9, h10⟩ := h
  have hk : (w.setCell ⟨g, o, none⟩ v).heap[P]? = w.heap[P]? := Below.heap_setCell _ _ _ _ (fun e => hg (by have e' : P = g := e; exact e'.symm))
  exact ⟨ab, ao, c, (World.cell?_of_block (a := ⟨P, 0, none⟩) hk).trans h1, (World.cell?_of_block (a := ⟨P, 1, none⟩) hk).trans h2, (World.cell?_of_block (a := ⟨P, 2, none⟩) hk).trans h3, fun j => (World.frozen?_of_block (a := ⟨P, j, none⟩) hk).trans (h4 j), h5, h6, h7, h8.setCell hg0 _, h9, h10⟩
/-- What the reading of a number leaves, by letters. -/
def NuP (w0 V : World) (P : Nat) (bs : List Int) (p : Nat) (b : Bool) (n : Int) (V' : World) : Prop := ∃ p' b', NumR (bs.drop p) b n (bs.drop p') b' ∧ Sb w0 V' P bs p' b' ∧ Kp P V V'
theorem srm_c (w0 : World) (P : Nat) (bs : List Int) (p : Nat) (b : Bool) (w : World) (hS : Sb w0 w P bs p b) :
    Calls Try.prog 33 #[.pointer (some ⟨P, 0, none⟩)] w fun e w' => ∃ n, e = .returned (.int .i64 n) ∧ NuP w0 w P bs p b n w' :=
  (srn_c w0 P bs p b w hS).mono (by
    rintro e w' ⟨rfl, h1, h2⟩
    exact ⟨_, rfl, _, _, sn_at bs p b, h1, h2⟩)
/-- A box X is filled while the reader goes on. -/
structure Fp (w0 base : World) (P X : Nat) (bs : List Int) (cs : List Value) (p : Nat) (b : Bool) (V : World) : Prop where
  rd : Sb w0 V P bs p b
  bk : Bk V X cs
  kq : Kq (fun k => k = P ∨ k = X) base V
  ne : X ≠ P
  ge : w0.heap.size ≤ X
theorem Fp.step {w0 base : World} {P X : Nat} {bs : List Int} {cs : List Value} {p p' : Nat} {b b' : Bool} {V V' : World} (h : Fp w0 base P X bs cs p b V) (hs : Sb w0 V' P bs p' b') (hk : Kp P V V') : Fp w0 base P X bs cs p' b' V' :=
  ⟨hs, h.bk.kq (S := fun k => k = P) (Kq.of_kp hk rfl) h.ne, h.kq.trans (Kq.of_kp hk (.inl rfl)), h.ne, h.ge⟩
theorem Fp.put {w0 base : World} {P X : Nat} {bs : List Int} {cs : List Value} {p : Nat} {b : Bool} {V : World} (h : Fp w0 base P X bs cs p b V) (j : Nat) (u : Value) : Fp w0 base P X bs (cs.set j u) p b (V.setCell ⟨X, j, none⟩ u) :=
  ⟨h.rd.set h.ne h.ge u, h.bk.set, h.kq.trans (Kq.set _ _ (.inr rfl)), h.ne, h.ge⟩
theorem Fp.rebase {w0 base : World} {P X : Nat} {bs : List Int} {cs : List Value} {p : Nat} {b : Bool} {V : World} (h : Fp w0 base P X bs cs p b V) : Fp w0 V P X bs cs p b V := ⟨h.rd, h.bk, Kq.refl _ _, h.ne, h.ge⟩
theorem Fp.start {w0 base V : World} {P X : Nat} {bs : List Int} {cs : List Value} {p : Nat} {b : Bool} (h : Sb w0 base P bs p b) (hb : Below base.heap.size base V) (hk : Bk V X cs) (hX : base.heap.size ≤ X) : Fp w0 base P X bs cs p b V := by
  have hp := h.pos
  have h0 : w0.heap.size ≤ P := by obtain ⟨ab, ao, c, h1, h2, h3, h4, h5, h6, h7, h8, h9, h10⟩ := h; exact h9
  exact ⟨h.below hb, hk, Kq.of_below hb, by omega, by omega⟩
/-- Labels, while they are read into the box F. -/
def LbI (w0 WL : World) (P F : Nat) (bs l : List Int) (b : Bool) (M : Int) (c0 c1 c2 c3 : Value) (ls : List Lab) (W : World) : Prop := ∃ v p1 b1, Sb w0 W P bs p1 b1 ∧ Bk W F [c0, c1, c2, c3, v] ∧ Kq (fun k => k = P ∨ k = F) WL W ∧ W.ownsRow WL.heap.size 56 4 v ls.length (ls.flatMap ceL) ∧ LI labE labO (fun _ => 0) 0 l b M ls (bs.drop p1) b1
theorem lb_add {w0 WL wr V w3 : World} {P F L : Nat} {bs l : List Int} {b b' : Bool} {M : Int} {c0 c1 c2 c3 v v3 : Value} {cs : List Value} {ls : List Lab} {x : Lab} {p1 p' : Nat} {o : Obj} (hBk : Bk wr F [c0, c1, c2, c3, v]) (hK : Kq (fun k => k = P ∨ k = F) WL wr) (hP : P < WL.heap.size) (hF : F < WL.heap.size) (hFP : F ≠ P) (hge : w0.heap.size ≤ F) (hown : wr.ownsRow WL.heap.size 56 4 v ls.length (ls.flatMap ceL)) (hLI : LI labE labO (fun _ => 0) 0 l b M ls (bs.drop p1) false) (hlt : (ls.length : Int) < M) (hX : wr.heap.size ≤ L) (hfp : Fp w0 wr P L bs cs p' b' V) (hrp : RP labE labO Lab.z (fun _ => 0) 0 (bs.drop p1) false x (bs.drop p') b') (hg : (V.alloc o).grownBy w3 v.ownBlock) (ho : w3.ownsRow WL.heap.size 56 4 v3 (ls.length + 1) (ls.flatMap ceL ++ ceL x)) :
    LbI w0 WL P F bs l b M c0 c1 c2 c3 (ls ++ [x]) (w3.setCell ⟨F, 4, none⟩ v3) := by
  have hs := hK.size
  have hq : ∀ q, v.ownBlock = some q → WL.heap.size ≤ q := fun q hq => (hown.lt q hq).1
  have hF2 : F < wr.heap.size := hBk.1
  have hal : Below V.heap.size V (V.alloc o) := (Below.refl _ _).alloc (Nat.le_refl _) _
  refine ⟨v3, p', b', ?_, ?_, ?_, ?_, ?_⟩
  · exact ((hfp.rd.below hal).grown hg (fun k hk => by have := hq k hk; omega)).set hFP hge _
  · have h1 : Bk V F [c0, c1, c2, c3, v] := hBk.kq hfp.kq (fun h => by omega)
    have h2 := (h1.past (o := o)).grown hg (fun e => by have := hq F e; omega)
    exact h2.set (j := 4) (v := v3)
  · have h1 : Kq (fun k => k = P ∨ k = F) WL V := hK.tail hfp.kq (fun q hq => by omega)
    exact ((h1.trans (Kq.of_below hal)).grown hg hq).trans (Kq.set _ _ (.inr rfl))
  · have h1 := ownS_set (o := 4) (u := v3) ho (b := F) (fun e => by have := (ho.lt F e).1; omega)
    simpa using h1
  · exact hLI.next hrp hlt
theorem fs_add {wr WE W4 w3 : World} {B P F A M : Nat} {xs : List (Frm × Value × Value)} {v v3 v1 v2 : Value} {x : Frm} (h : FsI wr B v.ownBlock xs) (hK : Kq (fun k => k = P ∨ k = F) wr WE) (hP : P < B) (hF : wr.heap.size ≤ F) (hB : B ≤ wr.heap.size) (hv : ∀ q, v.ownBlock = some q → q < wr.heap.size) (hA : wr.heap.size ≤ A) (hfh : FrH WE A M WE.heap.size x v1 v2) (hrg : ∀ y ∈ x.loc, 0 ≤ y ∧ y ≤ 18446744073709551615) (h4 : Below WE.heap.size WE W4) (hg : W4.grownBy w3 v.ownBlock) (hloc : v3.ownBlock = v.ownBlock ∨ v3.ownBlock = some W4.heap.size) : FsI w3 B v3.ownBlock (xs ++ [(x, v1, v2)]) := by
  obtain ⟨bd, b1, b2, b3⟩ := h
  have s1 := hK.size
  have s2 := h4.size
  have s3 := hg.size
  have hlen : (xs ++ [(x, v1, v2)]).length = xs.length + 1 := by simp
  have h7 := hfh
  obtain ⟨g1, g2, g3, g4, g5, g6, g7⟩ := h7
  refine ⟨fun i => if i ≤ xs.length then bd i else WE.heap.size, by simpa using b1, by rw [hlen]; show (if xs.length + 1 ≤ xs.length then _ else _) ≤ _; rw [if_neg (by omega)]; omega, fun i hi => ?_⟩
  rw [hlen] at hi
  by_cases hik : i < xs.length
  · have e : (xs ++ [(x, v1, v2)]).getD i zF = xs.getD i zF := by simp [List.getD, List.getElem?_append, hik]
    rw [e]
    obtain ⟨M', h1, h2, h3⟩ := b3 i hik
    have hC : bd (i + 1) ≤ wr.heap.size := h1.2.2.2.2.2.2
    have hqC : ∀ q, ((xs.getD i zF).2.1.ownBlock = some q ∨ (xs.getD i zF).2.2.ownBlock = some q) → q < bd (i + 1) := fun q hq => by
      rcases hq with hq | hq
      · have := h1.2.2.1 q hq; have := h1.2.2.2.2.2.1; omega
      · exact h1.2.2.2.1 q hq
    refine ⟨M', ?_, fun q hq => ⟨(h2 q hq).1, ?_⟩, h3⟩
    · show FrH w3 (if i ≤ xs.length then bd i else WE.heap.size) M' (if i + 1 ≤ xs.length then bd (i + 1) else WE.heap.size) _ _ _
      rw [if_pos (by omega), if_pos (by omega)]
      refine h1.keep (by omega) (fun q hq hqc => ?_)
      have hq2 := h2 q hq
      exact ((hg.block q (by omega) (fun e => hq2.2 e.symm)).trans (h4.block q (by omega))).trans (hK.block q (by omega) (fun h => by omega))
    · rcases hloc with e | e
      · rw [e]; exact (h2 q hq).2
      · rw [e]
        intro h
        injection h with h
        have := hqC q hq
        omega
  · have ei : i = xs.length := by omega
    subst ei
    have e : (xs ++ [(x, v1, v2)]).getD xs.length zF = (x, v1, v2) := by simp [List.getD]
    rw [e]
    have hqr : ∀ q, (v1.ownBlock = some q ∨ v2.ownBlock = some q) → wr.heap.size ≤ q ∧ q < WE.heap.size := fun q hq => by
      rcases hq with hq | hq
      · have := (g1.lt q hq).1; have := g3 q hq; omega
      · have := (g2.lt q hq).1; have := g4 q hq; omega
    refine ⟨M, ?_, fun q hq => ?_, hrg⟩
    · show FrH w3 (if xs.length ≤ xs.length then bd xs.length else WE.heap.size) M (if xs.length + 1 ≤ xs.length then bd (xs.length + 1) else WE.heap.size) x v1 v2
      rw [if_pos (Nat.le_refl _), if_neg (by omega)]
      refine (hfh.down (A' := bd xs.length) (by omega)).keep (by omega) (fun q hq hqc => ?_)
      have := hqr q hq
      exact (hg.block q (by omega) (fun e => by have := hv q e.symm; omega)).trans (h4.block q (by omega))
    · have := hqr q hq
      refine ⟨by omega, ?_⟩
      rcases hloc with e | e
      · rw [e]; intro h; have := hv q h; omega
      · rw [e]; intro h; injection h with h; omega
/-- Frames, while they are read into the state's box T. -/
def FrI (w0 W1 : World) (P T : Nat) (bs l : List Int) (b : Bool) (N : Int) (c0 c1 c2 : Value) (xs : List (Frm × Value × Value)) (W : World) : Prop := ∃ v p1 b1, Sb w0 W P bs p1 b1 ∧ Bk W T [c0, c1, c2, v] ∧ Kq (fun k => k = P ∨ k = T) W1 W ∧ W.ownsRow W1.heap.size 54 5 v xs.length (xs.flatMap ceF) ∧ LI frmE frmO' fSz 1 l b N (xs.map (·.1)) (bs.drop p1) b1 ∧ FsI W W1.heap.size v.ownBlock xs
theorem fr_add {w0 W1 wr WE w3 : World} {P T F A M : Nat} {bs l : List Int} {b b' : Bool} {N : Int} {c0 c1 c2 v v3 v1 v2 : Value} {xs : List (Frm × Value × Value)} {x : Frm} {p1 p' : Nat} {o : Obj} (hBk : Bk wr T [c0, c1, c2, v]) (hK : Kq (fun k => k = P ∨ k = T) W1 wr) (hP : P < W1.heap.size) (hT : T < W1.heap.size) (hTP : T ≠ P) (hge : w0.heap.size ≤ T) (hown : wr.ownsRow W1.heap.size 54 5 v xs.length (xs.flatMap ceF)) (hLI : LI frmE frmO' fSz 1 l b N (xs.map (·.1)) (bs.drop p1) false) (hlt : (xs.length : Int) < N) (hfs : FsI wr W1.heap.size v.ownBlock xs) (hS : Sb w0 WE P bs p' b') (hKE : Kq (fun k => k = P ∨ k = F) wr WE) (hF : wr.heap.size ≤ F) (hA : wr.heap.size ≤ A) (hfh : FrH WE A M WE.heap.size x v1 v2) (hrg : ∀ y ∈ x.loc, 0 ≤ y ∧ y ≤ 18446744073709551615) (hrp : RP frmE frmO' Frm.z fSz 1 (bs.drop p1) false x (bs.drop p') b') (hg : (WE.alloc o).grownBy w3 v.ownBlock) (hloc : v3.ownBlock = v.ownBlock ∨ v3.ownBlock = some (WE.alloc o).heap.size) (ho : w3.ownsRow W1.heap.size 54 5 v3 (xs.length + 1) (xs.flatMap ceF ++ ceF (x, v1, v2))) :
    FrI w0 W1 P T bs l b N c0 c1 c2 (xs ++ [(x, v1, v2)]) (w3.setCell ⟨T, 3, none⟩ v3) := by
  have hs := hK.size
  have hq : ∀ q, v.ownBlock = some q → W1.heap.size ≤ q := fun q hq => (hown.lt q hq).1
  have hT2 : T < wr.heap.size := hBk.1
  have hal : Below WE.heap.size WE (WE.alloc o) := (Below.refl _ _).alloc (Nat.le_refl _) _
  have hsets : ∀ q, W1.heap.size ≤ q → (w3.setCell ⟨T, 3, none⟩ v3).heap[q]? = w3.heap[q]? := fun q hq => Below.heap_setCell _ _ _ _ (fun e => by have e' : q = T := e; omega)
  refine ⟨v3, p', b', ?_, ?_, ?_, ?_, ?_, ?_⟩
  · exact ((hS.below hal).grown hg (fun k hk => by have := hq k hk; omega)).set hTP hge _
  · have h1 : Bk WE T [c0, c1, c2, v] := hBk.kq hKE (fun h => by omega)
    have h2 := (h1.past (o := o)).grown hg (fun e => by have := hq T e; omega)
    exact h2.set (j := 3) (v := v3)
  · have h1 : Kq (fun k => k = P ∨ k = T) W1 WE := hK.tail hKE (fun q hq => by omega)
    exact ((h1.trans (Kq.of_below hal)).grown hg hq).trans (Kq.set _ _ (.inr rfl))
  · have h1 := ownS_set (o := 3) (u := v3) ho (b := T) (fun e => by have := (ho.lt T e).1; omega)
    simpa using h1
  · have := hLI.next hrp (by simp only [List.length_map]; omega)
    simpa using this
  · have h1 := fs_add hfs hKE hP hF hs (fun q hq => (hown.lt q hq).2) hA hfh hrg hal hg hloc
    obtain ⟨bd, b1, b2, b3⟩ := h1
    refine ⟨bd, b1, by simpa using b2, fun i hi => ?_⟩
    obtain ⟨M', h1, h2, h3⟩ := b3 i hi
    exact ⟨M', h1.keep (by simp) (fun q hq hqc => hsets q (h2 q hq).1), h2, h3⟩
end Go.Proofs.Ytfaajmhmcdoibaa
