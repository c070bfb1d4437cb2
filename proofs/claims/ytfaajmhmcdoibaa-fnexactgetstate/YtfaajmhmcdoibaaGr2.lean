import Derived.Test.YtfaajmhmcdoibaaGm3
set_option linter.all false
set_option linter.unusedVariables false
namespace Go.Proofs.Ytfaajmhmcdoibaa
open Go.RowKit Go.Sort
set_option maxRecDepth 100000
def okW (v : Int) : Bool := decide (0 ≤ v) && decide (v ≤ 18446744073709551615)
def frmO' (x : Frm) : Bool := numsO [x.fn, x.pc] && (listO okW x.loc && (numsO [x.ht] && listO labO x.labs))
def staO' (x : Sta) : Bool := numsO [x.st, x.tr] && (listO okW x.stk && listO frmO' x.frs)
def wSz (l : List Int) : Nat := l.length + (l.map fun _ => 0).sum
def lSz (l : List Lab) : Nat := l.length + (l.map fun _ => 0).sum
def fSz (x : Frm) : Nat := wSz x.loc + lSz x.labs
def sSz (x : Sta) : Nat := wSz x.stk + (x.frs.length + (x.frs.map fSz).sum)
theorem rns1 (l : List Int) (b : Bool) : rns l b 1 = ([rnV l], rnL l, rnB l b) := rfl
theorem rns2 (l : List Int) (b : Bool) : rns l b 2 = ([rnV l, rnV (rnL l)], rnL (rnL l), rnB (rnL l) (rnB l b)) := rfl
theorem rns3 (l : List Int) (b : Bool) : rns l b 3 = ([rnV l, rnV (rnL l), rnV (rnL (rnL l))], rnL (rnL (rnL l)), rnB (rnL (rnL l)) (rnB (rnL l) (rnB l b))) := rfl
theorem one_rp (l : List Int) (b : Bool) : RP (fun n => numsE [n]) u32B 0 (fun _ => 0) 0 l b ((rns l b 1).1.getD 0 0) (rns l b 1).2.1 (rns l b 1).2.2 := rn_rp l b
theorem two_rp (l : List Int) (b : Bool) : RP (fun p : Int × Int => numsE [p.1] ++ numsE [p.2]) (fun p => u32B p.1 && u32B p.2) (0, 0) (fun p => 0 + 0) 0 l b ((rns l b 2).1.getD 0 0, (rns l b 2).1.getD 1 0) (rns l b 2).2.1 (rns l b 2).2.2 := (rn_rp l b).seq (rn_rp (rnL l) (rnB l b))
theorem lab_rp (l : List Int) (b : Bool) {f : Bool} {l' : List Int} {b' : Bool} (hf : RP flB (fun _ => true) false (fun _ => 0) 0 (rns l b 3).2.1 (rns l b 3).2.2 f l' b') : RP labE labO Lab.z (fun _ => 0) 0 l b ⟨(rns l b 3).1.getD 0 0, (rns l b 3).1.getD 1 0, (rns l b 3).1.getD 2 0, f⟩ l' b' := by
  have h := (((rn_rp l b).seq (rn_rp (rnL l) (rnB l b))).seq (rn_rp (rnL (rnL l)) (rnB (rnL l) (rnB l b)))).seq hf
  exact h.iso (fun p => (⟨p.1.1.1, p.1.1.2, p.1.2, p.2⟩ : Lab)) (fun y => (((y.pc, y.ar), y.ht), y.lp)) labE labO Lab.z (fun _ => 0) (fun y _ => rfl) (fun y => by simp [labE, numsE]) (fun y => by simp [labO, numsO, Bool.and_assoc]) rfl rfl
theorem frm_rp {l l2 l3 l4 : List Int} {b b2 b3 b4 : Bool} {ws : List Int} {ls : List Lab} (hw : RP (listE (fx 8)) (listO okW) [] wSz 1 (rns l b 2).2.1 (rns l b 2).2.2 ws l2 b2) (hl : RP (listE labE) (listO labO) [] lSz 1 (rns l2 b2 1).2.1 (rns l2 b2 1).2.2 ls l4 b4) : RP frmE frmO' Frm.z fSz 1 l b ⟨(rns l b 2).1.getD 0 0, (rns l b 2).1.getD 1 0, ws, (rns l2 b2 1).1.getD 0 0, ls⟩ l4 b4 := by
  have h := ((((two_rp l b).more (Nat.zero_le 1)).seq hw).seq ((one_rp l2 b2).more (Nat.zero_le 1))).seq hl
  exact h.iso (fun p => (⟨p.1.1.1.1, p.1.1.1.2, p.1.1.2, p.1.2, p.2⟩ : Frm)) (fun y => ((((y.fn, y.pc), y.loc), y.ht), y.labs)) frmE frmO' Frm.z fSz (fun y _ => rfl) (fun y => by simp [frmE, numsE]) (fun y => by simp [frmO', numsO, Bool.and_assoc]) rfl (by simp [fSz])
theorem sta_rp {l l2 l4 : List Int} {b b2 b4 : Bool} {ws : List Int} {fs : List Frm} (hw : RP (listE (fx 8)) (listO okW) [] wSz 1 (rns l b 2).2.1 (rns l b 2).2.2 ws l2 b2) (hl : RP (listE frmE) (listO frmO') [] (fun l => l.length + (l.map fSz).sum) 2 l2 b2 fs l4 b4) : RP staE staO' ⟨0, 0, [], []⟩ sSz 2 l b ⟨(rns l b 2).1.getD 0 0, (rns l b 2).1.getD 1 0, ws, fs⟩ l4 b4 := by
  have h := (((two_rp l b).more (Nat.zero_le 2)).seq (hw.more (by omega))).seq hl
  exact h.iso (fun p => (⟨p.1.1.1, p.1.1.2, p.1.2, p.2⟩ : Sta)) (fun y => (((y.st, y.tr), y.stk), y.frs)) staE staO' ⟨0, 0, [], []⟩ sSz (fun y _ => rfl) (fun y => by simp [staE, numsE]) (fun y => by simp [staO', numsO, Bool.and_assoc]) rfl (by simp [sSz])
end Go.Proofs.Ytfaajmhmcdoibaa
