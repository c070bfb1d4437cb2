import Derived.Test.YtgjpgcfpgeonlaaDoorBase
import Derived.Test.YtgjpgcfpgeonlaaDoorPrM
import Derived.Deep.RegionWith
import Derived.Deep.RegionLaw
import Derived.Laws.IdiomStrings
set_option linter.all false
set_option linter.unusedVariables false
namespace Go.Proofs.YtgjpgcfpgeonlaaDoor
open Go.RowKit
set_option maxRecDepth 100000
theorem conv_c (l : List UInt8) (b o c : Nat) (w : World) (hc : ∀ j (hj : j < l.length), w.cell? ⟨b, o + j, none⟩ = some (.int .u8 (l[j].toNat : Int))) :
    (convert 27 9 (.slice (some ⟨b, o, none⟩) l.length c)).run Tryd.prog w = .ok (.string (S l)) w :=
  run_convert_bytes_back w 27 9 5 ⟨b, o, none⟩ c l Tryd.underlying27 Tryd.underlying5 Tryd.underlying9 (fun j hj => by
    rw [show (⟨b, o, none⟩ : Addr).add j = ⟨b, o + j, none⟩ by unfold Addr.add; split <;> simp_all]
    exact hc j hj)
/-- A byte of this number. -/
def d8 (k : Nat) : UInt8 := UInt8.ofNat k
theorem conv1 (k : Nat) (b c : Nat) (w : World) (hk : k < 256) (hc : w.cell? ⟨b, 0, none⟩ = some (.int .u8 (k : Int))) :
    (convert 27 9 (.slice (some ⟨b, 0, none⟩) 1 c)).run Tryd.prog w = .ok (.string (S [d8 k])) w :=
  conv_c [d8 k] b 0 c w (fun j hj => by
    have : j = 0 := by simpa using hj
    subst this
    rw [hc]
    simp [d8, Nat.mod_eq_of_lt hk])
/-- A conversion of bytes to a text, at a step of a region that draws. -/
theorem step_conv {w : World} {ops : Array Oper} {o : Oper} {a : Act} {K : Act → World → Prop} {Q : Exit → Act → World → Prop} {E : Prop} (hgd : o.guard = none) (x : Operand) (v : Value) (s : ByteArray)
    (ho : o.op = .convert 27 9 x) (hx : a.eval x = v) (hr : (convert 27 9 v).run Tryd.prog w = .ok (.string s) w)
    (h : K (a.put o.dst (.string s)) w) :
    if Region.wanted o (yielded ops a.tmps) = true then Oper.wp Tryd.prog o a w K Q else E := by
  have hw : Region.wanted o (yielded ops a.tmps) = true := by simp [Region.wanted, hgd]
  rw [if_pos hw]
  unfold Oper.wp execOp
  simp only [ho, Sem.run_bind, Sem.run_pure, Result.andThen_ok, hx, hr]
  exact h
theorem hx_at : ∀ k (h : k < 16), ((⟨#[48, 49, 50, 51, 52, 53, 54, 55, 56, 57, 97, 98, 99, 100, 101, 102]⟩ : ByteArray)[k]'(by exact h)) = hx k := by decide
theorem sDigit_c (x : Nat) (w : World) (h : x < 256) : Calls Tryd.prog 47 #[.int .u8 (x : Int)] w fun e w' => e = .returned (.int .u8 ((hx (x % 16)).toNat : Int)) ∧ w = w' := by
  have hh := Hid.mk' (hx_at (x % 16) (by omega))
  go_enter Tryd.func47, Tryd.ntmps47
  go_wp2
  go_ret
  refine ⟨?_, rfl⟩
  rw [← hh.out]
  rfl
set_option maxHeartbeats 1000000 in
theorem sUDec_c : ∀ (n u : Nat), u ≤ n → u ≤ 18446744073709551615 → ∀ w, Calls Tryd.prog 44 #[.int .u64 (u : Int)] w fun e w' => e = .returned (.string (S (Lib.decDigits u))) ∧ Below w.heap.size w w'
  | n, u, hn, hu, w => by
    by_cases h : u < 10
    · have hD : Hid (Lib.decDigits u = [d8 (48 + u)]) := Lib.decDigits_one h
      have h' : (u : Int) < 10 := by omega
      have hc := conv1 (48 + u) w.heap.size 1 (w.alloc (.cells #[.int .u8 (48 + (u : Int))] 5)) (by omega) (by simp)
      go_enter Tryd.func44, Tryd.ntmps44
      go_wp2
      go_ret
      exact ⟨by rw [hD.out]; rfl, (Below.refl _ _).alloc (Nat.le_refl _) _⟩
    · match n with
      | 0 => omega
      | n + 1 =>
        have IH := Hid.mk' (sUDec_c n (u / 10) (by omega) (by omega))
        rw [show ((u / 10 : Nat) : Int) = (u : Int) / 10 by simp] at IH
        have h' : ¬ (u : Int) < 10 := by omega
        have hD : Hid (Lib.decDigits u = Lib.decDigits (u / 10) ++ [d8 (48 + u % 10)]) := by
          show _ = _
          rw [Lib.decDigits, dif_neg h]; rfl
        have hz1 : ¬ 9223372036854775807 < (S (Lib.decDigits (u / 10))).size + (S [d8 (48 + u % 10)]).size := by
          have := dec_len (u / 10) (by omega)
          rw [S_size, S_size, List.length_singleton]; omega
        have CV := Hid.mk' (fun (b : Nat) (W : World) (h : W.cell? ⟨b, 0, none⟩ = some (.int .u8 (48 + (u : Int) % 10))) => conv1 (48 + u % 10) b 1 W (by omega) (by rw [h]; simp))
        have hm : (u : Int).tmod 10 = (u : Int) % 10 := by rw [Int.tmod_eq_emod_of_nonneg (by omega)]
        have hw1 : IntKind.u64.wrap ((u : Int) / 10) = (u : Int) / 10 := by rw [IntKind.wrap_u64]; omega
        have hw2 : IntKind.u64.wrap (48 + (u : Int) % 10) = 48 + (u : Int) % 10 := by rw [IntKind.wrap_u64]; omega
        have hw3 : IntKind.u8.wrap (48 + (u : Int) % 10) = 48 + (u : Int) % 10 := by rw [IntKind.wrap_u8]; omega
        go_enter Tryd.func44, Tryd.ntmps44
        go_wp2_with fail
        have QV := CV.out
        go_region_law (first
          | (go_simp
             go_at_call 44
             refine (IH.out _).mono ?_
             rintro e w1 ⟨rfl, hb⟩
             have hb2 : Below w.heap.size w w1 := by first | exact (Below.refl _ _).drew.trans hb | exact ((Below.refl _ _).alloc (Nat.le_refl _) _).trans (hb.mono (by simp)) | exact ((Below.refl _ _).alloc (Nat.le_refl _) _).drew.trans (hb.mono (by simp))
             have HBc := fun (p : Addr) hp => hb.cell (p := p) hp
             simp only [World.cell?_drew] at HBc
             have B1 := Hid.mk' hb2
             clear hb hb2))
        all_goals
          go_wp2_with fail
          go_ret
          refine ⟨by rw [hD.out, ← S_app]; rfl, ?_⟩
          first | exact B1.out | exact B1.out.alloc B1.out.size _ | exact (B1.out.drew).alloc B1.out.size _
end Go.Proofs.YtgjpgcfpgeonlaaDoor
