import Derived.Test.YtdbmolambolmgaaGreatU1
set_option linter.all false
namespace Go.Proofs.YtdbmolambolmgaaGreat
open Go.RowKit
set_option maxHeartbeats 1000000 in
theorem utf8Lead_any (c : Int) (w : World) (h0 : 0 ≤ c) (h1 : c ≤ 255) :
    Calls Tryz.prog 217 #[.int .u8 c] w fun e w' => e = .returned (.tuple #[.int .i64 (ldN c), .int .u8 (ldLo c), .int .u8 (ldHi c)]) ∧ w = w' := by
  rcases (show c < 128 ∨ (128 ≤ c ∧ c < 194) ∨ (194 ≤ c ∧ c < 224) ∨ c = 224 ∨ (225 ≤ c ∧ c < 237) ∨ c = 237 ∨ (238 ≤ c ∧ c < 240) ∨ c = 240 ∨ (241 ≤ c ∧ c < 244) ∨ c = 244 ∨ 244 < c by omega) with h | ⟨h, h'⟩ | ⟨h, h'⟩ | rfl | ⟨h, h'⟩ | rfl | ⟨h, h'⟩ | rfl | ⟨h, h'⟩ | rfl | h
  · rw [show ldN c = 0 by unfold ldN; omega, show ldLo c = 0 by unfold ldLo; omega, show ldHi c = 0 by unfold ldHi; omega]
    go_enter Tryz.func217, Tryz.ntmps217
    go_wp2
    go_ret3
    exact ⟨rfl, rfl⟩
  · rw [show ldN c = -1 by unfold ldN; omega, show ldLo c = 0 by unfold ldLo; omega, show ldHi c = 0 by unfold ldHi; omega]
    go_enter Tryz.func217, Tryz.ntmps217
    go_wp2
    go_ret3
    exact ⟨rfl, rfl⟩
  · rw [show ldN c = 1 by unfold ldN; omega, show ldLo c = 128 by unfold ldLo; omega, show ldHi c = 191 by unfold ldHi; omega]
    go_enter Tryz.func217, Tryz.ntmps217
    go_wp2
    go_ret3
    exact ⟨rfl, rfl⟩
  · rw [show ldN 224 = 2 by decide, show ldLo 224 = 160 by decide, show ldHi 224 = 191 by decide]
    go_enter Tryz.func217, Tryz.ntmps217
    go_wp2
    go_ret3
    exact ⟨rfl, rfl⟩
  · rw [show ldN c = 2 by unfold ldN; omega, show ldLo c = 128 by unfold ldLo; omega, show ldHi c = 191 by unfold ldHi; omega]
    go_enter Tryz.func217, Tryz.ntmps217
    go_wp2
    go_ret3
    exact ⟨rfl, rfl⟩
  · rw [show ldN 237 = 2 by decide, show ldLo 237 = 128 by decide, show ldHi 237 = 159 by decide]
    go_enter Tryz.func217, Tryz.ntmps217
    go_wp2
    go_ret3
    exact ⟨rfl, rfl⟩
  · rw [show ldN c = 2 by unfold ldN; omega, show ldLo c = 128 by unfold ldLo; omega, show ldHi c = 191 by unfold ldHi; omega]
    go_enter Tryz.func217, Tryz.ntmps217
    go_wp2
    go_ret3
    exact ⟨rfl, rfl⟩
  · rw [show ldN 240 = 3 by decide, show ldLo 240 = 144 by decide, show ldHi 240 = 191 by decide]
    go_enter Tryz.func217, Tryz.ntmps217
    go_wp2
    go_ret3
    exact ⟨rfl, rfl⟩
  · rw [show ldN c = 3 by unfold ldN; omega, show ldLo c = 128 by unfold ldLo; omega, show ldHi c = 191 by unfold ldHi; omega]
    go_enter Tryz.func217, Tryz.ntmps217
    go_wp2
    go_ret3
    exact ⟨rfl, rfl⟩
  · rw [show ldN 244 = 3 by decide, show ldLo 244 = 128 by decide, show ldHi 244 = 143 by decide]
    go_enter Tryz.func217, Tryz.ntmps217
    go_wp2
    go_ret3
    exact ⟨rfl, rfl⟩
  · rw [show ldN c = -1 by unfold ldN; omega, show ldLo c = 0 by unfold ldLo; omega, show ldHi c = 0 by unfold ldHi; omega]
    go_enter Tryz.func217, Tryz.ntmps217
    go_wp2
    go_ret3
    exact ⟨rfl, rfl⟩
end Go.Proofs.YtdbmolambolmgaaGreat
