import Derived.Test.YtdbmolambolmgaaGreatGa
set_option linter.all false
set_option maxHeartbeats 16000000
set_option maxRecDepth 100000
namespace Go.Proofs.YtdbmolambolmgaaGreat
open Go.RowKit
set_option maxRecDepth 100000
theorem opControl_c (p:Nat) (w:World) (h1:0≤p) (h2:p<40) :
    Calls Tryz.prog 243 #[.int .i64 p] w fun e w'=>e=.returned (rowV (rowOf p))∧Below w.heap.size w w':=by
 generalize hr:rowOf p=r
 have hR:R52[p]?=some r:=by rw [← hr];exact R52_at p h1 h2
 go_enter Tryz.func243,Tryz.ntmps243
 go_wp2_with fail
 rw [idxT Tryz.underlying314 R52 (p:=p) (r:=r) (hr:=hR) (hp:=h2)]
 case hv=>kernel_rfl
 simp only [Result.andThen_ok]
 go_wp2
 exact bodyPost_ret (v:=rowV r) (by simp [results,Tryz.results243,go_sem]) rfl ⟨rfl,by repeat (first | exact Below.refl _ _ | refine Below.setCell ?_ (by first | (simp;done) | (simp;omega)) _ | refine Below.alloc ?_ (by first | (simp;done) | (simp;omega)) _ | apply Below.drew)⟩
open Go.RowKit
theorem opMemory_c (p:Nat) (w:World) (h1:40≤p) (h2:p<69) :
    Calls Tryz.prog 244 #[.int .i64 p] w fun e w'=>e=.returned (rowV (rowOf p))∧Below w.heap.size w w':=by
 generalize hr:rowOf p=r
 have hR:R53[p]?=some r:=by rw [← hr];exact R53_at p h1 h2
 go_enter Tryz.func244,Tryz.ntmps244
 go_wp2_with fail
 rw [idxT Tryz.underlying315 R53 (p:=p) (r:=r) (hr:=hR) (hp:=h2)]
 case hv=>kernel_rfl
 simp only [Result.andThen_ok]
 go_wp2
 exact bodyPost_ret (v:=rowV r) (by simp [results,Tryz.results244,go_sem]) rfl ⟨rfl,by repeat (first | exact Below.refl _ _ | refine Below.setCell ?_ (by first | (simp;done) | (simp;omega)) _ | refine Below.alloc ?_ (by first | (simp;done) | (simp;omega)) _ | apply Below.drew)⟩
end Go.Proofs.YtdbmolambolmgaaGreat
