import Derived.Test.YtdbmolambolmgaaGreatGa
set_option linter.all false
set_option maxHeartbeats 16000000
set_option maxRecDepth 100000
namespace Go.Proofs.YtdbmolambolmgaaGreat
open Go.RowKit
set_option maxRecDepth 100000
theorem opFloats_c (p:Nat) (w:World) (h1:139≤p) (h2:p<167) :
    Calls Tryz.prog 247 #[.int .i64 p] w fun e w'=>e=.returned (rowV (rowOf p))∧Below w.heap.size w w':=by
 generalize hr:rowOf p=r
 have hR:R56[p]?=some r:=by rw [← hr];exact R56_at p h1 h2
 go_enter Tryz.func247,Tryz.ntmps247
 go_wp2_with fail
 rw [idxT Tryz.underlying318 R56 (p:=p) (r:=r) (hr:=hR) (hp:=h2)]
 case hv=>kernel_rfl
 simp only [Result.andThen_ok]
 go_wp2
 exact bodyPost_ret (v:=rowV r) (by simp [results,Tryz.results247,go_sem]) rfl ⟨rfl,by repeat (first | exact Below.refl _ _ | refine Below.setCell ?_ (by first | (simp;done) | (simp;omega)) _ | refine Below.alloc ?_ (by first | (simp;done) | (simp;omega)) _ | apply Below.drew)⟩
open Go.RowKit
theorem opConversions_c (p:Nat) (w:World) (h1:167≤p) (h2:p<192) :
    Calls Tryz.prog 248 #[.int .i64 p] w fun e w'=>e=.returned (rowV (rowOf p))∧Below w.heap.size w w':=by
 generalize hr:rowOf p=r
 have hR:R57[p]?=some r:=by rw [← hr];exact R57_at p h1 h2
 go_enter Tryz.func248,Tryz.ntmps248
 go_wp2_with fail
 rw [idxT Tryz.underlying319 R57 (p:=p) (r:=r) (hr:=hR) (hp:=h2)]
 case hv=>kernel_rfl
 simp only [Result.andThen_ok]
 go_wp2
 exact bodyPost_ret (v:=rowV r) (by simp [results,Tryz.results248,go_sem]) rfl ⟨rfl,by repeat (first | exact Below.refl _ _ | refine Below.setCell ?_ (by first | (simp;done) | (simp;omega)) _ | refine Below.alloc ?_ (by first | (simp;done) | (simp;omega)) _ | apply Below.drew)⟩
end Go.Proofs.YtdbmolambolmgaaGreat
