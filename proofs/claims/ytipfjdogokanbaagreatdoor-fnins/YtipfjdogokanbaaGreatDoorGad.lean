import Derived.Test.YtipfjdogokanbaaGreatDoorGaa
set_option linter.all false
set_option maxHeartbeats 400000000
set_option maxRecDepth 100000
set_option linter.all false
namespace Go.Proofs.YtipfjdogokanbaaGreatDoor
open Go.RowKit
theorem opFloats_c (p:Nat)(w:World)(h1:139<=p)(h2:p<167) :
    Calls Tryz.prog 145 #[.int .i64 p] w λe w'=>e=.returned (JR (Qb p))/\Below w.heap.size w w':=by
 generalize hr:Qb p=r;have hR:R56[p]?=some r:=by rw [<- hr];exact R56_at p h1 h2
 go_enter Tryz.func145,Tryz.ntmps145
 go_wp2_with fail
 rw [idxT Tryz.underlying228 R56 (p:=p) (r:=r) (hr:=hR) (hp:=h2)]
 case hv=>kernel_rfl
 simp only [Result.andThen_ok]
 go_wp2
 exact bodyPost_ret (v:=JR r) (by simp [results,Tryz.results145,go_sem]) rfl ⟨rfl,by repeat (first|exact Below.refl _ _|refine Below.setCell ?_ (by first|(simp;done)|(simp;omega)) _|refine Below.alloc ?_ (by first|(simp;done)|(simp;omega)) _|apply Below.drew)⟩
end Go.Proofs.YtipfjdogokanbaaGreatDoor
set_option linter.all false
namespace Go.Proofs.YtipfjdogokanbaaGreatDoor
open Go.RowKit
theorem opConversions_c (p:Nat)(w:World)(h1:167<=p)(h2:p<192) :
    Calls Tryz.prog 146 #[.int .i64 p] w λe w'=>e=.returned (JR (Qb p))/\Below w.heap.size w w':=by
 generalize hr:Qb p=r;have hR:R57[p]?=some r:=by rw [<- hr];exact R57_at p h1 h2
 go_enter Tryz.func146,Tryz.ntmps146
 go_wp2_with fail
 rw [idxT Tryz.underlying229 R57 (p:=p) (r:=r) (hr:=hR) (hp:=h2)]
 case hv=>kernel_rfl
 simp only [Result.andThen_ok]
 go_wp2
 exact bodyPost_ret (v:=JR r) (by simp [results,Tryz.results146,go_sem]) rfl ⟨rfl,by repeat (first|exact Below.refl _ _|refine Below.setCell ?_ (by first|(simp;done)|(simp;omega)) _|refine Below.alloc ?_ (by first|(simp;done)|(simp;omega)) _|apply Below.drew)⟩
end Go.Proofs.YtipfjdogokanbaaGreatDoor
