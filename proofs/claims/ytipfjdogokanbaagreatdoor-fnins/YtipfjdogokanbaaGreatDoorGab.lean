import Derived.Test.YtipfjdogokanbaaGreatDoorGaa
set_option linter.all false
set_option maxHeartbeats 400000000
set_option maxRecDepth 100000
set_option linter.all false
namespace Go.Proofs.YtipfjdogokanbaaGreatDoor
open Go.RowKit
theorem opControl_c (p:Nat)(w:World)(h1:0<=p)(h2:p<40) :
    Calls Tryz.prog 141 #[.int .i64 p] w λe w'=>e=.returned (JR (Qb p))/\Below w.heap.size w w':=by
 generalize hr:Qb p=r;have hR:R52[p]?=some r:=by rw [<- hr];exact R52_at p h1 h2
 go_enter Tryz.func141,Tryz.ntmps141
 go_wp2_with fail
 rw [idxT Tryz.underlying224 R52 (p:=p) (r:=r) (hr:=hR) (hp:=h2)]
 case hv=>kernel_rfl
 simp only [Result.andThen_ok]
 go_wp2
 exact bodyPost_ret (v:=JR r) (by simp [results,Tryz.results141,go_sem]) rfl ⟨rfl,by repeat (first|exact Below.refl _ _|refine Below.setCell ?_ (by first|(simp;done)|(simp;omega)) _|refine Below.alloc ?_ (by first|(simp;done)|(simp;omega)) _|apply Below.drew)⟩
end Go.Proofs.YtipfjdogokanbaaGreatDoor
set_option linter.all false
namespace Go.Proofs.YtipfjdogokanbaaGreatDoor
open Go.RowKit
theorem opMemory_c (p:Nat)(w:World)(h1:40<=p)(h2:p<69) :
    Calls Tryz.prog 142 #[.int .i64 p] w λe w'=>e=.returned (JR (Qb p))/\Below w.heap.size w w':=by
 generalize hr:Qb p=r;have hR:R53[p]?=some r:=by rw [<- hr];exact R53_at p h1 h2
 go_enter Tryz.func142,Tryz.ntmps142
 go_wp2_with fail
 rw [idxT Tryz.underlying225 R53 (p:=p) (r:=r) (hr:=hR) (hp:=h2)]
 case hv=>kernel_rfl
 simp only [Result.andThen_ok]
 go_wp2
 exact bodyPost_ret (v:=JR r) (by simp [results,Tryz.results142,go_sem]) rfl ⟨rfl,by repeat (first|exact Below.refl _ _|refine Below.setCell ?_ (by first|(simp;done)|(simp;omega)) _|refine Below.alloc ?_ (by first|(simp;done)|(simp;omega)) _|apply Below.drew)⟩
end Go.Proofs.YtipfjdogokanbaaGreatDoor
