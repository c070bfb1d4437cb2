import Derived.Test.YtipfjdogokanbaaGreatDoorGaa
set_option linter.all false
set_option maxHeartbeats 400000000
set_option maxRecDepth 100000
set_option linter.all false
namespace Go.Proofs.YtipfjdogokanbaaGreatDoor
open Go.RowKit
theorem opTests_c (p:Nat)(w:World)(h1:69<=p)(h2:p<103) :
    Calls Tryz.prog 143 #[.int .i64 p] w λe w'=>e=.returned (JR (Qb p))/\Below w.heap.size w w':=by
 generalize hr:Qb p=r;have hR:R54[p]?=some r:=by rw [<- hr];exact R54_at p h1 h2
 go_enter Tryz.func143,Tryz.ntmps143
 go_wp2_with fail
 rw [idxT Tryz.underlying226 R54 (p:=p) (r:=r) (hr:=hR) (hp:=h2)]
 case hv=>kernel_rfl
 simp only [Result.andThen_ok]
 go_wp2
 exact bodyPost_ret (v:=JR r) (by simp [results,Tryz.results143,go_sem]) rfl ⟨rfl,by repeat (first|exact Below.refl _ _|refine Below.setCell ?_ (by first|(simp;done)|(simp;omega)) _|refine Below.alloc ?_ (by first|(simp;done)|(simp;omega)) _|apply Below.drew)⟩
end Go.Proofs.YtipfjdogokanbaaGreatDoor
set_option linter.all false
namespace Go.Proofs.YtipfjdogokanbaaGreatDoor
open Go.RowKit
theorem opIntegers_c (p:Nat)(w:World)(h1:103<=p)(h2:p<139) :
    Calls Tryz.prog 144 #[.int .i64 p] w λe w'=>e=.returned (JR (Qb p))/\Below w.heap.size w w':=by
 generalize hr:Qb p=r;have hR:R55[p]?=some r:=by rw [<- hr];exact R55_at p h1 h2
 go_enter Tryz.func144,Tryz.ntmps144
 go_wp2_with fail
 rw [idxT Tryz.underlying227 R55 (p:=p) (r:=r) (hr:=hR) (hp:=h2)]
 case hv=>kernel_rfl
 simp only [Result.andThen_ok]
 go_wp2
 exact bodyPost_ret (v:=JR r) (by simp [results,Tryz.results144,go_sem]) rfl ⟨rfl,by repeat (first|exact Below.refl _ _|refine Below.setCell ?_ (by first|(simp;done)|(simp;omega)) _|refine Below.alloc ?_ (by first|(simp;done)|(simp;omega)) _|apply Below.drew)⟩
end Go.Proofs.YtipfjdogokanbaaGreatDoor
