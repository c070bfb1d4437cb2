import Derived.Test.YtedcmcdbejjgcaaGreatGaa
set_option linter.all false
set_option maxHeartbeats 400000000
set_option maxRecDepth 100000
namespace Go.Proofs.YtedcmcdbejjgcaaGreat
open Go.RowKit
theorem opFloats_c (p:Nat)(w:World)(h1:139<=p)(a:p<167) :
    Calls Tryz.prog 348 #[.int .i64 p] w λe w'=>e=.returned (Xv (Qr p))/\Below w.heap.size w w':=by
 generalize hr:Qr p=r;have b:R56[p]?=some r:=by rw [<- hr];exact R56_at p h1 a
 go_enter Tryz.func348,Tryz.ntmps348
 go_wp2_with fail
 rw [idxT Tryz.underlying358 R56 (p:=p) (r:=r) (hr:=b) (hp:=a)]
 case hv=>kernel_rfl
 simp only [Result.andThen_ok]
 go_wp2
 exact bodyPost_ret (v:=Xv r) (by simp [results,Tryz.results348,go_sem]) rfl ⟨rfl,by repeat (first|exact bF|refine Below.setCell ?_ (by first|(simp;done)|(simp;omega)) _|refine Below.alloc ?_ (by first|(simp;done)|(simp;omega)) _|apply Below.drew)⟩
end Go.Proofs.YtedcmcdbejjgcaaGreat
