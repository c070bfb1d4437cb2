import Derived.Test.YtedcmcdbejjgcaaGreatGaa
set_option linter.all false
set_option maxHeartbeats 400000000
set_option maxRecDepth 100000
namespace Go.Proofs.YtedcmcdbejjgcaaGreat
open Go.RowKit
theorem opControl_c (p:Nat)(w:World)(h1:0<=p)(a:p<40) :
    Calls Tryz.prog 344 #[.int .i64 p] w λe w'=>e=.returned (Xv (Qr p))/\Below w.heap.size w w':=by
 generalize hr:Qr p=r;have b:R52[p]?=some r:=by rw [<- hr];exact R52_at p h1 a
 go_enter Tryz.func344,Tryz.ntmps344
 go_wp2_with fail
 rw [idxT Tryz.underlying354 R52 (p:=p) (r:=r) (hr:=b) (hp:=a)]
 case hv=>kernel_rfl
 simp only [Result.andThen_ok]
 go_wp2
 exact bodyPost_ret (v:=Xv r) (by simp [results,Tryz.results344,go_sem]) rfl ⟨rfl,by repeat (first|exact bF|refine Below.setCell ?_ (by first|(simp;done)|(simp;omega)) _|refine Below.alloc ?_ (by first|(simp;done)|(simp;omega)) _|apply Below.drew)⟩
end Go.Proofs.YtedcmcdbejjgcaaGreat
