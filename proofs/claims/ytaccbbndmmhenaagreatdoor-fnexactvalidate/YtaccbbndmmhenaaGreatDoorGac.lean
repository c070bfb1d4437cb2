import Derived.Test.YtaccbbndmmhenaaGreatDoorGaa
set_option linter.all false
set_option maxHeartbeats 400000000
set_option maxRecDepth 100000
namespace Go.Proofs
open Value renaming int->U
open IntKind renaming i64->O
open Ending renaming returned->Z
open Go renaming World->J,Calls->Ec
open Tryz renaming prog->Q
open Tryz
namespace YtaccbbndmmhenaaGreatDoor
open Go.RowKit
theorem opControl_c (p:Nat)(w:J)(c:0<=p)(a:p<40):Ec Q 243 #[U O p] w λe w'=>e=Z (Xf (Qb p))/\Below w.heap.size w w':=by
 generalize hr:Qb p=r;have b:R52[p]?=some r:=by rw[<- hr];exact R52_at p c a
 go_enter func243,ntmps243;go_wp2_with fail
 rw[idxT underlying365 R52 (p:=p) (r:=r) (hr:=b) (hp:=a)];case hv=>kernel_rfl
 simp only[Result.andThen_ok];go_wp2;exact bodyPost_ret (v:=Xf r) (by simp[results,results243,go_sem]) rfl ⟨rfl,by repeat (first|exact bFz|refine Below.setCell ?_ (by first|(simp;done)|(simp;omega)) _|refine Below.alloc ?_ (by first|(simp;done)|(simp;omega)) _|apply Below.drew)⟩
