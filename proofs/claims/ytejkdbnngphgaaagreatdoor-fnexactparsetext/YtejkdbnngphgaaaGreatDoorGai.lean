import Derived.Test.YtejkdbnngphgaaaGreatDoorGaa
set_option linter.all false
set_option maxHeartbeats 400000000
set_option maxRecDepth 100000
namespace Go.Proofs
open Value renaming int->U
open IntKind renaming i64->O
open Ending renaming returned->Z
open Go renaming World->J,Calls->Ec
open Go.RowKit renaming Below->Bw
open Tryz renaming prog->Q
open Tryz
namespace YtejkdbnngphgaaaGreatDoor
open Go.RowKit
theorem opIntegers_c (p:Nat)(w:J)(h1:103<=p)(a:p<139):Ec Q 208 #[U O p] w λe w'=>e=Z (JN (Qe p))/\Bw w.heap.size w w':=by
 generalize hr:Qe p=r;have b:R55[p]?=some r:=by rw[<- hr];exact R55_at p h1 a
 go_enter func208,ntmps208;go_wp2_with fail
 rw[idxT underlying265 R55 (p:=p) (r:=r) (hr:=b) (hp:=a)];case hv=>kernel_rfl
 simp only[Result.andThen_ok];go_wp2;exact bodyPost_ret (v:=JN r) (by simp[results,results208,go_sem]) rfl ⟨rfl,by repeat (first|exact bFz|refine Below.setCell ?_ (by first|(simp;done)|(simp;omega)) _|refine Below.alloc ?_ (by first|(simp;done)|(simp;omega)) _|apply Below.drew)⟩
