import Derived.Test.YtejkdbnngphgaaaGreatDoorGaa
set_option linter.all false
set_option maxHeartbeats 400000000
set_option maxRecDepth 100000
namespace Go.Proofs
open Value renaming int->U
open IntKind renaming i64->O
open Ending renaming returned->Z
open Go renaming World->J,Calls->Ec
open Go.RowKit renaming Below->Bw
open Tryz renaming prog->Q
open Tryz
namespace YtejkdbnngphgaaaGreatDoor
open Go.RowKit
theorem opTests_c (p:Nat)(w:J)(h1:69<=p)(a:p<103):Ec Q 207 #[U O p] w λe w'=>e=Z (JN (Qe p))/\Bw w.heap.size w w':=by
 generalize hr:Qe p=r;have b:R54[p]?=some r:=by rw[<- hr];exact R54_at p h1 a
 go_enter func207,ntmps207;go_wp2_with fail
 rw[idxT underlying264 R54 (p:=p) (r:=r) (hr:=b) (hp:=a)];case hv=>kernel_rfl
 simp only[Result.andThen_ok];go_wp2;exact bodyPost_ret (v:=JN r) (by simp[results,results207,go_sem]) rfl ⟨rfl,by repeat (first|exact bFz|refine Below.setCell ?_ (by first|(simp;done)|(simp;omega)) _|refine Below.alloc ?_ (by first|(simp;done)|(simp;omega)) _|apply Below.drew)⟩
