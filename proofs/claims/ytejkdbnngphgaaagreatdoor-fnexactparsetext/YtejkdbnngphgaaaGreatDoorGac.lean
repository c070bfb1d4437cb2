import Derived.Test.YtejkdbnngphgaaaGreatDoorGaa
set_option linter.all false
set_option maxHeartbeats 400000000
set_option maxRecDepth 100000
namespace Go.Proofs
open Value renaming int->U,bool->G
open IntKind renaming i64->O
open Ending renaming returned->Z
open Go renaming World->J,Calls->Ec
open Go.RowKit renaming Below->Bw
open Tryz renaming prog->Q
open Tryz
namespace YtejkdbnngphgaaaGreatDoor
open Go.RowKit
theorem l1In_c (x lo hi:Int)(w:J):Ec Q 146 #[U O x,U O lo,U O hi] w λe w'=>e=Z (G (decide (lo<=x/\x<=hi)))/\w=w':=by
 by_cases b:lo<=x
 . by_cases a:x<=hi
   . go_enter func146,ntmps146;go_wp2;go_ret;exact⟨by simp[b,a],rfl⟩
   go_enter func146,ntmps146;go_wp2;go_ret;exact⟨by simp[b,a],rfl⟩
 go_enter func146,ntmps146;go_wp2;go_ret;have c:(decide (lo<=x)&&decide (x<=hi))=false:=by simp;omega
 rw[c];exact⟨rfl,rfl⟩
theorem l1In_t (x lo hi:Int)(w:J)(h:lo<=x/\x<=hi):Ec Q 146 #[U O x,U O lo,U O hi] w λe w'=>e=Z (G true)/\w=w' :=
 (l1In_c x lo hi w).mono λe w' ⟨a,b⟩=>⟨by simpa[h.1,h.2]using a,b⟩
theorem l1In_f (x lo hi:Int)(w:J)(h:¬(lo<=x/\x<=hi)):Ec Q 146 #[U O x,U O lo,U O hi] w λe w'=>e=Z (G false)/\w=w' :=
 (l1In_c x lo hi w).mono λe w' ⟨a,b⟩=>⟨by rw[a,decide_eq_false h],b⟩
theorem rng (lo n:Nat)(f:Nat->Bool)(h:(List.range n).all (λi=>f (lo+i))=true)(p:Int)(h1:(lo:Int)<=p)(a:p<(lo+n:Nat)):f p.toNat=true:=by
 have:=List.all_eq_true.1 h (p.toNat-lo) (by simp;omega);rw[<- this];congr 1;omega
def QD (r:Row):Int:=if r.nm.size=0 then -1 else r.f
theorem known_t (p:Int)(w:J)(h:(0<=p/\p<=5)\/(11<=p/\p<=17)\/(26<=p/\p<=26)\/(27<=p/\p<=27)\/(32<=p/\p<=36)\/(40<=p/\p<=191)):Ec Q 142 #[U O p] w λe w'=>e=Z (G true)/\w=w':=by
 rcases h with h|h|h|h|h|h
 all_goals
  first|have c : (p == (26 : Int)) = false := by simp; omega
        |have c:(p==(26:Int))=true:=by simp;omega
  first|have b : (p == (27 : Int)) = false := by simp; omega
        |have b:(p==(27:Int))=true:=by simp;omega
  go_enter func142,ntmps142
  go_wp2_with (first|(go_at_call 146;refine(l1In_f _ _ _ _ (by omega)).mono ?_;rintro e a ⟨rfl,rfl⟩)|(go_at_call 146;refine(l1In_t _ _ _ _ (by omega)).mono ?_;rintro e a ⟨rfl,rfl⟩))
  go_ret
  exact⟨rfl,rfl⟩
theorem known_f (p:Int)(w:J)(h:(p<=-1)\/(6<=p/\p<=10)\/(18<=p/\p<=25)\/(28<=p/\p<=31)\/(37<=p/\p<=39)\/(192<=p)):Ec Q 142 #[U O p] w λe w'=>e=Z (G false)/\w=w':=by
 rcases h with h|h|h|h|h|h
 all_goals
  first|have c : (p == (26 : Int)) = false := by simp; omega
        |have c:(p==(26:Int))=true:=by simp;omega
  first|have b : (p == (27 : Int)) = false := by simp; omega
        |have b:(p==(27:Int))=true:=by simp;omega
  go_enter func142,ntmps142
  go_wp2_with (first|(go_at_call 146;refine(l1In_f _ _ _ _ (by omega)).mono ?_;rintro e a ⟨rfl,rfl⟩)|(go_at_call 146;refine(l1In_t _ _ _ _ (by omega)).mono ?_;rintro e a ⟨rfl,rfl⟩))
  go_ret
  exact⟨rfl,rfl⟩
theorem opFloats_c (p:Nat)(w:J)(h1:139<=p)(a:p<167):Ec Q 209 #[U O p] w λe w'=>e=Z (JN (Qe p))/\Bw w.heap.size w w':=by
 generalize hr:Qe p=r;have b:R56[p]?=some r:=by rw[<- hr];exact R56_at p h1 a
 go_enter func209,ntmps209;go_wp2_with fail
 rw[idxT underlying266 R56 (p:=p) (r:=r) (hr:=b) (hp:=a)];case hv=>kernel_rfl
 simp only[Result.andThen_ok];go_wp2;exact bodyPost_ret (v:=JN r) (by simp[results,results209,go_sem]) rfl ⟨rfl,by repeat (first|exact bFz|refine Below.setCell ?_ (by first|(simp;done)|(simp;omega)) _|refine Below.alloc ?_ (by first|(simp;done)|(simp;omega)) _|apply Below.drew)⟩
