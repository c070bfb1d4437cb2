import Derived.Test.YtaccbbndmmhenaaGreatGaa
set_option linter.all false
set_option maxHeartbeats 400000000
set_option maxRecDepth 100000
namespace Go.Proofs
open Value renaming int->U,string->Xs
open IntKind renaming i64->O
open Ending renaming returned->Z
open Obj renaming cells->Fc
open Go renaming World->J,Calls->Ec,Value->Vu
open Go.RowKit renaming Below->Bw
open Tryz renaming prog->Q
open Tryz
open Result renaming andThen_ok->Hc
open RowKit.Below renaming drew->Pj
open List renaming length->N
namespace YtaccbbndmmhenaaGreat
open Go.RowKit
theorem opControl_c (p:Nat)(w:J)(c:0<=p)(a:p<40):Ec Q 258 #[U O p] w λe w'=>e=Z (Xg (Qa p))/\Bw w.heap.size w w':=by
 generalize hr:Qa p=r;have b:R52[p]?=some r:=by rw[<- hr];exact R52_at p c a
 go_enter func258,ntmps258;go_wp2_with fail
 rw[idxT underlying361 R52 (p:=p) (r:=r) (hr:=b) (hp:=a)];case hv=>kernel_rfl
 simp only[Hc];go_wp2;exact bodyPost_ret (v:=Xg r) (by simp[results,results258,go_sem]) rfl ⟨rfl,by repeat (first|exact bFz|refine Below.setCell ?_ (by first|(simp;done)|(simp;omega)) _|refine Below.alloc ?_ (by first|(simp;done)|(simp;omega)) _|apply Pj)⟩
theorem opMemory_c (p:Nat)(w:J)(c:40<=p)(a:p<69):Ec Q 259 #[U O p] w λe w'=>e=Z (Xg (Qa p))/\Bw w.heap.size w w':=by
 generalize hr:Qa p=r;have b:R53[p]?=some r:=by rw[<- hr];exact R53_at p c a
 go_enter func259,ntmps259;go_wp2_with fail
 rw[idxT underlying362 R53 (p:=p) (r:=r) (hr:=b) (hp:=a)];case hv=>kernel_rfl
 simp only[Hc];go_wp2;exact bodyPost_ret (v:=Xg r) (by simp[results,results259,go_sem]) rfl ⟨rfl,by repeat (first|exact bFz|refine Below.setCell ?_ (by first|(simp;done)|(simp;omega)) _|refine Below.alloc ?_ (by first|(simp;done)|(simp;omega)) _|apply Pj)⟩
theorem opTests_c (p:Nat)(w:J)(c:69<=p)(a:p<103):Ec Q 260 #[U O p] w λe w'=>e=Z (Xg (Qa p))/\Bw w.heap.size w w':=by
 generalize hr:Qa p=r;have b:R54[p]?=some r:=by rw[<- hr];exact R54_at p c a
 go_enter func260,ntmps260;go_wp2_with fail
 rw[idxT underlying363 R54 (p:=p) (r:=r) (hr:=b) (hp:=a)];case hv=>kernel_rfl
 simp only[Hc];go_wp2;exact bodyPost_ret (v:=Xg r) (by simp[results,results260,go_sem]) rfl ⟨rfl,by repeat (first|exact bFz|refine Below.setCell ?_ (by first|(simp;done)|(simp;omega)) _|refine Below.alloc ?_ (by first|(simp;done)|(simp;omega)) _|apply Pj)⟩
theorem opIntegers_c (p:Nat)(w:J)(c:103<=p)(a:p<139):Ec Q 261 #[U O p] w λe w'=>e=Z (Xg (Qa p))/\Bw w.heap.size w w':=by
 generalize hr:Qa p=r;have b:R55[p]?=some r:=by rw[<- hr];exact R55_at p c a
 go_enter func261,ntmps261;go_wp2_with fail
 rw[idxT underlying364 R55 (p:=p) (r:=r) (hr:=b) (hp:=a)];case hv=>kernel_rfl
 simp only[Hc];go_wp2;exact bodyPost_ret (v:=Xg r) (by simp[results,results261,go_sem]) rfl ⟨rfl,by repeat (first|exact bFz|refine Below.setCell ?_ (by first|(simp;done)|(simp;omega)) _|refine Below.alloc ?_ (by first|(simp;done)|(simp;omega)) _|apply Pj)⟩
theorem opFloats_c (p:Nat)(w:J)(c:139<=p)(a:p<167):Ec Q 262 #[U O p] w λe w'=>e=Z (Xg (Qa p))/\Bw w.heap.size w w':=by
 generalize hr:Qa p=r;have b:R56[p]?=some r:=by rw[<- hr];exact R56_at p c a
 go_enter func262,ntmps262;go_wp2_with fail
 rw[idxT underlying365 R56 (p:=p) (r:=r) (hr:=b) (hp:=a)];case hv=>kernel_rfl
 simp only[Hc];go_wp2;exact bodyPost_ret (v:=Xg r) (by simp[results,results262,go_sem]) rfl ⟨rfl,by repeat (first|exact bFz|refine Below.setCell ?_ (by first|(simp;done)|(simp;omega)) _|refine Below.alloc ?_ (by first|(simp;done)|(simp;omega)) _|apply Pj)⟩
theorem opConversions_c (p:Nat)(w:J)(c:167<=p)(a:p<192):Ec Q 263 #[U O p] w λe w'=>e=Z (Xg (Qa p))/\Bw w.heap.size w w':=by
 generalize hr:Qa p=r;have b:R57[p]?=some r:=by rw[<- hr];exact R57_at p c a
 go_enter func263,ntmps263;go_wp2_with fail
 rw[idxT underlying366 R57 (p:=p) (r:=r) (hr:=b) (hp:=a)];case hv=>kernel_rfl
 simp only[Hc];go_wp2;exact bodyPost_ret (v:=Xg r) (by simp[results,results263,go_sem]) rfl ⟨rfl,by repeat (first|exact bFz|refine Below.setCell ?_ (by first|(simp;done)|(simp;omega)) _|refine Below.alloc ?_ (by first|(simp;done)|(simp;omega)) _|apply Pj)⟩
theorem up1 {w w1:J}{o:Obj}(h:Bw (w.alloc o).heap.size (w.alloc o) w1):Bw w.heap.size w w1:=Below.trans (bFz.alloc lRz _) (h.mono (by simp))
theorem up2 {w w1:J}{o a:Obj}(h:Bw ((w.alloc o).alloc a).heap.size ((w.alloc o).alloc a) w1):Bw w.heap.size w w1:=up1 (up1 h)
theorem rowNew (w w1:J)(r:Row)(t:TypeId)(h:Bw (w.alloc (Fc (rowL r).toArray t)).heap.size (w.alloc (Fc (rowL r).toArray t)) w1):Bw w.heap.size w w1/\w1.cell? ⟨w.heap.size,0,none⟩=some (Xs r.nm)/\w1.cell? ⟨w.heap.size,1,none⟩=some (U O r.f)/\w1.cell? ⟨w.heap.size,2,none⟩=some (U O r.a)/\w1.cell? ⟨w.heap.size,3,none⟩=some (U O r.b)/\w1.cell? ⟨w.heap.size,4,none⟩=some (U O r.g)/\(∀i,w1.frozen? ⟨w.heap.size,i,none⟩=false):=by
 have c:w.heap.size<(w.alloc (Fc (rowL r).toArray t)).heap.size:=by simp
 refine⟨up1 h,?_,?_,?_,?_,?_,?_⟩
 . rw[h.cell (p:=⟨w.heap.size,0,none⟩) c];exact Qe rfl rfl
 . rw[h.cell (p:=⟨w.heap.size,1,none⟩) c];exact Qe rfl rfl
 . rw[h.cell (p:=⟨w.heap.size,2,none⟩) c];exact Qe rfl rfl
 . rw[h.cell (p:=⟨w.heap.size,3,none⟩) c];exact Qe rfl rfl
 . rw[h.cell (p:=⟨w.heap.size,4,none⟩) c];exact Qe rfl rfl
 intro i;rw[h.frozen (p:=⟨w.heap.size,i,none⟩) c];exact World.frozen?_alloc_new w _ t i
theorem set5 {w w1}(f d c b a:Vu)(b0:Bw w.heap.size w w1):Bw w.heap.size w (((((w1.setCell ⟨w.heap.size,0,none⟩ f).setCell ⟨w.heap.size,1,none⟩ d).setCell ⟨w.heap.size,2,none⟩ c).setCell ⟨w.heap.size,3,none⟩ b).setCell ⟨w.heap.size,4,none⟩ a) :=
 ((((b0.setCell (by simp) _).setCell (by simp) _).setCell (by simp) _).setCell (by simp) _).setCell (by simp) _
theorem find_o0 (p:Int)(w:J)(a:p<=-1):Ec Q 225 #[U O p] w λe w'=>e=Z (Xg Z0)/\Bw w.heap.size w w':=by
 have b:p<0:=by omega
 go_enter func225,ntmps225;go_wp2;exact bodyPost_ret (v:=Xg Z0) (by simp[results,results225,go_sem,Z0]) rfl ⟨rfl,by repeat (first|exact bFz|assumption|refine Below.setCell ?_ (by first|(simp;done)|(simp;omega)) _|refine Below.alloc ?_ (by first|(simp;done)|(simp;omega)) _|apply Pj)⟩
theorem find_o1 (p:Int)(w:J)(a:192<=p):Ec Q 225 #[U O p] w λe w'=>e=Z (Xg Z0)/\Bw w.heap.size w w':=by
 have b:¬p<0:=by omega
 go_enter func225,ntmps225;go_wp2;exact bodyPost_ret (v:=Xg Z0) (by simp[results,results225,go_sem,Z0]) rfl ⟨rfl,by repeat (first|exact bFz|assumption|refine Below.setCell ?_ (by first|(simp;done)|(simp;omega)) _|refine Below.alloc ?_ (by first|(simp;done)|(simp;omega)) _|apply Pj)⟩
theorem find_opControl (p:Nat)(w:J)(s:0<=p)(n:p<=39):Ec Q 225 #[U O p] w λe w'=>e=Z (Xg (Qa p))/\Bw w.heap.size w w':=by
 have b:=Hm (opControl_c p (w.alloc (Fc (rowL Z0).toArray 320)) (by omega) (by omega));generalize l:Qa p=r at *;generalize m:(p:Int)=q at *;have y:¬q<0:=by omega
 have u:q<40:=by omega
 go_enter func225,ntmps225;go_wp2_with fail
 refine(b.o).mono ?_;rintro e a ⟨rfl,c⟩;obtain⟨b0,k,j,g,f,d,t⟩:=rowNew w a Z0 320 c;go_wp2;exact bodyPost_ret (v:=Xg r) (by simp[results,results225,go_sem,k,j,g,f,d]) rfl ⟨rfl,set5 _ _ _ _ _ b0⟩
theorem find_opMemory (p:Nat)(w:J)(s:40<=p)(n:p<=68):Ec Q 225 #[U O p] w λe w'=>e=Z (Xg (Qa p))/\Bw w.heap.size w w':=by
 have b:=Hm (opMemory_c p (w.alloc (Fc (rowL Z0).toArray 320)) (by omega) (by omega));generalize l:Qa p=r at *;generalize m:(p:Int)=q at *;have z:¬q<0:=by omega
 have y:¬q<40:=by omega
 have u:q<69:=by omega
 go_enter func225,ntmps225;go_wp2_with fail
 refine(b.o).mono ?_;rintro e a ⟨rfl,c⟩;obtain⟨b0,k,j,g,f,d,t⟩:=rowNew w a Z0 320 c;go_wp2;exact bodyPost_ret (v:=Xg r) (by simp[results,results225,go_sem,k,j,g,f,d]) rfl ⟨rfl,set5 _ _ _ _ _ b0⟩
theorem find_opTests (p:Nat)(w:J)(s:69<=p)(n:p<=102):Ec Q 225 #[U O p] w λe w'=>e=Z (Xg (Qa p))/\Bw w.heap.size w w':=by
 have b:=Hm (opTests_c p (w.alloc (Fc (rowL Z0).toArray 320)) (by omega) (by omega));generalize l:Qa p=r at *;generalize m:(p:Int)=q at *;have A:¬q<0:=by omega
 have z:¬q<40:=by omega
 have y:¬q<69:=by omega
 have u:q<103:=by omega
 go_enter func225,ntmps225;go_wp2_with fail
 refine(b.o).mono ?_;rintro e a ⟨rfl,c⟩;obtain⟨b0,k,j,g,f,d,t⟩:=rowNew w a Z0 320 c;go_wp2;exact bodyPost_ret (v:=Xg r) (by simp[results,results225,go_sem,k,j,g,f,d]) rfl ⟨rfl,set5 _ _ _ _ _ b0⟩
theorem find_opIntegers (p:Nat)(w:J)(s:103<=p)(n:p<=138):Ec Q 225 #[U O p] w λe w'=>e=Z (Xg (Qa p))/\Bw w.heap.size w w':=by
 have b:=Hm (opIntegers_c p (w.alloc (Fc (rowL Z0).toArray 320)) (by omega) (by omega));generalize l:Qa p=r at *;generalize m:(p:Int)=q at *;have B:¬q<0:=by omega
 have A:¬q<40:=by omega
 have z:¬q<69:=by omega
 have y:¬q<103:=by omega
 have u:q<139:=by omega
 go_enter func225,ntmps225;go_wp2_with fail
 refine(b.o).mono ?_;rintro e a ⟨rfl,c⟩;obtain⟨b0,k,j,g,f,d,t⟩:=rowNew w a Z0 320 c;go_wp2;exact bodyPost_ret (v:=Xg r) (by simp[results,results225,go_sem,k,j,g,f,d]) rfl ⟨rfl,set5 _ _ _ _ _ b0⟩
theorem find_opFloats (p:Nat)(w:J)(s:139<=p)(n:p<=166):Ec Q 225 #[U O p] w λe w'=>e=Z (Xg (Qa p))/\Bw w.heap.size w w':=by
 have b:=Hm (opFloats_c p (w.alloc (Fc (rowL Z0).toArray 320)) (by omega) (by omega));generalize l:Qa p=r at *;generalize m:(p:Int)=q at *;have C:¬q<0:=by omega
 have B:¬q<40:=by omega
 have A:¬q<69:=by omega
 have z:¬q<103:=by omega
 have y:¬q<139:=by omega
 have u:q<167:=by omega
 go_enter func225,ntmps225;go_wp2_with fail
 refine(b.o).mono ?_;rintro e a ⟨rfl,c⟩;obtain⟨b0,k,j,g,f,d,t⟩:=rowNew w a Z0 320 c;go_wp2;exact bodyPost_ret (v:=Xg r) (by simp[results,results225,go_sem,k,j,g,f,d]) rfl ⟨rfl,set5 _ _ _ _ _ b0⟩
theorem find_opConversions (p:Nat)(w:J)(s:167<=p)(n:p<=191):Ec Q 225 #[U O p] w λe w'=>e=Z (Xg (Qa p))/\Bw w.heap.size w w':=by
 have b:=Hm (opConversions_c p (w.alloc (Fc (rowL Z0).toArray 320)) (by omega) (by omega));generalize l:Qa p=r at *;generalize m:(p:Int)=q at *;have C:¬q<0:=by omega
 have B:¬q<40:=by omega
 have A:¬q<69:=by omega
 have z:¬q<103:=by omega
 have y:¬q<139:=by omega
 have u:¬q<167:=by omega
 go_enter func225,ntmps225;go_wp2_with fail
 refine(b.o).mono ?_;rintro e a ⟨rfl,c⟩;obtain⟨b0,k,j,g,f,d,t⟩:=rowNew w a Z0 320 c;go_wp2;exact bodyPost_ret (v:=Xg r) (by simp[results,results225,go_sem,k,j,g,f,d]) rfl ⟨rfl,set5 _ _ _ _ _ b0⟩
theorem find_c (p:Int)(w:J):Ec Q 225 #[U O p] w λe w'=>e=Z (Xg (Qa p))/\Bw w.heap.size w w':=by
 by_cases h:0<=p/\p<192
 . obtain⟨n,rfl⟩:=Int.eq_ofNat_of_zero_le h.1;(have a:(0<=n/\n<=39)\/(40<=n/\n<=68)\/(69<=n/\n<=102)\/(103<=n/\n<=138)\/(139<=n/\n<=166)\/(167<=n/\n<=191):=by omega);rcases a with h|h|h|h|h|h
   . exact find_opControl n w h.1 h.2
   . exact find_opMemory n w h.1 h.2
   . exact find_opTests n w h.1 h.2
   . exact find_opIntegers n w h.1 h.2
   . exact find_opFloats n w h.1 h.2
   exact find_opConversions n w h.1 h.2
 have e:Qa p=Z0:=by simp only[Qa,h,if_false]
 rw[e];rcases(by omega:p<=-1\/192<=p)with h|h
 . exact find_o0 p w h
 exact find_o1 p w h
theorem isE (a:ByteArray):a.toList.isEmpty=decide (a.size=0):=by
 rw[ByteArray.toList_eq];have:a.size=N a.data.toList:=rfl;rw[this];cases a.data.toList<;>simp
theorem belA {w w1}{o:Obj}(h:Bw w.heap.size w w1):Bw w.heap.size w (w1.alloc o):=h.alloc h.size o
theorem QK (p:Int)(w:J):Ec Q 174 #[U O p] w λe w'=>e=Z (U O (Qi (Qa p)))/\Bw w.heap.size w w':=by
 have c:=Hm (find_c p w);generalize Qa p=r at *;by_cases a:r.nm.size=0
 . (have f:r.nm.toList.isEmpty=true:=by rw[isE];simpa using a);go_enter func174,ntmps174;(go_wp2_with fail);refine c.o.mono ?_;rintro e d ⟨rfl,b⟩;go_wp2;go_ret;exact⟨by simp[Qi,a],belA b⟩
 have f:r.nm.toList.isEmpty=false:=by rw[isE];simpa using a
 go_enter func174,ntmps174;go_wp2_with fail
 refine c.o.mono ?_;rintro e d ⟨rfl,b⟩;go_wp2;go_ret;exact⟨by simp[Qi,a],belA b⟩
