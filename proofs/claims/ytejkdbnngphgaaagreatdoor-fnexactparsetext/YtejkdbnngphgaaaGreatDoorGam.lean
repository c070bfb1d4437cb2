import Derived.Test.YtejkdbnngphgaaaGreatDoorGak
import Derived.Test.YtejkdbnngphgaaaGreatDoorGaf
set_option linter.all false
set_option maxHeartbeats 400000000
set_option maxRecDepth 100000
namespace Go.Proofs
open Value renaming int->U,string->Xs
open IntKind renaming i64->O
open Ending renaming returned->Z
open Obj renaming cells->Fc
open Go renaming World->J,Calls->Ec
open Go.RowKit renaming Below->Bw
open Tryz renaming prog->Q
open Tryz
open IntKind renaming wrap_i64->Kw
open List renaming getD->Ty,getElem?_eq_getElem->Kv,length->N
namespace YtejkdbnngphgaaaGreatDoor
open Go.RowKit
theorem sn_a (p:Int)(i:Nat)(s:ByteArray)(w:J)(h1:70<=p)(n:p<=79)(hi:p-70=i)(d:XR[i]?=some s)(l:s.size<=100):Ec Q 141 #[U O p] w λe w'=>e=Z (Xs (⟨#[105,51,50,46]⟩++s))/\Bw w.heap.size w w':=by
 have r:¬p<0:=by omega
 have q:¬p<=68:=by omega
 have o:(p==(69:Int))=false:=by simp;omega
 have m:IntKind.i64.wrap (p-70)=i:=by rw[Kw];omega
 have f:(i:Int)<10:=by omega
 have c:¬9223372036854775807<4+s.size:=by omega
 go_enter func141,ntmps141;go_wp2_with fail
 refine(lTests_c _).mono ?_;rintro e k ⟨g,rfl,b,hc⟩;have a:=up1 b;have j:=hc i s d;clear b hc;go_wp2;go_ret;exact⟨rfl,a⟩
theorem sn_b (p:Int)(i:Nat)(s:ByteArray)(w:J)(h1:81<=p)(n:p<=90)(hi:p-81=i)(d:XR[i]?=some s)(l:s.size<=100):Ec Q 141 #[U O p] w λe w'=>e=Z (Xs (⟨#[105,54,52,46]⟩++s))/\Bw w.heap.size w w':=by
 have u:¬p<0:=by omega
 have t:¬p<=68:=by omega
 have r:(p==(69:Int))=false:=by simp;omega
 have q:¬p<=79:=by omega
 have o:(p==(80:Int))=false:=by simp;omega
 have m:IntKind.i64.wrap (p-81)=i:=by rw[Kw];omega
 have f:(i:Int)<10:=by omega
 have c:¬9223372036854775807<4+s.size:=by omega
 go_enter func141,ntmps141;go_wp2_with fail
 refine(lTests_c _).mono ?_;rintro e k ⟨g,rfl,b,hc⟩;have a:=up1 b;have j:=hc i s d;clear b hc;go_wp2;go_ret;exact⟨rfl,a⟩
theorem sn_c (p:Int)(i:Nat)(s:ByteArray)(w:J)(h1:91<=p)(j:p<=96)(hi:p-91=i)(b:LT6[i]?=some s)(d:s.size<=100):Ec Q 141 #[U O p] w λe w'=>e=Z (Xs (⟨#[102,51,50,46]⟩++s))/\Bw w.heap.size w w':=by
 have q:¬p<0:=by omega
 have o:¬p<=68:=by omega
 have n:(p==(69:Int))=false:=by simp;omega
 have m:¬p<=79:=by omega
 have l:(p==(80:Int))=false:=by simp;omega
 have k:¬p<=90:=by omega
 have f:IntKind.i64.wrap (p-91)=i:=by rw[Kw];omega
 have c:(i:Int)<6:=by omega
 have a:¬9223372036854775807<4+s.size:=by omega
 have g:(w.alloc (Fc #[Xs ⟨#[101,113]⟩,Xs ⟨#[110,101]⟩,Xs ⟨#[108,116]⟩,Xs ⟨#[103,116]⟩,Xs ⟨#[108,101]⟩,Xs ⟨#[103,101]⟩] 9)).cell? ⟨w.heap.size,i,none⟩=some (.string s):=(strNew w LT6 9).2 i s b;go_enter func141,ntmps141;go_wp2;go_ret;exact⟨rfl,bFz.alloc lRz _⟩
theorem sn_d (p:Int)(i:Nat)(s:ByteArray)(w:J)(h1:97<=p)(j:p<=102)(hi:p-97=i)(b:LT6[i]?=some s)(d:s.size<=100):Ec Q 141 #[U O p] w λe w'=>e=Z (Xs (⟨#[102,54,52,46]⟩++s))/\Bw w.heap.size w w':=by
 have r:¬p<0:=by omega
 have q:¬p<=68:=by omega
 have o:(p==(69:Int))=false:=by simp;omega
 have n:¬p<=79:=by omega
 have m:(p==(80:Int))=false:=by simp;omega
 have l:¬p<=90:=by omega
 have k:¬p<=96:=by omega
 have f:IntKind.i64.wrap (p-97)=i:=by rw[Kw];omega
 have c:(i:Int)<6:=by omega
 have a:¬9223372036854775807<4+s.size:=by omega
 have g:(w.alloc (Fc #[Xs ⟨#[101,113]⟩,Xs ⟨#[110,101]⟩,Xs ⟨#[108,116]⟩,Xs ⟨#[103,116]⟩,Xs ⟨#[108,101]⟩,Xs ⟨#[103,101]⟩] 9)).cell? ⟨w.heap.size,i,none⟩=some (.string s):=(strNew w LT6 9).2 i s b;go_enter func141,ntmps141;go_wp2;go_ret;exact⟨rfl,bFz.alloc lRz _⟩
theorem sn_z0 (p:Int)(w:J)(a:p<=-1):Ec Q 141 #[U O p] w λe w'=>e=Z (Xs ⟨#[]⟩)/\Bw w.heap.size w w':=by
 have b:p<0:=by omega
 go_enter func141,ntmps141;go_wp2;go_ret;exact⟨rfl,bFz.alloc lRz _⟩
theorem sn_z1 (p:Int)(w:J)(h1:192<=p):Ec Q 141 #[U O p] w λe w'=>e=Z (Xs ⟨#[]⟩)/\Bw w.heap.size w w':=by
 have b:¬p<0:=by omega
 have a:¬p<=191:=by omega
 go_enter func141,ntmps141;go_wp2;go_ret;exact⟨rfl,bFz.alloc lRz _⟩
theorem sn_x (p:Int)(w:J)(h1:69<=p)(a:p<=69):Ec Q 141 #[U O p] w λe w'=>e=Z (Xs ⟨#[105,51,50,46,101,113,122]⟩)/\Bw w.heap.size w w':=by
 have d:¬p<0:=by omega
 have c:¬p<=68:=by omega
 have b:(p==(69:Int))=true:=by simp;omega
 go_enter func141,ntmps141;go_wp2;go_ret;exact⟨rfl,bFz.alloc lRz _⟩
theorem sn_y (p:Int)(w:J)(h1:80<=p)(a:p<=80):Ec Q 141 #[U O p] w λe w'=>e=Z (Xs ⟨#[105,54,52,46,101,113,122]⟩)/\Bw w.heap.size w w':=by
 have g:¬p<0:=by omega
 have f:¬p<=68:=by omega
 have d:(p==(69:Int))=false:=by simp;omega
 have c:¬p<=79:=by omega
 have b:(p==(80:Int))=true:=by simp;omega
 go_enter func141,ntmps141;go_wp2;go_ret;exact⟨rfl,bFz.alloc lRz _⟩
theorem sn_e (p:Int)(i:Nat)(s:ByteArray)(w:J)(h1:103<=p)(n:p<=120)(hi:p-103=i)(d:LInts[i]?=some s)(l:s.size<=100):Ec Q 141 #[U O p] w λe w'=>e=Z (Xs (⟨#[105,51,50,46]⟩++s))/\Bw w.heap.size w w':=by
 have z:¬p<0:=by omega
 have y:¬p<=68:=by omega
 have v:(p==(69:Int))=false:=by simp;omega
 have u:¬p<=79:=by omega
 have t:(p==(80:Int))=false:=by simp;omega
 have r:¬p<=90:=by omega
 have q:¬p<=96:=by omega
 have o:¬p<=102:=by omega
 have m:IntKind.i64.wrap (p-103)=i:=by rw[Kw];omega
 have f:(i:Int)<18:=by omega
 have c:¬9223372036854775807<4+s.size:=by omega
 go_enter func141,ntmps141;go_wp2_with fail
 refine(lInts_c _).mono ?_;rintro e k ⟨g,rfl,b,hc⟩;have a:=up1 b;have j:=hc i s d;clear b hc;go_wp2;go_ret;exact⟨rfl,a⟩
theorem sn_f (p:Int)(i:Nat)(s:ByteArray)(w:J)(h1:121<=p)(o:p<=138)(hi:p-121=i)(d:LInts[i]?=some s)(m:s.size<=100):Ec Q 141 #[U O p] w λe w'=>e=Z (Xs (⟨#[105,54,52,46]⟩++s))/\Bw w.heap.size w w':=by
 have A:¬p<0:=by omega
 have z:¬p<=68:=by omega
 have y:(p==(69:Int))=false:=by simp;omega
 have v:¬p<=79:=by omega
 have u:(p==(80:Int))=false:=by simp;omega
 have t:¬p<=90:=by omega
 have r:¬p<=96:=by omega
 have q:¬p<=102:=by omega
 have k:¬p<=120:=by omega
 have n:IntKind.i64.wrap (p-121)=i:=by rw[Kw];omega
 have f:(i:Int)<18:=by omega
 have c:¬9223372036854775807<4+s.size:=by omega
 go_enter func141,ntmps141;go_wp2_with fail
 refine(lInts_c _).mono ?_;rintro e l ⟨g,rfl,b,hc⟩;have a:=up1 b;have j:=hc i s d;clear b hc;go_wp2;go_ret;exact⟨rfl,a⟩
theorem sn_g (p:Int)(i:Nat)(s:ByteArray)(w:J)(h1:139<=p)(q:p<=152)(hi:p-139=i)(d:Xl[i]?=some s)(n:s.size<=100):Ec Q 141 #[U O p] w λe w'=>e=Z (Xs (⟨#[102,51,50,46]⟩++s))/\Bw w.heap.size w w':=by
 have B:¬p<0:=by omega
 have A:¬p<=68:=by omega
 have z:(p==(69:Int))=false:=by simp;omega
 have y:¬p<=79:=by omega
 have v:(p==(80:Int))=false:=by simp;omega
 have u:¬p<=90:=by omega
 have t:¬p<=96:=by omega
 have r:¬p<=102:=by omega
 have l:¬p<=120:=by omega
 have k:¬p<=138:=by omega
 have o:IntKind.i64.wrap (p-139)=i:=by rw[Kw];omega
 have f:(i:Int)<14:=by omega
 have c:¬9223372036854775807<4+s.size:=by omega
 go_enter func141,ntmps141;go_wp2_with fail
 refine(lFloats_c _).mono ?_;rintro e m ⟨g,rfl,b,hc⟩;have a:=up1 b;have j:=hc i s d;clear b hc;go_wp2;go_ret;exact⟨rfl,a⟩
theorem sn_h (p:Int)(i:Nat)(s:ByteArray)(w:J)(h1:153<=p)(r:p<=166)(hi:p-153=i)(d:Xl[i]?=some s)(o:s.size<=100):Ec Q 141 #[U O p] w λe w'=>e=Z (Xs (⟨#[102,54,52,46]⟩++s))/\Bw w.heap.size w w':=by
 have C:¬p<0:=by omega
 have B:¬p<=68:=by omega
 have A:(p==(69:Int))=false:=by simp;omega
 have z:¬p<=79:=by omega
 have y:(p==(80:Int))=false:=by simp;omega
 have v:¬p<=90:=by omega
 have u:¬p<=96:=by omega
 have t:¬p<=102:=by omega
 have m:¬p<=120:=by omega
 have l:¬p<=138:=by omega
 have k:¬p<=152:=by omega
 have q:IntKind.i64.wrap (p-153)=i:=by rw[Kw];omega
 have f:(i:Int)<14:=by omega
 have c:¬9223372036854775807<4+s.size:=by omega
 go_enter func141,ntmps141;go_wp2_with fail
 refine(lFloats_c _).mono ?_;rintro e n ⟨g,rfl,b,hc⟩;have a:=up1 b;have j:=hc i s d;clear b hc;go_wp2;go_ret;exact⟨rfl,a⟩
theorem sn_i (p:Int)(i:Nat)(s:ByteArray)(w:J)(h1:167<=p)(r:p<=191)(hi:p-167=i)(c:LConv[i]?=some s)(o:s.size<=100):Ec Q 141 #[U O p] w λe w'=>e=Z (Xs s)/\Bw w.heap.size w w':=by
 have C:¬p<0:=by omega
 have B:¬p<=68:=by omega
 have A:(p==(69:Int))=false:=by simp;omega
 have z:¬p<=79:=by omega
 have y:(p==(80:Int))=false:=by simp;omega
 have v:¬p<=90:=by omega
 have u:¬p<=96:=by omega
 have t:¬p<=102:=by omega
 have m:¬p<=120:=by omega
 have l:¬p<=138:=by omega
 have k:¬p<=152:=by omega
 have j:¬p<=166:=by omega
 have q:IntKind.i64.wrap (p-167)=i:=by rw[Kw];omega
 have d:(i:Int)<25:=by omega
 go_enter func141,ntmps141;go_wp2_with fail
 refine(lConv_c _).mono ?_;rintro e n ⟨g,rfl,b,hc⟩;have a:=up1 b;have f:=hc i s c;clear b hc;go_wp2;go_ret;exact⟨rfl,a⟩
theorem sn_n (p:Int)(i:Nat)(s:ByteArray)(w:J)(h1:0<=p)(m:p<=68)(hi:p-0=i)(d:LNames[i]?=some s)(l:s.size<=100):Ec Q 141 #[U O p] w λe w'=>e=Z (Xs s)/\Bw w.heap.size w w':=by
 have a:p=i:=by omega
 clear hi;subst a;have n:¬(i:Int)<0:=by omega
 have f:(i:Int)<69:=by omega
 go_enter func141,ntmps141;go_wp2_with fail
 refine(lNames_c _).mono ?_;rintro e k ⟨g,rfl,c,hc⟩;have b:=up1 c;have j:=hc i s d;clear c hc;go_wp2;go_ret;exact⟨rfl,b⟩
theorem pick (L:List ByteArray)(i:Nat)(h:i<N L):L[i]?=some (L.getD i ⟨#[]⟩):=by simp[Ty,Kv h]
theorem sname_c (p:Int)(w:J):Ec Q 141 #[U O p] w λe w'=>e=Z (Xs (Qe p).nm)/\Bw w.heap.size w w':=by
 have hc:(p<=-1)\/(192<=p)\/(69<=p/\p<=69)\/(80<=p/\p<=80)\/(70<=p/\p<=79)\/(81<=p/\p<=90)\/(91<=p/\p<=96)\/(97<=p/\p<=102)\/(103<=p/\p<=120)\/(121<=p/\p<=138)\/(139<=p/\p<=152)\/(153<=p/\p<=166)\/(167<=p/\p<=191)\/(0<=p/\p<=68):=by omega
 rcases hc with h|h|h|h|h|h|h|h|h|h|h|h|h|h
 . (have e:Qe p=Z0:=by simp only[Qe,show ¬(0<=p/\p<192) by omega,if_false]);rw[e];exact sn_z0 p w h
 . (have e:Qe p=Z0:=by simp only[Qe,show ¬(0<=p/\p<192) by omega,if_false]);rw[e];exact sn_z1 p w h
 . (obtain rfl:p=69:=by omega);exact sn_x 69 w (by omega) (by omega)
 . (obtain rfl:p=80:=by omega);exact sn_y 80 w (by omega) (by omega)
 . have e:=of_decide_eq_true (rng 70 10 (λi=>decide ((tbl.getD i Z0).nm=(⟨#[105,51,50,46]⟩++XR.getD (i-70) ⟨#[]⟩:ByteArray)/\(XR.getD (i-70) ⟨#[]⟩).size<=100)) (by decide +kernel) p (by omega) (by omega));(have a:(Qe p).nm=(tbl.getD p.toNat Z0).nm:=by simp only[Qe,show(0<=p/\p<192) by omega,and_self,if_true]);rw[a,e.1];exact sn_a p (p.toNat-70) _ w h.1 h.2 (by omega) (pick XR _ (by show _<10;omega)) e.2
 . have e:=of_decide_eq_true (rng 81 10 (λi=>decide ((tbl.getD i Z0).nm=(⟨#[105,54,52,46]⟩++XR.getD (i-81) ⟨#[]⟩:ByteArray)/\(XR.getD (i-81) ⟨#[]⟩).size<=100)) (by decide +kernel) p (by omega) (by omega));(have a:(Qe p).nm=(tbl.getD p.toNat Z0).nm:=by simp only[Qe,show(0<=p/\p<192) by omega,and_self,if_true]);rw[a,e.1];exact sn_b p (p.toNat-81) _ w h.1 h.2 (by omega) (pick XR _ (by show _<10;omega)) e.2
 . have e:=of_decide_eq_true (rng 91 6 (λi=>decide ((tbl.getD i Z0).nm=(⟨#[102,51,50,46]⟩++LT6.getD (i-91) ⟨#[]⟩:ByteArray)/\(LT6.getD (i-91) ⟨#[]⟩).size<=100)) (by decide +kernel) p (by omega) (by omega));(have a:(Qe p).nm=(tbl.getD p.toNat Z0).nm:=by simp only[Qe,show(0<=p/\p<192) by omega,and_self,if_true]);rw[a,e.1];exact sn_c p (p.toNat-91) _ w h.1 h.2 (by omega) (pick LT6 _ (by show _<6;omega)) e.2
 . have e:=of_decide_eq_true (rng 97 6 (λi=>decide ((tbl.getD i Z0).nm=(⟨#[102,54,52,46]⟩++LT6.getD (i-97) ⟨#[]⟩:ByteArray)/\(LT6.getD (i-97) ⟨#[]⟩).size<=100)) (by decide +kernel) p (by omega) (by omega));(have a:(Qe p).nm=(tbl.getD p.toNat Z0).nm:=by simp only[Qe,show(0<=p/\p<192) by omega,and_self,if_true]);rw[a,e.1];exact sn_d p (p.toNat-97) _ w h.1 h.2 (by omega) (pick LT6 _ (by show _<6;omega)) e.2
 . have e:=of_decide_eq_true (rng 103 18 (λi=>decide ((tbl.getD i Z0).nm=(⟨#[105,51,50,46]⟩++LInts.getD (i-103) ⟨#[]⟩:ByteArray)/\(LInts.getD (i-103) ⟨#[]⟩).size<=100)) (by decide +kernel) p (by omega) (by omega));(have a:(Qe p).nm=(tbl.getD p.toNat Z0).nm:=by simp only[Qe,show(0<=p/\p<192) by omega,and_self,if_true]);rw[a,e.1];exact sn_e p (p.toNat-103) _ w h.1 h.2 (by omega) (pick LInts _ (by show _<18;omega)) e.2
 . have e:=of_decide_eq_true (rng 121 18 (λi=>decide ((tbl.getD i Z0).nm=(⟨#[105,54,52,46]⟩++LInts.getD (i-121) ⟨#[]⟩:ByteArray)/\(LInts.getD (i-121) ⟨#[]⟩).size<=100)) (by decide +kernel) p (by omega) (by omega));(have a:(Qe p).nm=(tbl.getD p.toNat Z0).nm:=by simp only[Qe,show(0<=p/\p<192) by omega,and_self,if_true]);rw[a,e.1];exact sn_f p (p.toNat-121) _ w h.1 h.2 (by omega) (pick LInts _ (by show _<18;omega)) e.2
 . have e:=of_decide_eq_true (rng 139 14 (λi=>decide ((tbl.getD i Z0).nm=(⟨#[102,51,50,46]⟩++Xl.getD (i-139) ⟨#[]⟩:ByteArray)/\(Xl.getD (i-139) ⟨#[]⟩).size<=100)) (by decide +kernel) p (by omega) (by omega));(have a:(Qe p).nm=(tbl.getD p.toNat Z0).nm:=by simp only[Qe,show(0<=p/\p<192) by omega,and_self,if_true]);rw[a,e.1];exact sn_g p (p.toNat-139) _ w h.1 h.2 (by omega) (pick Xl _ (by show _<14;omega)) e.2
 . have e:=of_decide_eq_true (rng 153 14 (λi=>decide ((tbl.getD i Z0).nm=(⟨#[102,54,52,46]⟩++Xl.getD (i-153) ⟨#[]⟩:ByteArray)/\(Xl.getD (i-153) ⟨#[]⟩).size<=100)) (by decide +kernel) p (by omega) (by omega));(have a:(Qe p).nm=(tbl.getD p.toNat Z0).nm:=by simp only[Qe,show(0<=p/\p<192) by omega,and_self,if_true]);rw[a,e.1];exact sn_h p (p.toNat-153) _ w h.1 h.2 (by omega) (pick Xl _ (by show _<14;omega)) e.2
 . have e:=of_decide_eq_true (rng 167 25 (λi=>decide ((tbl.getD i Z0).nm=(LConv.getD (i-167) ⟨#[]⟩:ByteArray)/\(LConv.getD (i-167) ⟨#[]⟩).size<=100)) (by decide +kernel) p (by omega) (by omega));(have a:(Qe p).nm=(tbl.getD p.toNat Z0).nm:=by simp only[Qe,show(0<=p/\p<192) by omega,and_self,if_true]);rw[a,e.1];exact sn_i p (p.toNat-167) _ w h.1 h.2 (by omega) (pick LConv _ (by show _<25;omega)) e.2
 have e:=of_decide_eq_true (rng 0 69 (λi=>decide ((tbl.getD i Z0).nm=(LNames.getD (i-0) ⟨#[]⟩:ByteArray)/\(LNames.getD (i-0) ⟨#[]⟩).size<=100)) (by decide +kernel) p (by omega) (by omega));have a:(Qe p).nm=(tbl.getD p.toNat Z0).nm:=by simp only[Qe,show(0<=p/\p<192) by omega,and_self,if_true]
 rw[a,e.1];exact sn_n p (p.toNat-0) _ w h.1 h.2 (by omega) (pick LNames _ (by show _<69;omega)) e.2
open Go.RowKit Go.WideMaps Go.Maps
def Qt (s:List UInt8):Int:=match JT 192 s with|some j=>(j:Int)|none=>-1
theorem find_none (k:Nat)(s:List UInt8)(h:∀j,j<k->(nm j).data.toList≠s):JT k s=none:=by
 induction k with
 |zero=>rfl
 |succ k ih=>simp only[JT];rw[if_neg (λx=>h k (by omega) x.1)];exact ih (λj hj=>h j (by omega))
def distinct:List Row->Bool
 |[]=>true
 |r::l=>l.all (λx=>decide (x.nm.data.toList=[]\/x.nm.data.toList≠r.nm.data.toList))&&distinct l
theorem distinct_tbl:distinct tbl=true:=by decide +kernel
theorem distinct_at (l:List Row)(h:distinct l=true)(i j:Nat)(c:i<j)(b:j<N l):(l.getD j Z0).nm.data.toList=[]\/(l.getD j Z0).nm.data.toList≠(l.getD i Z0).nm.data.toList:=by
 induction l generalizing i j with
 |nil=>simp at b
 |cons r l ih =>
  simp only[distinct,Bool.and_eq_true,List.all_eq_true,decide_eq_true_eq]at h
  cases j with
  |zero=>omega
  |succ j =>
   have a:j<N l:=by simpa using b
   cases i with
   |zero =>
    have:=h.1 l[j] (List.getElem_mem a)
    simpa[Ty,Kv a]using this
   |succ i=>simpa using ih h.2 i j (by omega) a
theorem nm_tbl (k:Nat)(h:k<192):nm k=(tbl.getD k Z0).nm:=by
 simp only[nm,Qe,show(0:Int)<=k/\(k:Int)<192 by omega,and_self,if_true,Int.toNat_natCast]
theorem nm_dist (i j:Nat)(a:i<j)(b:j<192):(nm j).data.toList=[]\/(nm j).data.toList≠(nm i).data.toList:=by
 rw[nm_tbl i (by omega),nm_tbl j b];exact distinct_at tbl distinct_tbl i j a b
theorem find_at (i:Nat)(s:List UInt8)(hi:(nm i).data.toList=s)(d:s≠[]):∀k,i<k->k<=192->JT k s=some i
 |0,h,_=>by omega
 |k+1,h,hk=>by
  by_cases e:i=k
  . subst e;simp only[JT];rw[if_pos ⟨hi,d⟩]
  . simp only[JT]
    rw[if_neg]
    . exact find_at i s hi d k (by omega) (by omega)
    . rintro⟨a,b⟩
      rcases nm_dist i k (by omega) (by omega)with c|c
      . exact b (a ▸ c)
      . exact c (a.trans hi.symm)
theorem Xi (s:ByteArray)(w:J):Ec Q 76 #[Xs s] w λe w'=>e=Z (U O (Qt s.data.toList))/\Bw w.heap.size w w':=by
 by_cases m:s.data.toList=[]
 . have z:s.toList.isEmpty=true:=by rw[ByteArray.toList_eq,m];rfl
   have c:Qt s.data.toList=-1:=by
    have:JT 192 s.data.toList=none:=by
     have:∀k,JT k s.data.toList=none:=by
      intro k;induction k with
      |zero=>rfl
      |succ k ih=>simp only[JT];rw[if_neg (λx=>x.2 m)];exact ih
     exact this _
    simp[Qt,this]
   rw[c];go_enter func76,ntmps76;go_wp2;refine wp_loop_rounds 1 ?_;rw[rounds_succ];go_wp2;go_ret;exact⟨rfl,bFz⟩
 have z:s.toList.isEmpty=false:=by rw[ByteArray.toList_eq];simpa using m
 go_enter func76,ntmps76;go_wp2;go_loopw [3] (λi wr=>∃k:Nat,k<=192/\i=U O k/\(∀j,j<k->(nm j).data.toList≠s.data.toList)/\Bw w.heap.size w wr) (λi _=>192-(intOf i).toNat)
 case atStart=>exact⟨0,Nat.zero_le _,rfl,λj h=>by omega,bFz⟩
 obtain⟨k,A,rfl,b,a⟩:=hrel;by_cases q:k<192
 . (have y:(k:Int)<=191:=by omega);have hc:=Hm (sname_c (k:Int) wr);by_cases l:(nm k).data.toList=s.data.toList
   . (have c:Qt s.data.toList=k:=by simp[Qt,find_at k _ l m 192 q (by omega)]);have g:=Hm c;clear c;(have v:((nm k).toList==s.toList)=true:=by rw[ByteArray.toList_eq,ByteArray.toList_eq];simpa using l);change Hid (Ec Q 141 #[U O k] wr λe w'=>e=Z (Xs (nm k))/\Bw wr.heap.size wr w')at hc;generalize nm k=t at *;have u:=Hm b;clear l b m;(go_wp2_with fail);refine hc.o.mono ?_;rintro e p ⟨rfl,n⟩;have d:Bw w.heap.size w p:=a.trans (n.mono a.size);clear n a;go_wp2;go_ret;exact⟨by rw[g.o];rfl,d⟩
   have f:∀j,j<k+1->(nm j).data.toList≠s.data.toList:=λj hj=>by
    rcases(by omega:j<k\/j=k)with h|h
    . exact b j h
    subst h;exact l
   (have v:((nm k).toList==s.toList)=false:=by rw[ByteArray.toList_eq,ByteArray.toList_eq];simpa using l);change Hid (Ec Q 141 #[U O k] wr λe w'=>e=Z (Xs (nm k))/\Bw wr.heap.size wr w')at hc;have u:=Hm f;clear b f l m;generalize nm k=t at v hc;(go_wp2_with fail);refine hc.o.mono ?_;rintro e p ⟨rfl,n⟩;have d:Bw w.heap.size w p:=a.trans (n.mono a.size);clear n a;go_wp2;(go_roundw);(case rel=>exact⟨k+1,by omega,by go_num,u.o,d⟩);case measure=>simp[intOf];omega
 have r:k=192:=by omega
 subst r;have c:Qt s.data.toList=-1:=by simp[Qt,find_none 192 _ b]
 have g:=Hm c;clear c;have u:=Hm b;clear b;go_wp2;go_ret;exact⟨by rw[g.o];rfl,a⟩
