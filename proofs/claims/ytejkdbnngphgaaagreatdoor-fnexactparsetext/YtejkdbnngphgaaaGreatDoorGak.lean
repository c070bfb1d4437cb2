import Derived.Test.YtejkdbnngphgaaaGreatDoorGab
import Derived.Test.YtejkdbnngphgaaaGreatDoorGag
import Derived.Test.YtejkdbnngphgaaaGreatDoorGah
import Derived.Test.YtejkdbnngphgaaaGreatDoorGai
import Derived.Test.YtejkdbnngphgaaaGreatDoorGac
import Derived.Test.YtejkdbnngphgaaaGreatDoorGae
import Derived.Test.YtejkdbnngphgaaaGreatDoorGaj
import Derived.Maps.Own
import Derived.Maps.OwnOps
import Derived.Maps.OwnSet
import Derived.Lib.Atoi
set_option linter.all false
set_option maxHeartbeats 400000000
set_option maxRecDepth 100000
namespace Go.Proofs
open Value renaming int->U,slice->S,bool->G,pointer->Yp,string->Xs,nilIface->Nf
open IntKind renaming i64->O,u64->Ou
open Ending renaming returned->Z
open Obj renaming cells->Fc
open Go renaming World->J,Calls->Ec,Value->Vu,Addr->Ad
open Go.RowKit renaming Below->Bw
open Tryz renaming prog->Q
open Tryz
open RowKit.Below renaming setCell->Iz,alloc->Ip,drew->Ej,heap_setCell->Hk
open IntKind renaming wrap_u64->Kn,wrap_u8->Td
open World renaming block_lt_of_cell?->Kh,cell?_of_block->Kx,frozen?_setCell->Tn,setCell->Bb
open Nat renaming zero_add->Kk,le_of_lt->Lv,strongRecOn->Rf
open List renaming tail_cons->Ij,length->N
namespace YtejkdbnngphgaaaGreatDoor
open Go.RowKit
theorem up1 {w a:J}{o:Obj}(h:Bw (w.alloc o).heap.size (w.alloc o) a):Bw w.heap.size w a:=Below.trans (bFz.alloc lRz _) (h.mono (by simp))
theorem up2 {w a:J}{o b:Obj}(h:Bw ((w.alloc o).alloc b).heap.size ((w.alloc o).alloc b) a):Bw w.heap.size w a:=up1 (up1 h)
theorem rowNew (w c:J)(r:Row)(t:TypeId)(h:Bw (w.alloc (Fc (rowL r).toArray t)).heap.size (w.alloc (Fc (rowL r).toArray t)) c):Bw w.heap.size w c/\c.cell? ⟨w.heap.size,0,none⟩=some (Xs r.nm)/\c.cell? ⟨w.heap.size,1,none⟩=some (U O r.f)/\c.cell? ⟨w.heap.size,2,none⟩=some (U O r.a)/\c.cell? ⟨w.heap.size,3,none⟩=some (U O r.b)/\c.cell? ⟨w.heap.size,4,none⟩=some (U O r.g)/\(∀i,c.frozen? ⟨w.heap.size,i,none⟩=false):=by
 have d:w.heap.size<(w.alloc (Fc (rowL r).toArray t)).heap.size:=by simp
 refine⟨up1 h,?_,?_,?_,?_,?_,?_⟩
 . rw[h.cell (p:=⟨w.heap.size,0,none⟩) d];exact Qn rfl rfl
 . rw[h.cell (p:=⟨w.heap.size,1,none⟩) d];exact Qn rfl rfl
 . rw[h.cell (p:=⟨w.heap.size,2,none⟩) d];exact Qn rfl rfl
 . rw[h.cell (p:=⟨w.heap.size,3,none⟩) d];exact Qn rfl rfl
 . rw[h.cell (p:=⟨w.heap.size,4,none⟩) d];exact Qn rfl rfl
 intro i;rw[h.frozen (p:=⟨w.heap.size,i,none⟩) d];exact World.frozen?_alloc_new w _ t i
theorem set5 {w w1}(f d c b a:Vu)(b0:Bw w.heap.size w w1):Bw w.heap.size w (((((w1.setCell ⟨w.heap.size,0,none⟩ f).setCell ⟨w.heap.size,1,none⟩ d).setCell ⟨w.heap.size,2,none⟩ c).setCell ⟨w.heap.size,3,none⟩ b).setCell ⟨w.heap.size,4,none⟩ a) :=
 ((((b0.setCell (by simp) _).setCell (by simp) _).setCell (by simp) _).setCell (by simp) _).setCell (by simp) _
theorem find_o0 (p:Int)(w:J)(a:p<=-1):Ec Q 170 #[U O p] w λe w'=>e=Z (JN Z0)/\Bw w.heap.size w w':=by
 have b:p<0:=by omega
 go_enter func170,ntmps170;go_wp2;exact bodyPost_ret (v:=JN Z0) (by simp[results,results170,go_sem,Z0]) rfl ⟨rfl,by repeat (first|exact bFz|assumption|refine Iz ?_ (by first|(simp;done)|(simp;omega)) _|refine Ip ?_ (by first|(simp;done)|(simp;omega)) _|apply Ej)⟩
theorem find_o1 (p:Int)(w:J)(h1:192<=p):Ec Q 170 #[U O p] w λe w'=>e=Z (JN Z0)/\Bw w.heap.size w w':=by
 have a:¬p<0:=by omega
 go_enter func170,ntmps170;go_wp2;exact bodyPost_ret (v:=JN Z0) (by simp[results,results170,go_sem,Z0]) rfl ⟨rfl,by repeat (first|exact bFz|assumption|refine Iz ?_ (by first|(simp;done)|(simp;omega)) _|refine Ip ?_ (by first|(simp;done)|(simp;omega)) _|apply Ej)⟩
theorem find_opControl (p:Nat)(w:J)(h1:0<=p)(l:p<=39):Ec Q 170 #[U O p] w λe w'=>e=Z (JN (Qe p))/\Bw w.heap.size w w':=by
 have hc:=Hm (opControl_c p (w.alloc (Fc (rowL Z0).toArray 224)) (by omega) (by omega));generalize j:Qe p=r at *;generalize k:(p:Int)=q at *;have s:¬q<0:=by omega
 have n:q<40:=by omega
 go_enter func170,ntmps170;go_wp2_with fail
 refine(hc.o).mono ?_;rintro e a ⟨rfl,b⟩;obtain⟨b0,c0,g,f,d,c,m⟩:=rowNew w a Z0 224 b;go_wp2;exact bodyPost_ret (v:=JN r) (by simp[results,results170,go_sem,c0,g,f,d,c]) rfl ⟨rfl,set5 _ _ _ _ _ b0⟩
theorem find_opMemory (p:Nat)(w:J)(h1:40<=p)(l:p<=68):Ec Q 170 #[U O p] w λe w'=>e=Z (JN (Qe p))/\Bw w.heap.size w w':=by
 have hc:=Hm (opMemory_c p (w.alloc (Fc (rowL Z0).toArray 224)) (by omega) (by omega));generalize j:Qe p=r at *;generalize k:(p:Int)=q at *;have t:¬q<0:=by omega
 have s:¬q<40:=by omega
 have n:q<69:=by omega
 go_enter func170,ntmps170;go_wp2_with fail
 refine(hc.o).mono ?_;rintro e a ⟨rfl,b⟩;obtain⟨b0,c0,g,f,d,c,m⟩:=rowNew w a Z0 224 b;go_wp2;exact bodyPost_ret (v:=JN r) (by simp[results,results170,go_sem,c0,g,f,d,c]) rfl ⟨rfl,set5 _ _ _ _ _ b0⟩
theorem find_opTests (p:Nat)(w:J)(h1:69<=p)(l:p<=102):Ec Q 170 #[U O p] w λe w'=>e=Z (JN (Qe p))/\Bw w.heap.size w w':=by
 have hc:=Hm (opTests_c p (w.alloc (Fc (rowL Z0).toArray 224)) (by omega) (by omega));generalize j:Qe p=r at *;generalize k:(p:Int)=q at *;have u:¬q<0:=by omega
 have t:¬q<40:=by omega
 have s:¬q<69:=by omega
 have n:q<103:=by omega
 go_enter func170,ntmps170;go_wp2_with fail
 refine(hc.o).mono ?_;rintro e a ⟨rfl,b⟩;obtain⟨b0,c0,g,f,d,c,m⟩:=rowNew w a Z0 224 b;go_wp2;exact bodyPost_ret (v:=JN r) (by simp[results,results170,go_sem,c0,g,f,d,c]) rfl ⟨rfl,set5 _ _ _ _ _ b0⟩
theorem find_opIntegers (p:Nat)(w:J)(h1:103<=p)(l:p<=138):Ec Q 170 #[U O p] w λe w'=>e=Z (JN (Qe p))/\Bw w.heap.size w w':=by
 have hc:=Hm (opIntegers_c p (w.alloc (Fc (rowL Z0).toArray 224)) (by omega) (by omega));generalize j:Qe p=r at *;generalize k:(p:Int)=q at *;have y:¬q<0:=by omega
 have u:¬q<40:=by omega
 have t:¬q<69:=by omega
 have s:¬q<103:=by omega
 have n:q<139:=by omega
 go_enter func170,ntmps170;go_wp2_with fail
 refine(hc.o).mono ?_;rintro e a ⟨rfl,b⟩;obtain⟨b0,c0,g,f,d,c,m⟩:=rowNew w a Z0 224 b;go_wp2;exact bodyPost_ret (v:=JN r) (by simp[results,results170,go_sem,c0,g,f,d,c]) rfl ⟨rfl,set5 _ _ _ _ _ b0⟩
theorem find_opFloats (p:Nat)(w:J)(h1:139<=p)(l:p<=166):Ec Q 170 #[U O p] w λe w'=>e=Z (JN (Qe p))/\Bw w.heap.size w w':=by
 have hc:=Hm (opFloats_c p (w.alloc (Fc (rowL Z0).toArray 224)) (by omega) (by omega));generalize j:Qe p=r at *;generalize k:(p:Int)=q at *;have z:¬q<0:=by omega
 have y:¬q<40:=by omega
 have u:¬q<69:=by omega
 have t:¬q<103:=by omega
 have s:¬q<139:=by omega
 have n:q<167:=by omega
 go_enter func170,ntmps170;go_wp2_with fail
 refine(hc.o).mono ?_;rintro e a ⟨rfl,b⟩;obtain⟨b0,c0,g,f,d,c,m⟩:=rowNew w a Z0 224 b;go_wp2;exact bodyPost_ret (v:=JN r) (by simp[results,results170,go_sem,c0,g,f,d,c]) rfl ⟨rfl,set5 _ _ _ _ _ b0⟩
theorem find_opConversions (p:Nat)(w:J)(h1:167<=p)(l:p<=191):Ec Q 170 #[U O p] w λe w'=>e=Z (JN (Qe p))/\Bw w.heap.size w w':=by
 have hc:=Hm (opConversions_c p (w.alloc (Fc (rowL Z0).toArray 224)) (by omega) (by omega));generalize j:Qe p=r at *;generalize k:(p:Int)=q at *;have z:¬q<0:=by omega
 have y:¬q<40:=by omega
 have u:¬q<69:=by omega
 have t:¬q<103:=by omega
 have s:¬q<139:=by omega
 have n:¬q<167:=by omega
 go_enter func170,ntmps170;go_wp2_with fail
 refine(hc.o).mono ?_;rintro e a ⟨rfl,b⟩;obtain⟨b0,c0,g,f,d,c,m⟩:=rowNew w a Z0 224 b;go_wp2;exact bodyPost_ret (v:=JN r) (by simp[results,results170,go_sem,c0,g,f,d,c]) rfl ⟨rfl,set5 _ _ _ _ _ b0⟩
theorem find_c (p:Int)(w:J):Ec Q 170 #[U O p] w λe w'=>e=Z (JN (Qe p))/\Bw w.heap.size w w':=by
 by_cases h:0<=p/\p<192
 . obtain⟨n,rfl⟩:=Int.eq_ofNat_of_zero_le h.1;(have hc:(0<=n/\n<=39)\/(40<=n/\n<=68)\/(69<=n/\n<=102)\/(103<=n/\n<=138)\/(139<=n/\n<=166)\/(167<=n/\n<=191):=by omega);rcases hc with h|h|h|h|h|h
   . exact find_opControl n w h.1 h.2
   . exact find_opMemory n w h.1 h.2
   . exact find_opTests n w h.1 h.2
   . exact find_opIntegers n w h.1 h.2
   . exact find_opFloats n w h.1 h.2
   exact find_opConversions n w h.1 h.2
 have e:Qe p=Z0:=by simp only[Qe,h,if_false]
 rw[e];rcases(by omega:p<=-1\/192<=p)with h|h
 . exact find_o0 p w h
 exact find_o1 p w h
theorem fieldV (r:Row)(w:J):(Instr.field 224 (JN r) 0).run Q w=.ok (Xs r.nm) w:=by kernel_rfl
theorem iname_c (p:Int)(w:J):Ec Q 108 #[U O p] w λe w'=>e=Z (Xs (Qe p).nm)/\Bw w.heap.size w w':=by
 have hc:=Hm (find_c p w);generalize Qe p=r at *;have c:=fieldV r;go_enter func108,ntmps108;go_wp2_with fail
 refine hc.o.mono ?_;rintro e b ⟨rfl,a⟩;go_wp2;go_ret;exact⟨rfl,a⟩
theorem isE (a:ByteArray):a.toList.isEmpty=decide (a.size=0):=by
 rw[ByteArray.toList_eq];have:a.size=N a.data.toList:=rfl;rw[this];cases a.data.toList<;>simp
theorem belA {w w1}{o:Obj}(h:Bw w.heap.size w w1):Bw w.heap.size w (w1.alloc o):=h.alloc h.size o
theorem iform_c (p:Int)(w:J):Ec Q 110 #[U O p] w λe w'=>e=Z (U O (QD (Qe p)))/\Bw w.heap.size w w':=by
 have hc:=Hm (find_c p w);generalize Qe p=r at *;by_cases a:r.nm.size=0
 . (have d:r.nm.toList.isEmpty=true:=by rw[isE];simpa using a);go_enter func110,ntmps110;(go_wp2_with fail);refine hc.o.mono ?_;rintro e c ⟨rfl,b⟩;go_wp2;go_ret;exact⟨by simp[QD,a],belA b⟩
 have d:r.nm.toList.isEmpty=false:=by rw[isE];simpa using a
 go_enter func110,ntmps110;go_wp2_with fail
 refine hc.o.mono ?_;rintro e c ⟨rfl,b⟩;go_wp2;go_ret;exact⟨by simp[QD,a],belA b⟩
end YtejkdbnngphgaaaGreatDoor
namespace YtejkdbnngphgaaaGreatDoor.Yz
open Go.RowKit Go.Sort
variable {bd:Bool}{w V:J}{ws:List Wd}{mx g X q:Nat}{a b d e v u:Vu}
theorem pui64_c (l:Wd)(w:J)(ar:l≠[])(hl:N l<=1099511627776):Ec Q 214 #[Xs (Sz0 l),U O 16,U O 64] w λe C=>PuP 18446744073709551615 l w e C:=by
 have a7:(Sz0 l).toList.isEmpty=false:=by
  rw[ByteArray.toList_eq,QB];cases l with
  |nil=>exact absurd rfl ar
  |cons x r=>rfl
 have av:=Lib.run_convert_string_bytes (P:=Q) w 9 22 5 (Sz0 l) (u:=.string) underlying9 underlying22 underlying5;have hB:∀j,j<N l->(Lib.bytesWorld w 5 (Sz0 l)).cell? ⟨w.heap.size,j,none⟩=some (U .u8 (l.getD j 0).toNat):=λj hj=>by have:=Lib.bytesWorld_cell w 5 (Sz0 l) j (by rw[QJ];exact hj);rwa [QB]at this
 have X:=Lib.bytesWorld_below w 5 (Sz0 l);have hz:(Sz0 l).size=N l:=QJ l;obtain⟨W1,ai⟩:∃W1,W1=Lib.bytesWorld w 5 (Sz0 l):=⟨_,rfl⟩;rw[<- ai]at av hB X;clear ai;have n:=Hm X;have aa:=Hm hB;clear X hB;have ba:IntKind.u64.wrap (IntKind.u64.wrap 18446744073709551616-1)=18446744073709551615:=by simp only[Kn];decide
 go_enter func214,ntmps214;go_wp2;go_loop [12,13,101] (λvu vn vi=>∃(k f:Nat) (a:Int),vu=G false/\vn=U Ou a/\vi=U O k/\k<=N l/\Hid (a=(f:Int)/\f<=18446744073709551615/\pu 18446744073709551615 0 l=pu 18446744073709551615 f (l.drop k))) (λ_ _ vi=>N l-(intOf vi).toNat)
 case atStart=>exact⟨0,0,0,rfl,rfl,rfl,by omega,rfl,by omega,rfl⟩
 obtain⟨k,f,a,rfl,rfl,rfl,hk,hh⟩:=hrel;obtain⟨ha,p,b⟩:=hh.o;clear hh;have a0:0<=a:=by omega
 have a1:a<=18446744073709551615:=by omega
 by_cases D:k<N l
 . (have bb:(k:Int)<(N l:Int):=by omega);have hc:=aa.o k D;have E:l.drop k=l[k]'D::l.drop (k+1):=List.drop_eq_getElem_cons D;(have M:l.getD k 0=l[k]'D:=by simp[List.getD,List.getElem?_eq_getElem D]);rw[E]at b;rw[M]at hc;generalize l[k]'D=c at hc b;have F:c.toNat<256:=c.toNat_lt;clear aa E M;obtain⟨v,hv⟩:∃v,v=bits .or .u8 (c.toNat:Int) 32:=⟨_,rfl⟩;(have v0:0<=v:=by rw[hv];exact bits_lo_u8 _ _ _);(have v1:v<=255:=by rw[hv];exact bits_hi_u8 _ _ _);have A:=Hm (λw=>internal_strconv_lower (c.toNat:Int) w);rw[<- hv]at A;by_cases z:48<=c.toNat/\c.toNat<=57
   . obtain⟨V,af⟩:=z;obtain⟨d,hd⟩:∃d,d=c.toNat-48:=⟨_,rfl⟩;(have m:dgI c=some d:=by rw[hd];simp[dgI,V,af]);(have ae:c.toNat=d+48:=by omega);(have bc:d<=9:=by omega);rw[ae]at hc;(have ah:((d+48:Nat):Int)=(d:Int)+48:=by omega);rw[ah]at hc;(have g1:((d:Int)+48==95)=false:=by simp;omega);(have g2:(48:Int)<=(d:Int)+48:=by omega);(have g3:(d:Int)+48<=57:=by omega);(have g4:IntKind.u8.wrap ((d:Int)+48-48)=(d:Int):=by rw[Td];omega);(have bg:IntKind.u8.wrap (d:Int)=(d:Int):=by rw[Td];omega);(have g5:¬(16:Int)<=(d:Int):=by omega);(have g6:IntKind.u64.wrap (d:Int)=(d:Int):=by rw[Kn];omega);clear ah ae hd V af F hv v0 v1 A;by_cases g:1152921504606846976<=f
     . (have q:pu 18446744073709551615 f (c::l.drop (k+1))=none:=by simp[pu,m,g]);rw[q]at b;(have s:1152921504606846976<=a:=by omega);have B:=Hm b;clear p q ha b g m;go_wp2;(go_ret2);exact⟨_,_,rfl,n.o,.inr ⟨B.o,.inr rfl⟩⟩
     by_cases t:18446744073709551615<f*16+d
     . exfalso;omega
     (have q:pu 18446744073709551615 f (c::l.drop (k+1))=pu 18446744073709551615 (f*16+d) (l.drop (k+1)):=by simp[pu,m,g,t]);have HN:Hid (a*16+(d:Int)=((f*16+d:Nat):Int)/\f*16+d<=18446744073709551615/\pu 18446744073709551615 0 l=pu 18446744073709551615 (f*16+d) (l.drop (k+1))):=⟨by omega,by omega,by rw[b,q]⟩;(have ac:¬18446744073709551615<a*16+(d:Int):=by omega);(have s:¬1152921504606846976<=a:=by omega);(have w1:IntKind.u64.wrap (a*16)=a*16:=by rw[Kn];omega);(have w2:IntKind.u64.wrap (a*16+(d:Int))=a*16+(d:Int):=by rw[Kn];omega);(have w3:¬a*16+(d:Int)<a*16:=by omega);clear p q ha b g t m;go_wp2;refine⟨⟨k+1,f*16+d,a*16+(d:Int),rfl,(by first|rfl|(congr 1;omega)),(by first|rfl|(congr 1;omega)),by omega,HN⟩,by simp[intOf];omega⟩
   by_cases L:97<=v/\v<=102
   . obtain⟨R,ad⟩:=L;obtain⟨d,hd⟩:∃d:Nat,v=(d:Int)+87:=⟨(v-87).toNat,by omega⟩;(have m:dgI c=some d:=by simp only[dgI];rw[if_neg z,<- hv,if_pos ⟨R,ad⟩,hd];congr 1);(have H:c.toNat≠95:=by intro e;rw[e]at hv;(have:bits .or .u8 ((95:Nat):Int) 32=127:=by decide);omega);(have g0:((c.toNat:Int)==95)=false:=by simp;omega);(have y:48<=(c.toNat:Int)->¬(c.toNat:Int)<=57:=by omega);generalize(c.toNat:Int)=ci at *;have g1:(97:Int)<=v:=R;(have g2:v<=122:=by omega);(have g3:IntKind.u8.wrap (v-97)=v-97:=by rw[Td];omega);(have g4:IntKind.u8.wrap (v-97+10)=(d:Int):=by rw[Td];omega);(have g5:¬(16:Int)<=(d:Int):=by omega);(have g6:IntKind.u64.wrap (d:Int)=(d:Int):=by rw[Kn];omega);(have a8:(d:Int)<=15:=by omega);(have V:(0:Int)<=(d:Int):=by omega);clear R ad F hv v0 v1 z H hd;by_cases Y:(48:Int)<=ci
     . have ax:=y Y;clear y;by_cases g:1152921504606846976<=f
       . (have q:pu 18446744073709551615 f (c::l.drop (k+1))=none:=by simp[pu,m,g]);rw[q]at b;(have s:1152921504606846976<=a:=by omega);have B:=Hm b;clear p q ha b g m;(go_wp2_with (go_at_call 234;refine(A.o _).mono ?_;rintro e C ⟨rfl,rfl⟩));(go_ret2);exact⟨_,_,rfl,n.o,.inr ⟨B.o,.inr rfl⟩⟩
       by_cases t:18446744073709551615<f*16+d
       . exfalso;omega
       (have q:pu 18446744073709551615 f (c::l.drop (k+1))=pu 18446744073709551615 (f*16+d) (l.drop (k+1)):=by simp[pu,m,g,t]);have HN:Hid (a*16+(d:Int)=((f*16+d:Nat):Int)/\f*16+d<=18446744073709551615/\pu 18446744073709551615 0 l=pu 18446744073709551615 (f*16+d) (l.drop (k+1))):=⟨by omega,by omega,by rw[b,q]⟩;(have ac:¬18446744073709551615<a*16+(d:Int):=by omega);(have s:¬1152921504606846976<=a:=by omega);(have w1:IntKind.u64.wrap (a*16)=a*16:=by rw[Kn];omega);(have w2:IntKind.u64.wrap (a*16+(d:Int))=a*16+(d:Int):=by rw[Kn];omega);(have w3:¬a*16+(d:Int)<a*16:=by omega);clear p q ha b g t m;(go_wp2_with (go_at_call 234;refine(A.o _).mono ?_;rintro e C ⟨rfl,rfl⟩));refine⟨⟨k+1,f*16+d,a*16+(d:Int),rfl,(by first|rfl|(congr 1;omega)),(by first|rfl|(congr 1;omega)),by omega,HN⟩,by simp[intOf];omega⟩
     clear y;by_cases g:1152921504606846976<=f
     . (have q:pu 18446744073709551615 f (c::l.drop (k+1))=none:=by simp[pu,m,g]);rw[q]at b;(have s:1152921504606846976<=a:=by omega);have B:=Hm b;clear p q ha b g m;(go_wp2_with (go_at_call 234;refine(A.o _).mono ?_;rintro e C ⟨rfl,rfl⟩));(go_ret2);exact⟨_,_,rfl,n.o,.inr ⟨B.o,.inr rfl⟩⟩
     by_cases t:18446744073709551615<f*16+d
     . exfalso;omega
     (have q:pu 18446744073709551615 f (c::l.drop (k+1))=pu 18446744073709551615 (f*16+d) (l.drop (k+1)):=by simp[pu,m,g,t]);have HN:Hid (a*16+(d:Int)=((f*16+d:Nat):Int)/\f*16+d<=18446744073709551615/\pu 18446744073709551615 0 l=pu 18446744073709551615 (f*16+d) (l.drop (k+1))):=⟨by omega,by omega,by rw[b,q]⟩;(have ac:¬18446744073709551615<a*16+(d:Int):=by omega);(have s:¬1152921504606846976<=a:=by omega);(have w1:IntKind.u64.wrap (a*16)=a*16:=by rw[Kn];omega);(have w2:IntKind.u64.wrap (a*16+(d:Int))=a*16+(d:Int):=by rw[Kn];omega);(have w3:¬a*16+(d:Int)<a*16:=by omega);clear p q ha b g t m;(go_wp2_with (go_at_call 234;refine(A.o _).mono ?_;rintro e C ⟨rfl,rfl⟩));refine⟨⟨k+1,f*16+d,a*16+(d:Int),rfl,(by first|rfl|(congr 1;omega)),(by first|rfl|(congr 1;omega)),by omega,HN⟩,by simp[intOf];omega⟩
   (have q:pu 18446744073709551615 f (c::l.drop (k+1))=none:=by(have:dgI c=none:=by simp only[dgI];rw[if_neg z,<- hv,if_neg L]);simp[pu,this]);rw[q]at b;have B:=Hm b;(have y:48<=(c.toNat:Int)->¬(c.toNat:Int)<=57:=by omega);clear p q ha b hv z;(have three:¬(97:Int)<=v\/((97:Int)<=v/\¬v<=122)\/((97:Int)<=v/\v<=122/\(16:Int)<=v-97+10):=by omega);by_cases H:c.toNat=95
   . rw[H]at hc A;have aj:((95:Nat):Int)=95:=rfl;rw[aj]at hc A;clear y H aj;rcases three with I|⟨I,t2⟩|⟨I,t2,t3⟩
     . (go_wp2_with (go_at_call 234;refine(A.o _).mono ?_;rintro e C ⟨rfl,rfl⟩));(go_ret2);exact⟨_,_,rfl,n.o,.inr ⟨B.o,.inl rfl⟩⟩
     . (go_wp2_with (go_at_call 234;refine(A.o _).mono ?_;rintro e C ⟨rfl,rfl⟩));(go_ret2);exact⟨_,_,rfl,n.o,.inr ⟨B.o,.inl rfl⟩⟩
     (have g3:IntKind.u8.wrap (v-97)=v-97:=by rw[Td];omega);(have g4:IntKind.u8.wrap (v-97+10)=v-97+10:=by rw[Td];omega);(go_wp2_with (go_at_call 234;refine(A.o _).mono ?_;rintro e C ⟨rfl,rfl⟩));(go_ret2);exact⟨_,_,rfl,n.o,.inr ⟨B.o,.inl rfl⟩⟩
   (have g0:((c.toNat:Int)==95)=false:=by simp;omega);generalize(c.toNat:Int)=ci at *;clear H;by_cases Y:(48:Int)<=ci
   . have ax:=y Y;clear y;rcases three with I|⟨I,t2⟩|⟨I,t2,t3⟩
     . (go_wp2_with (go_at_call 234;refine(A.o _).mono ?_;rintro e C ⟨rfl,rfl⟩));(go_ret2);exact⟨_,_,rfl,n.o,.inr ⟨B.o,.inl rfl⟩⟩
     . (go_wp2_with (go_at_call 234;refine(A.o _).mono ?_;rintro e C ⟨rfl,rfl⟩));(go_ret2);exact⟨_,_,rfl,n.o,.inr ⟨B.o,.inl rfl⟩⟩
     (have g3:IntKind.u8.wrap (v-97)=v-97:=by rw[Td];omega);(have g4:IntKind.u8.wrap (v-97+10)=v-97+10:=by rw[Td];omega);(go_wp2_with (go_at_call 234;refine(A.o _).mono ?_;rintro e C ⟨rfl,rfl⟩));(go_ret2);exact⟨_,_,rfl,n.o,.inr ⟨B.o,.inl rfl⟩⟩
   clear y;rcases three with I|⟨I,t2⟩|⟨I,t2,t3⟩
   . (go_wp2_with (go_at_call 234;refine(A.o _).mono ?_;rintro e C ⟨rfl,rfl⟩));(go_ret2);exact⟨_,_,rfl,n.o,.inr ⟨B.o,.inl rfl⟩⟩
   . (go_wp2_with (go_at_call 234;refine(A.o _).mono ?_;rintro e C ⟨rfl,rfl⟩));(go_ret2);exact⟨_,_,rfl,n.o,.inr ⟨B.o,.inl rfl⟩⟩
   (have g3:IntKind.u8.wrap (v-97)=v-97:=by rw[Td];omega);(have g4:IntKind.u8.wrap (v-97+10)=v-97+10:=by rw[Td];omega);(go_wp2_with (go_at_call 234;refine(A.o _).mono ?_;rintro e C ⟨rfl,rfl⟩));(go_ret2);exact⟨_,_,rfl,n.o,.inr ⟨B.o,.inl rfl⟩⟩
 have au:k=N l:=by omega
 subst au;have q:pu 18446744073709551615 f (l.drop (N l))=some f:=by rw[List.drop_eq_nil_of_le lRz];rfl
 rw[q]at b;subst ha;have B:=Hm b;clear p q a0 a1 b aa;go_wp2;go_ret2
 exact⟨_,_,rfl,n.o,.inl ⟨f,B.o,rfl,rfl⟩⟩
theorem tbits_c (q:Nat)(u n:Nat)(w:J)(r:1<=n)(s:n<=16)(b:u<16 ^ n)(j:Vs q w):Ec Q 176 #[U Ou (u:Int),U O (n:Int)] w λe w'=>e=Z (Xs (Sz0 (Jj n u)))/\Bw w.heap.size w w':=by
 have d:u<18446744073709551616:=by
  have v:16 ^ n<=16 ^ 16:=Nat.pow_le_pow_right (by omega) s;have t:(16:Nat) ^ 16=18446744073709551616:=by decide
  rw[t]at v;omega
 have K:=Hm (fu_c u w d j.tz);have D:(XP u).length<=n:=by obtain⟨m,rfl⟩:∃m,n=m+1:=⟨n-1,by omega⟩;exact(hexD_spec m u b).1
 have k:Hid ([48,120]++Lib.repeatL [48] (n-(XP u).length)++XP u=Jj n u):=by show _=_;obtain⟨m,rfl⟩:∃m,n=m+1:=⟨n-1,by omega⟩;exact bits_eq m u b
 generalize Jj n u=M at *;generalize XP u=L at *;obtain⟨c,hc⟩:∃c,c=n-N L:=⟨_,rfl⟩;rw[<- hc]at k;have f:=Hm (λw=>strings_Repeat ⟨#[48]⟩ c w (by omega) (by show 1*c<=_;omega));rw[show(⟨#[48]⟩:ByteArray).data.toList=[48]from rfl]at f;have p:(Lib.repeatL [48] c).length=c:=by rw[repeat_eq];simp
 generalize Lib.repeatL [48] c=R at *;rw[show(⟨R.toArray⟩:ByteArray)=Sz0 R from rfl]at f;have C:IntKind.i64.wrap ((n:Int)-((Sz0 L).size:Int))=(c:Int):=by rw[IntKind.wrap_i64,QJ];omega
 have B:¬9223372036854775807<2+(Sz0 R).size:=by rw[QJ];omega
 have A:¬9223372036854775807<2+(Sz0 R).size+(Sz0 L).size:=by rw[QJ,QJ];omega
 clear j b hc;go_enter func176,ntmps176;go_wp2_with fail
 refine K.o.mono ?_;rintro e z ⟨rfl,a⟩;have l:=Hm a;clear K a;go_wp2_with fail
 refine(f.o _).mono ?_;rintro e y ⟨rfl,a⟩;have g:=Hm (l.o.trans (a.mono l.o.size));clear a;go_wp2;go_ret;exact⟨by rw[<- k.o,<- S_app,<- S_app];rfl,g.o⟩
def puW (mx:Nat)(l:Wd):Option Nat:=if l=[]then none else pu mx 0 l
theorem pu_le:∀(l:Wd) (n m:Nat),n<=mx->pu mx n l=some m->m<=mx
 |[],n,m,h,e=>by simp[pu]at e;omega
 |c::r,n,m,h,e=>by
  simp only[pu]at e
  split at e
  · cases e
  . split at e
    · cases e
    . split at e
      · cases e
      . exact pu_le r _ m (by omega) e
theorem puW_le {l:Wd}{m:Nat}(h:puW mx l=some m):m<=mx:=by
 unfold puW at h;split at h
 . cases h
 exact pu_le l 0 m (by omega) h
def okB (n mx:Nat)(s:Wd):Bool:=match puW mx (Lib.trimPrefix s [48,120])with|some u=>decide (Jj n u=s)|none=>false
theorem pupX:(∀(q:Nat) (l:Wd) (w:J) (hl:N l<=1099511627776) (r:Vs q w),Ec Q 174 #[Xs (Sz0 l),U O 16,U O 32] w λe f=>∃(x:Int) (a:Vu),e=Z (.tuple #[U Ou x,a])/\Bw w.heap.size w f/\((∃n:Nat,puW 4294967295 l=some n/\x=n/\a=Nf)\/(puW 4294967295 l=none/\∃t p,a=.iface t p)))/\(∀(q:Nat) (l:Wd) (w:J) (hl:N l<=1099511627776) (r:Vs q w),Ec Q 174 #[Xs (Sz0 l),U O 16,U O 64] w λe f=>∃(x:Int) (a:Vu),e=Z (.tuple #[U Ou x,a])/\Bw w.heap.size w f/\((∃n:Nat,puW 18446744073709551615 l=some n/\x=n/\a=Nf)\/(puW 18446744073709551615 l=none/\∃t p,a=.iface t p))):=by
 refine⟨?c0,?c1⟩;case' c0=>have d:=0
 case' c1=>have m:=0
 all_goals
  intro q l w hl r
  obtain⟨u,c1,A⟩:=r.e1;obtain⟨s,y,z⟩:=r.e2;have b1:(1:Nat)<w.heap.size:=Kh w _ c1;have B:(2:Nat)<w.heap.size:=Kh w _ y;have I:(Sz0 l).size=N l:=QJ l
  first|(replace d:=d;have C:=Hm (λ(V:J) (b:Bw w.heap.size w V)=>strconv_toError_syntax ⟨#[80,97,114,115,101,85,105,110,116]⟩ (Sz0 l) 16 32 u V (by omega) ((b.cell (p:=⟨1,0,none⟩) b1).trans c1) A))|(have C:=Hm (λ(V:J) (b:Bw w.heap.size w V)=>strconv_toError_syntax ⟨#[80,97,114,115,101,85,105,110,116]⟩ (Sz0 l) 16 64 u V (by omega) ((b.cell (p:=⟨1,0,none⟩) b1).trans c1) A))
  first|(replace d:=d;have D:=Hm (λ(V:J) (b:Bw w.heap.size w V)=>strconv_toError_range ⟨#[80,97,114,115,101,85,105,110,116]⟩ (Sz0 l) 16 32 s V (by omega) ((b.cell (p:=⟨2,0,none⟩) B).trans y) z))|(have D:=Hm (λ(V:J) (b:Bw w.heap.size w V)=>strconv_toError_range ⟨#[80,97,114,115,101,85,105,110,116]⟩ (Sz0 l) 16 64 s V (by omega) ((b.cell (p:=⟨2,0,none⟩) B).trans y) z))
  first
  | (
   replace d:=d
   have K:Hid (Ec Q 214 #[Xs (Sz0 l),U O 16,U O 32] w λe f=>∃(x:Int) (a:Vu),e=Z (.tuple #[U Ou x,a])/\Bw w.heap.size w f/\((∃n:Nat,puW 4294967295 l=some n/\x=n/\a=Nf)\/(puW 4294967295 l=none/\(a=.iface 268 (U O 2)\/a=.iface 268 (U O 1))))):=by
    show Ec _ _ _ _ _
    by_cases c:l=[]
    . subst c
      refine(internal_strconv_ParseUint_empty 16 32 w).mono ?_
      rintro e f ⟨rfl,rfl⟩
      exact⟨0,_,rfl,bFz,.inr ⟨rfl,.inl rfl⟩⟩
    . refine(pui32_c l w c hl).mono ?_
      rintro e f ⟨x,a,rfl,b,hx⟩
      refine⟨x,a,rfl,b,?_⟩
      rw[show puW 4294967295 l=pu 4294967295 0 l by simp[puW,c]]
      exact hx)
  | (
   replace m:=m
   have K:Hid (Ec Q 214 #[Xs (Sz0 l),U O 16,U O 64] w λe f=>∃(x:Int) (a:Vu),e=Z (.tuple #[U Ou x,a])/\Bw w.heap.size w f/\((∃n:Nat,puW 18446744073709551615 l=some n/\x=n/\a=Nf)\/(puW 18446744073709551615 l=none/\(a=.iface 268 (U O 2)\/a=.iface 268 (U O 1))))):=by
    show Ec _ _ _ _ _
    by_cases c:l=[]
    . subst c
      refine(internal_strconv_ParseUint_empty 16 64 w).mono ?_
      rintro e f ⟨rfl,rfl⟩
      exact⟨0,_,rfl,bFz,.inr ⟨rfl,.inl rfl⟩⟩
    . refine(pui64_c l w c hl).mono ?_
      rintro e f ⟨x,a,rfl,b,hx⟩
      refine⟨x,a,rfl,b,?_⟩
      rw[show puW 18446744073709551615 l=pu 18446744073709551615 0 l by simp[puW,c]]
      exact hx)
  clear r c1 y A z
  go_enter func174,ntmps174
  go_wp2_with fail
  refine K.o.mono ?_
  rintro e H ⟨x,a,rfl,b,hx⟩;have k:=Hm b;clear b K
  rcases hx with ⟨n,g,rfl,rfl⟩|⟨g,rfl|rfl⟩
  . have v:=Hm g;clear g
    go_wp2
    go_ret2
    exact⟨_,_,rfl,k.o,.inl ⟨n,v.o,rfl,rfl⟩⟩
  . have v:=Hm g;clear g
    go_wp2_with fail
    refine(C.o _ k.o).mono ?_
    rintro e E ⟨F,rfl,-,-,b⟩;have j:=Hm (k.o.trans (b.mono k.o.size));clear b
    go_wp2
    go_ret2
    exact⟨_,_,rfl,j.o,.inr ⟨v.o,_,_,rfl⟩⟩
  . have v:=Hm g;clear g
    go_wp2_with fail
    refine(D.o _ k.o).mono ?_
    rintro e E ⟨F,rfl,-,-,b⟩;have j:=Hm (k.o.trans (b.mono k.o.size));clear b
    go_wp2
    go_ret2
    exact⟨_,_,rfl,j.o,.inr ⟨v.o,_,_,rfl⟩⟩
def pup32_c:=pupX.1
def pup64_c:=pupX.2
theorem bitsX:(∀(q:Nat) (ws:List Wd) (bad:Bool) (w:J) (h:Tw w q ws bad) (hl:∀x∈ws,N x<=1099511627776) (E:Vs q w),Ec Q 114 #[Yp (some ⟨q,0,none⟩),U O 8] w λe w'=>∃x:Int,e=Z (U Ou x)/\Tw w' q ws.tail ((bad || ws.isEmpty) || !okB 8 4294967295 (ws.headD []))/\w.grownBy w' (some q)/\(okB 8 4294967295 (ws.headD [])=true->∃u:Nat,x=u/\u<=4294967295/\Jj 8 u=ws.headD []))/\(∀(q:Nat) (ws:List Wd) (bad:Bool) (w:J) (h:Tw w q ws bad) (hl:∀x∈ws,N x<=1099511627776) (E:Vs q w),Ec Q 114 #[Yp (some ⟨q,0,none⟩),U O 16] w λe w'=>∃x:Int,e=Z (U Ou x)/\Tw w' q ws.tail ((bad || ws.isEmpty) || !okB 16 18446744073709551615 (ws.headD []))/\w.grownBy w' (some q)/\(okB 16 18446744073709551615 (ws.headD [])=true->∃u:Nat,x=u/\u<=18446744073709551615/\Jj 16 u=ws.headD [])):=by
 refine⟨?c0,?c1⟩;case' c0=>have a:=0
 case' c1=>have g:=0
 all_goals
  intro q ws bad w h hl E
  have KN:=Hm (next_g q ws bad w h)
  have R:(ws.headD []).length<=1099511627776:=by
   cases ws with
   |nil=>simp
   |cons x r=>exact hl x (by simp)
  have HV:=Hm E;have hq:=h.lt;clear h E hl;generalize ws.headD []=s at *;generalize ws.tail=r at *;generalize(bad || ws.isEmpty)=z at *;have B:=Hm (λw=>strings_TrimPrefix (Sz0 s) ⟨#[48,120]⟩ w);rw[QB,show(⟨#[48,120]⟩:ByteArray).data.toList=[48,120]from rfl]at B
  have m:(Lib.trimPrefix s [48,120]).length<=1099511627776:=by
   unfold Lib.trimPrefix;split
   · simp;omega
   . exact R
  obtain⟨t,ht⟩:∃t,Lib.trimPrefix s [48,120]=t:=⟨_,rfl⟩;rw[ht]at B m;rw[show(⟨t.toArray⟩:ByteArray)=Sz0 t from rfl]at B;have I:=Hm ht;clear ht
  go_enter func114,ntmps114
  go_wp2_with fail
  refine KN.o.mono ?_
  rintro e w1 ⟨rfl,g,b1⟩;have T1:=Hm g;have B1:=Hm b1;have H:=Hm (HV.o.keep (Jt b1 hq));have ak:=b1.size;have ao:=g.lt;clear g b1 KN HV
  go_wp2_with fail
  refine(B.o _).mono ?_
  rintro e y ⟨rfl,rfl⟩;clear B
  go_wp2_with fail
  first|(replace a:=a;refine(pup32_c q t y m H.o).mono ?_)|(refine(pup64_c q t y m H.o).mono ?_)
  rintro e M ⟨x,ev,rfl,F,hx⟩;have Y:=Hm (T1.o.keep F);have B2:=Hm (Ql B1.o (Qu F));have X:=Hm (H.o.keep (F.mono (by omega)));clear F T1 B1 H
  rcases hx with ⟨u,hx,rfl,rfl⟩|⟨hx,t',p,rfl⟩
  . first|(replace a:=a;have l:u<=4294967295:=puW_le hx)|(have l:u<=18446744073709551615:=puW_le hx)
    first|(replace a:=a;have v:(16:Nat) ^ 8=4294967295+1:=by decide)|(have v:(16:Nat) ^ 16=18446744073709551615+1:=by decide)
    first|(replace a:=a;have C:=Hm (tbits_c q u 8 M (by decide) (by decide) (by rw[v];omega) X.o))|(have C:=Hm (tbits_c q u 16 M (by decide) (by decide) (by rw[v];omega) X.o))
    first|(replace a:=a;have b:okB 8 4294967295 s=decide (Jj 8 u=s):=by simp[okB,I.o,hx])|(have b:okB 16 18446744073709551615 s=decide (Jj 16 u=s):=by simp[okB,I.o,hx])
    have d:=Hm b;have HM:=Hm l;clear hx b l
    first|(replace a:=a;rw[show((8:Nat):Int)=8 from rfl]at C)|(rw[show((16:Nat):Int)=16 from rfl]at C)
    go_wp2_with fail
    refine C.o.mono ?_
    rintro e w3 ⟨rfl,V⟩;have T3:=Hm (Y.o.keep V);have B3:=Hm (Ql B2.o (Qu V));clear V Y B2 X C
    first|(replace a:=a;by_cases f:Jj 8 u=s)|(by_cases f:Jj 16 u=s)
    . first|(replace a:=a;have b:okB 8 4294967295 s=true:=by rw[d.o];simp[f])|(have b:okB 16 18446744073709551615 s=true:=by rw[d.o];simp[f])
      have L:=Hm b;have k:=Hm (JZ q r z true w3 T3.o);have HE:=Hm f
      first|(replace a:=a;have n:((Sz0 (Jj 8 u)).toList==(Sz0 s).toList)=true:=by rw[Xt];simp[HE.o])|(have n:((Sz0 (Jj 16 u)).toList==(Sz0 s).toList)=true:=by rw[Xt];simp[HE.o])
      clear b f
      go_wp2_with fail
      refine k.o.mono ?_
      rintro e w9 ⟨rfl,c,j⟩;have A:=Hm c;have D:=Hm (Ql B3.o j);clear c j k
      go_wp2
      go_ret
      exact⟨u,rfl,by rw[L.o];exact A.o,D.o,λ_=>⟨u,rfl,HM.o,HE.o⟩⟩
    . first|(replace a:=a;have b:okB 8 4294967295 s=false:=by rw[d.o];simp[f])|(have b:okB 16 18446744073709551615 s=false:=by rw[d.o];simp[f])
      have L:=Hm b;have k:=Hm (JZ q r z false w3 T3.o)
      first|(replace a:=a;have n:((Sz0 (Jj 8 u)).toList==(Sz0 s).toList)=false:=by rw[Xt];simp[f])|(have n:((Sz0 (Jj 16 u)).toList==(Sz0 s).toList)=false:=by rw[Xt];simp[f])
      clear b f
      go_wp2_with fail
      refine k.o.mono ?_
      rintro e w9 ⟨rfl,c,j⟩;have A:=Hm c;have D:=Hm (Ql B3.o j);clear c j k
      go_wp2
      go_ret
      exact⟨u,rfl,by rw[L.o];exact A.o,D.o,λh=>by rw[L.o]at h;cases h⟩
  . first|(replace a:=a;have b:okB 8 4294967295 s=false:=by simp[okB,I.o,hx])|(have b:okB 16 18446744073709551615 s=false:=by simp[okB,I.o,hx])
    have k:=Hm (JZ q r z false M Y.o);have d:=Hm b;clear hx b
    go_wp2_with fail
    refine k.o.mono ?_
    rintro e w9 ⟨rfl,c,j⟩;have A:=Hm c;have D:=Hm (Ql B2.o j);clear c j k
    go_wp2
    go_ret
    exact⟨x,rfl,by rw[d.o];exact A.o,D.o,λh=>by rw[d.o]at h;cases h⟩
def bits32_c:=bitsX.1
def bits64_c:=bitsX.2
theorem Qh {P:Program}{c:Code}{b:Exit->Act->J->Prop}{a:Act}{d:J}(R:J->Prop)(f:R d)(h:∀W,R W->c.wp P b a W):c.wp P b a d:=h d f
theorem Qx {P:Program}{c:Func}{f:Ending->J->Prop}{d:Exit}{a:Act}{b:J}(R:J->Prop)(g:R b)(h:∀W,R W->bodyPost P c f d a W):bodyPost P c f d a b:=h b g
theorem c5_grown {k:J}{m o:Nat}{c:Vu}(h:C5 w g o a b c d e)(hg:w.grownBy k (some m))(l:g≠m):C5 k g o a b c d e:=by
 have j:k.heap[g]?=w.heap[g]?:=hg.block g (Kh w _ h.1.1) (by simpa using l);obtain⟨⟨s,r,q,p,n⟩,f⟩:=h;exact⟨⟨(Kx j).trans s,(Kx j).trans r,(Kx j).trans q,(Kx j).trans p,(Kx j).trans n⟩,λi=>(World.frozen?_of_block j).trans (f i)⟩
theorem c5_far {o i:Nat}{c:Vu}(h:C5 w g o a b c d e)(f:g≠X):C5 (w.setCell ⟨X,i,none⟩ v) g o a b c d e:=c5_grown h (JE w X i v) f
theorem c5_set1 {c:Vu}(h:C5 w g 0 a b c d e):C5 (w.setCell ⟨g,1,none⟩ v) g 0 a v c d e:=by
 obtain⟨⟨n,m,l,k,j⟩,f⟩:=h;exact⟨⟨Qi n,QW m,Qi l,Qi k,Qi j⟩,λi=>by rw[Tn];exact f i⟩
theorem c5_set2 {c:Vu}(h:C5 w g 0 a b c d e):C5 (w.setCell ⟨g,2,none⟩ v) g 0 a b v d e:=by
 obtain⟨⟨n,m,l,k,j⟩,f⟩:=h;exact⟨⟨Qi n,Qi m,QW l,Qi k,Qi j⟩,λi=>by rw[Tn];exact f i⟩
theorem c5_set3 {c:Vu}(h:C5 w g 0 a b c d e):C5 (w.setCell ⟨g,3,none⟩ v) g 0 a b c v e:=by
 obtain⟨⟨n,m,l,k,j⟩,f⟩:=h;exact⟨⟨Qi n,Qi m,Qi l,QW k,Qi j⟩,λi=>by rw[Tn];exact f i⟩
theorem c5_set4 {c:Vu}(h:C5 w g 0 a b c d e):C5 (w.setCell ⟨g,4,none⟩ v) g 0 a b c d v:=by
 obtain⟨⟨n,m,l,k,j⟩,f⟩:=h;exact⟨⟨Qi n,Qi m,Qi l,Qi k,QW j⟩,λi=>by rw[Tn];exact f i⟩
theorem two_box (w:J)(op:Int):C5 ((w.alloc (Fc #[U O 0,U O 0,U O 0,U Ou 0,S none 0 0] 70)).alloc (Fc #[U O op,U O 0,U O 0,U Ou 0,S none 0 0] 70)) w.heap.size 0 (U O 0) (U O 0) (U O 0) (U Ou 0) (S none 0 0)/\C5 ((w.alloc (Fc #[U O 0,U O 0,U O 0,U Ou 0,S none 0 0] 70)).alloc (Fc #[U O op,U O 0,U O 0,U Ou 0,S none 0 0] 70)) (w.heap.size+1) 0 (U O op) (U O 0) (U O 0) (U Ou 0) (S none 0 0)/\Bw w.heap.size w ((w.alloc (Fc #[U O 0,U O 0,U O 0,U Ou 0,S none 0 0] 70)).alloc (Fc #[U O op,U O 0,U O 0,U Ou 0,S none 0 0] 70)):=by
 refine⟨C5.new.past,?_,(bFz.alloc lRz _).alloc (by simp) _⟩;have:=C5.new (w:=w.alloc (Fc #[U O 0,U O 0,U O 0,U Ou 0,S none 0 0] 70)) (a:=U O op) (b:=U O 0) (c:=U O 0) (d:=U Ou 0) (e:=S none 0 0) (t:=70);simpa using this
def Nm (lo hi:Int)(s:Wd)(v:Int):Prop:=okN lo hi s=true/\okP s=some v
def Nms:List Wd->List Int->Prop
 |[],[]=>True
 |s::r,v::vs=>Nm 0 4294967295 s v/\Nms r vs
 |_,_=>False
def Arg (f:Int)(r:List Wd)(x:In):Prop :=
 if f=1 then(r=[]/\x=⟨x.op,64,0,0,[]⟩)\/(∃t,r=[t]/\tyN t≠0/\x=⟨x.op,tyN t,0,0,[]⟩)
 else if f=2\/f=4 then ∃s v,r=[s]/\Nm 0 4294967295 s v/\x=⟨x.op,v,0,0,[]⟩
 else if f=3 then ∃ss s vs v,r=ss++[s]/\Nms ss vs/\Nm 0 4294967295 s v/\x=⟨x.op,v,0,0,vs⟩
 else if f=5 then ∃s t v u,r=[s,t]/\Nm 0 4294967295 s v/\Nm 0 4294967295 t u/\x=⟨x.op,v,u,0,[]⟩
 else if f=7 then ∃s v,r=[s]/\Nm (-2147483648) 2147483647 s v/\x=⟨x.op,0,0,v%4294967296,[]⟩
 else if f=8 then ∃s v,r=[s]/\Nm (-9223372036854775808) 9223372036854775807 s v/\x=⟨x.op,0,0,v%18446744073709551616,[]⟩
 else if f=9 then ∃s,∃u:Nat,r=[s]/\okB 8 4294967295 s=true/\u<=4294967295/\Jj 8 u=s/\x=⟨x.op,0,0,u,[]⟩
 else if f=10 then ∃s,∃u:Nat,r=[s]/\okB 16 18446744073709551615 s=true/\u<=18446744073709551615/\Jj 16 u=s/\x=⟨x.op,0,0,u,[]⟩
 else r=[]/\x=⟨x.op,0,0,0,[]⟩
theorem Tw.far {o:Nat}{bad:Bool}(h:Tw w q ws bad)(g:q<X):Tw (w.setCell ⟨X,o,none⟩ v) q ws bad:=by
 have K:∀b p u,b<X->w.cell? ⟨b,p,none⟩=some u->(w.setCell ⟨X,o,none⟩ v).cell? ⟨b,p,none⟩=some u:=λb p u hb hu=>by rw[World.cell?_setCell_other _ _ _ _ (λe=>by have l:X=b:=congrArg Addr.block e;omega)];exact hu
 obtain⟨a,c,k,f⟩:=h.c0;refine⟨⟨a,c,K _ _ _ g k,?_⟩,K _ _ _ g h.c1,λi=>by rw[Tn];exact h.fz i,h.le⟩;rcases f with f|⟨b,p,e,d,hc,j⟩
 . exact .inl f
 exact .inr ⟨b,p,e,d,hc,λi hi=>K _ _ _ (by omega) (j i hi)⟩
theorem JI (g:w.grownBy V (some q))(a:w.heap.size<=X)(o:Nat)(u:Vu):w.grownBy (V.setCell ⟨X,o,none⟩ u) (some q) :=
 ⟨g.os,g.tape,g.output,by simpa[Bb]using g.size,λk hk hne=>(Hk _ _ _ _ (by show k≠X;omega)).trans (g.block k hk hne)⟩
structure Bx (w:J)(q:Nat)(ws:List Wd)(bd:Bool)(a b c d e:Vu)(V:J):Prop where
 x:C5 V (w.heap.size+1) 0 a b c d e
 z:C5 V w.heap.size 0 (U O 0) (U O 0) (U O 0) (U Ou 0) (S none 0 0)
 t:Tw V q ws bd
 g:w.grownBy V (some q)
 v:Vs q V
 qq:q<w.heap.size
theorem Bx.call {f:List Wd}{j:Bool}{c:Vu}{V':J}(h:Bx w q ws bd a b c d e V)(hg:V.grownBy V' (some q))(ht:Tw V' q f j):Bx w q f j a b c d e V' :=
 have:=h.qq
 ⟨c5_grown h.x hg (by omega),c5_grown h.z hg (by omega),ht,Ql h.g hg,h.v.keep (Jt hg h.t.lt),h.qq⟩
theorem Bx.below {c:Vu}{V':J}(h:Bx w q ws bd a b c d e V)(f:Bw V.heap.size V V'):Bx w q ws bd a b c d e V':=h.call (Qu f) (h.t.keep f)
theorem Bx.far {c:Vu}(h:Bx w q ws bd a b c d e V)(o:Nat)(u:Vu):C5 (V.setCell ⟨w.heap.size+1,o,none⟩ u) w.heap.size 0 (U O 0) (U O 0) (U O 0) (U Ou 0) (S none 0 0)/\Tw (V.setCell ⟨w.heap.size+1,o,none⟩ u) q ws bd/\w.grownBy (V.setCell ⟨w.heap.size+1,o,none⟩ u) (some q)/\Vs q (V.setCell ⟨w.heap.size+1,o,none⟩ u):=by
 have j:=h.qq;have f:=h.g.size;refine⟨c5_far h.z (by omega),h.t.far (by omega),⟨h.g.os,h.g.tape,h.g.output,by simpa[Bb]using f,λk hk hne=>(Hk _ _ _ _ (by show k≠w.heap.size+1;omega)).trans (h.g.block k hk hne)⟩,h.v.keep (bFz.setCell (by show q<=w.heap.size+1;omega) _)⟩
theorem Bx.set1 {c:Vu}(h:Bx w q ws bd a b c d e V):Bx w q ws bd a u c d e (V.setCell ⟨w.heap.size+1,1,none⟩ u) :=
 ⟨c5_set1 h.x,(h.far 1 u).1,(h.far 1 u).2.1,(h.far 1 u).2.2.1,(h.far 1 u).2.2.2,h.qq⟩
theorem Bx.set2 {c:Vu}(h:Bx w q ws bd a b c d e V):Bx w q ws bd a b u d e (V.setCell ⟨w.heap.size+1,2,none⟩ u) :=
 ⟨c5_set2 h.x,(h.far 2 u).1,(h.far 2 u).2.1,(h.far 2 u).2.2.1,(h.far 2 u).2.2.2,h.qq⟩
theorem Bx.set3 {c:Vu}(h:Bx w q ws bd a b c d e V):Bx w q ws bd a b c u e (V.setCell ⟨w.heap.size+1,3,none⟩ u) :=
 ⟨c5_set3 h.x,(h.far 3 u).1,(h.far 3 u).2.1,(h.far 3 u).2.2.1,(h.far 3 u).2.2.2,h.qq⟩
theorem Bx.set4 {c:Vu}(h:Bx w q ws bd a b c d e V):Bx w q ws bd a b c d u (V.setCell ⟨w.heap.size+1,4,none⟩ u) :=
 ⟨c5_set4 h.x,(h.far 4 u).1,(h.far 4 u).2.1,(h.far 4 u).2.2.1,(h.far 4 u).2.2.2,h.qq⟩
def InsP (f op:Int)(ws:List Wd)(w:J)(q:Nat)(e:Ending)(w':J):Prop:=∃(x:In) (la:Option Ad) (lc:Nat) (ws':List Wd) (bd:Bool),e=Z (inV x la lc)/\x.op=op/\w'.ownsRow w.heap.size 2 1 (S la (N x.l) lc) (N x.l) (I x.l)/\Tw w' q ws' bd/\w.grownBy w' (some q)/\(bd=false->ws'=[]->Arg f ws x)/\((∃y,Arg f ws y)->bd=false/\ws'=[])
theorem JV (w:J)(B:Nat):w.ownsRow B 2 1 (S none ([]:List Int).length 0) ([]:List Int).length (I []):=⟨rfl,.inl ⟨rfl,rfl⟩⟩
theorem Bx.fin {c:Vu}(h:Bx w q ws bd a b c d e V)(m l k j f:Vu):C5 (((((V.setCell ⟨w.heap.size,0,none⟩ m).setCell ⟨w.heap.size,1,none⟩ l).setCell ⟨w.heap.size,2,none⟩ k).setCell ⟨w.heap.size,3,none⟩ j).setCell ⟨w.heap.size,4,none⟩ f) w.heap.size 0 m l k j f/\Tw (((((V.setCell ⟨w.heap.size,0,none⟩ m).setCell ⟨w.heap.size,1,none⟩ l).setCell ⟨w.heap.size,2,none⟩ k).setCell ⟨w.heap.size,3,none⟩ j).setCell ⟨w.heap.size,4,none⟩ f) q ws bd/\w.grownBy (((((V.setCell ⟨w.heap.size,0,none⟩ m).setCell ⟨w.heap.size,1,none⟩ l).setCell ⟨w.heap.size,2,none⟩ k).setCell ⟨w.heap.size,3,none⟩ j).setCell ⟨w.heap.size,4,none⟩ f) (some q):=by
 have n:=h.qq;obtain⟨⟨y,u,s,r,p⟩,A⟩:=h.z;simp only[Kk]at y u s r p;have M:=h.t.far (o:=0) (v:=m) n;have L:=M.far (o:=1) (v:=l) n;have I:=L.far (o:=2) (v:=k) n;have H:=I.far (o:=3) (v:=j) n;have F:=H.far (o:=4) (v:=f) n;have E:=JI h.g lRz 0 m;have g1:=JI E lRz 1 l;have D:=JI g1 lRz 2 k;have C:=JI D lRz 3 j;have B:=JI C lRz 4 f;refine⟨⟨⟨?_,?_,?_,?_,?_⟩,λi=>by simp only[Tn];exact A i⟩,F,B⟩
 . exact Qi (Qi (Qi (Qi (QW y)))) (by decide)
 . exact Qi (Qi (Qi (QW (Qi u)))) (by decide)
 . exact Qi (Qi (QW (Qi (Qi s)))) (by decide)
 . exact Qi (QW (Qi (Qi (Qi r)))) (by decide)
 exact QW (Qi (Qi (Qi (Qi p))))
theorem insZ:(∀(q:Nat) (ws:List Wd) (op:Int) (w:J) (j:QD (Qe op)=0) (h:Tw w q ws false) (hl:∀x∈ws,N x<=1099511627776) (m:Vs q w),Ec Q 31 #[Yp (some ⟨q,0,none⟩),U O op] w (InsP 0 op ws w q))/\(∀(q:Nat) (ws:List Wd) (op:Int) (w:J) (j:QD (Qe op)=6) (h:Tw w q ws false) (hl:∀x∈ws,N x<=1099511627776) (m:Vs q w),Ec Q 31 #[Yp (some ⟨q,0,none⟩),U O op] w (InsP 6 op ws w q))/\(∀(q:Nat) (ws:List Wd) (op:Int) (w:J) (j:QD (Qe op)=-1) (h:Tw w q ws false) (hl:∀x∈ws,N x<=1099511627776) (m:Vs q w),Ec Q 31 #[Yp (some ⟨q,0,none⟩),U O op] w (InsP (-1) op ws w q)):=by
 refine⟨?c0,?c1,?c2⟩;case' c0=>have c:=0
 case' c1=>have b:=0
 case' c2=>have a:=0
 all_goals
  intro q ws op w j h hl m
  have B:=Hm (iform_c op);rw[j]at B;obtain⟨W,A⟩:∃W,W=(w.alloc (Fc #[U O 0,U O 0,U O 0,U Ou 0,S none 0 0] 70)).alloc (Fc #[U O op,U O 0,U O 0,U Ou 0,S none 0 0] 70):=⟨_,rfl⟩;obtain⟨u,hx,l⟩:=two_box w op;rw[<- A]at u hx l;have HW:=Hm A;have BX:=Hm (show Bx w q ws false (U O op) (U O 0) (U O 0) (U Ou 0) (S none 0 0) W from⟨hx,u,h.keep l,Qu l,m.keep (l.mono (Lv h.lt)),h.lt⟩);clear j A u hx l h m
  go_enter func31,ntmps31
  go_wp2_with fail
  rw[<- HW.o]
  refine(B.o _).mono ?_
  rintro e w2 ⟨rfl,k⟩;have C:=Hm (BX.o.below k);clear k BX HW B;clear hl
  go_upto_region 25 with fail
  obtain⟨⟨X,V,R,M,L⟩,xf⟩:=C.o.x;obtain⟨⟨I,H,F,E,D⟩,d⟩:=C.o.z
  simp only[Kk]at X V R M L I H F E D
  have t:=d 0;have s:=d 1;have r:=d 2;have p:=d 3;have n:=d 4;clear xf d
  go_wp2
  refine Qx (λUz0=>C5 Uz0 w.heap.size 0 (U O op) (U O 0) (U O 0) (U Ou 0) (S none 0 0)/\Tw Uz0 q ws false/\w.grownBy Uz0 (some q)) (C.o.fin _ _ _ _ _) ?_
  rintro Uz0 ⟨⟨⟨c,b,a,g,f⟩,-⟩,Y,gU⟩
  simp only[Kk]at c b a g f
  have HU:=Hm (And.intro Y gU);clear Y gU X V R M L I H F E D t s r p n
  exact bodyPost_ret (v:=inV ⟨op,0,0,0,[]⟩ none 0) (by simp[results,results31,go_sem,c,b,a,g,f]) rfl ⟨⟨op,0,0,0,[]⟩,none,0,_,_,rfl,rfl,JV _ _,HU.o.1,HU.o.2,λ_ h=>by simp[Arg];exact h,λ⟨y,hy⟩=>⟨rfl,by simp[Arg]at hy;exact hy.1⟩⟩
def ins_0:=insZ.1
def ins_6:=insZ.2.1
def ins_m1:=insZ.2.2
theorem one_ok {b:Bool}(h:((false || ws.isEmpty) || !b)=false)(ht:ws.tail=[]):∃s,ws=[s]/\b=true:=by
 cases ws with
 |nil=>simp at h
 |cons a r=>simp at h ht;subst ht;exact⟨a,rfl,h⟩
theorem arg_1 (r:List Wd)(x:In):Arg 1 r x=((r=[]/\x=⟨x.op,64,0,0,[]⟩)\/(∃t,r=[t]/\tyN t≠0/\x=⟨x.op,tyN t,0,0,[]⟩)):=by unfold Arg;rw[if_pos rfl]
theorem arg_2 (r:List Wd)(x:In):Arg 2 r x=(∃s v,r=[s]/\Nm 0 4294967295 s v/\x=⟨x.op,v,0,0,[]⟩):=by unfold Arg;rw[if_neg (by decide),if_pos (by decide)]
theorem arg_4 (r:List Wd)(x:In):Arg 4 r x=(∃s v,r=[s]/\Nm 0 4294967295 s v/\x=⟨x.op,v,0,0,[]⟩):=by unfold Arg;rw[if_neg (by decide),if_pos (by decide)]
theorem arg_3 (r:List Wd)(x:In):Arg 3 r x=(∃ss s vs v,r=ss++[s]/\Nms ss vs/\Nm 0 4294967295 s v/\x=⟨x.op,v,0,0,vs⟩):=by unfold Arg;rw[if_neg (by decide),if_neg (by decide),if_pos rfl]
theorem arg_5 (r:List Wd)(x:In):Arg 5 r x=(∃s t v u,r=[s,t]/\Nm 0 4294967295 s v/\Nm 0 4294967295 t u/\x=⟨x.op,v,u,0,[]⟩):=by unfold Arg;rw[if_neg (by decide),if_neg (by decide),if_neg (by decide),if_pos rfl]
theorem arg_7 (r:List Wd)(x:In):Arg 7 r x=(∃s v,r=[s]/\Nm (-2147483648) 2147483647 s v/\x=⟨x.op,0,0,v%4294967296,[]⟩):=by unfold Arg;rw[if_neg (by decide),if_neg (by decide),if_neg (by decide),if_neg (by decide),if_pos rfl]
theorem arg_8 (r:List Wd)(x:In):Arg 8 r x=(∃s v,r=[s]/\Nm (-9223372036854775808) 9223372036854775807 s v/\x=⟨x.op,0,0,v%18446744073709551616,[]⟩):=by unfold Arg;rw[if_neg (by decide),if_neg (by decide),if_neg (by decide),if_neg (by decide),if_neg (by decide),if_pos rfl]
theorem arg_9 (r:List Wd)(x:In):Arg 9 r x=(∃s,∃u:Nat,r=[s]/\okB 8 4294967295 s=true/\u<=4294967295/\Jj 8 u=s/\x=⟨x.op,0,0,u,[]⟩):=by unfold Arg;rw[if_neg (by decide),if_neg (by decide),if_neg (by decide),if_neg (by decide),if_neg (by decide),if_neg (by decide),if_pos rfl]
theorem arg_10 (r:List Wd)(x:In):Arg 10 r x=(∃s,∃u:Nat,r=[s]/\okB 16 18446744073709551615 s=true/\u<=18446744073709551615/\Jj 16 u=s/\x=⟨x.op,0,0,u,[]⟩):=by unfold Arg;rw[if_neg (by decide),if_neg (by decide),if_neg (by decide),if_neg (by decide),if_neg (by decide),if_neg (by decide),if_neg (by decide),if_pos rfl]
theorem back_n {lo hi:Int}(h:∃s v,ws=[s]/\Nm lo hi s v):((false || ws.isEmpty) || !okN lo hi (ws.headD []))=false/\ws.tail=[]:=by
 obtain⟨s,v,rfl,a,-⟩:=h;exact⟨by simp[a],rfl⟩
theorem there_n {lo hi v:Int}(hx:okN lo hi (ws.headD [])=true->okP (ws.headD [])=some v)(h:((false || ws.isEmpty) || !okN lo hi (ws.headD []))=false)(ht:ws.tail=[]):∃s,ws=[s]/\Nm lo hi s v:=by
 obtain⟨s,rfl,a⟩:=one_ok h ht;exact⟨s,rfl,a,hx a⟩
theorem back_b {n:Nat}(h:∃s,ws=[s]/\okB n mx s=true):((false || ws.isEmpty) || !okB n mx (ws.headD []))=false/\ws.tail=[]:=by
 obtain⟨s,rfl,a⟩:=h;exact⟨by simp[a],rfl⟩
theorem two_ok {a b:Bool}(h:(((((false || ws.isEmpty) || !a)) || ws.tail.isEmpty) || !b)=false)(ht:ws.tail.tail=[]):∃s t,ws=[s,t]/\a=true/\b=true:=by
 match ws with
 |[]=>simp at h
 |[_]=>simp at h
 |s::t::r=>simp at h ht;subst ht;exact⟨s,t,rfl,h.1,h.2⟩
theorem tlw_len (hl:∀x∈ws,N x<=1099511627776):∀x∈ws.tail,N x<=1099511627776:=λx hx=>hl x (List.mem_of_mem_tail hx)
theorem ins_5 (q:Nat)(ws:List Wd)(op:Int)(w:J)(hf:QD (Qe op)=5)(h:Tw w q ws false)(hl:∀x∈ws,N x<=1099511627776)(hV:Vs q w):Ec Q 31 #[Yp (some ⟨q,0,none⟩),U O op] w (InsP 5 op ws w q):=by
 have R:=Hm (iform_c op);rw[hf]at R;obtain⟨W,M⟩:∃W,W=(w.alloc (Fc #[U O 0,U O 0,U O 0,U Ou 0,S none 0 0] 70)).alloc (Fc #[U O op,U O 0,U O 0,U Ou 0,S none 0 0] 70):=⟨_,rfl⟩;obtain⟨L,hx,f⟩:=two_box w op;rw[<- M]at L hx f;have HW:=Hm M;have BX:=Hm (show Bx w q ws false (U O op) (U O 0) (U O 0) (U Ou 0) (S none 0 0) W from⟨hx,L,h.keep f,Qu f,hV.keep (f.mono (Lv h.lt)),h.lt⟩);clear hf M L hx f h hV;go_enter func31,ntmps31;go_wp2_with fail
 rw[<- HW.o];refine(R.o _).mono ?_;rintro e w2 ⟨rfl,k⟩;have C:=Hm (BX.o.below k);clear k BX HW R;have l:=Hm (u32_c q ws false w2 C.o.t hl C.o.v);go_wp2_with fail
 refine l.o.mono ?_;rintro e w3 ⟨v,rfl,c,d,b⟩;have B:=Hm (C.o.call d c);have hx:=Hm b;have g:=B.o.x.1.2.1;have a:=B.o.x.2 1;simp only[Kk]at g a;clear c d b l C;go_upto_region 16 with fail
 refine Qh (λUz0=>Bx w q ws.tail ((false || ws.isEmpty) || !okN 0 4294967295 (ws.headD [])) (U O op) (U O v) (U O 0) (U Ou 0) (S none 0 0) Uz0) B.o.set1 ?_;rintro U4 n;have r:=Hm n;clear n g a B;have l:=Hm (u32_c q ws.tail _ U4 r.o.t (tlw_len hl) r.o.v);go_wp2_with fail
 refine l.o.mono ?_;rintro e w5 ⟨u,rfl,c,d,b⟩;have A:=Hm (r.o.call d c);have p:=Hm b;have g:=A.o.x.1.2.2.1;have a:=A.o.x.2 2;simp only[Kk]at g a;clear c d b l r;go_upto_region 25 with fail
 refine Qh (λUz0=>Bx w q ws.tail.tail (((((false || ws.isEmpty) || !okN 0 4294967295 (ws.headD []))) || ws.tail.isEmpty) || !okN 0 4294967295 (ws.tail.headD [])) (U O op) (U O v) (U O u) (U Ou 0) (S none 0 0) Uz0) A.o.set2 ?_;rintro U6 m;have V:=Hm m;clear m g a A;obtain⟨⟨x0,g,x2,x3,x4⟩,xf⟩:=V.o.x;obtain⟨⟨z0,z1,z2,Y,X⟩,j⟩:=V.o.z;simp only[Kk]at x0 g x2 x3 x4 z0 z1 z2 Y X;have a:=xf 1;have I:=j 0;have H:=j 1;have F:=j 2;have E:=j 3;have D:=j 4;clear xf j;go_wp2;refine Qx (λUz0=>C5 Uz0 w.heap.size 0 (U O op) (U O v) (U O u) (U Ou 0) (S none 0 0)/\Tw Uz0 q ws.tail.tail (((((false || ws.isEmpty) || !okN 0 4294967295 (ws.headD []))) || ws.tail.isEmpty) || !okN 0 4294967295 (ws.tail.headD []))/\w.grownBy Uz0 (some q)) (V.o.fin _ _ _ _ _) ?_;rintro Uz0 ⟨⟨⟨t0,t1,t2,t3,t4⟩,-⟩,tU,gU⟩;simp only[Kk]at t0 t1 t2 t3 t4;have HU:=Hm (And.intro tU gU);clear tU gU x0 g x2 x3 x4 z0 z1 z2 Y X a I H F E D;exact bodyPost_ret (v:=inV ⟨op,v,u,0,[]⟩ none 0) (by simp[results,results31,go_sem,t0,t1,t2,t3,t4]) rfl ⟨⟨op,v,u,0,[]⟩,none,0,_,_,rfl,rfl,JV _ _,HU.o.1,HU.o.2,λh ht=>by rw[arg_5];obtain⟨s,t,rfl,ha,f⟩:=two_ok h ht;exact⟨s,t,v,u,rfl,⟨ha,hx.o ha⟩,⟨f,p.o f⟩,rfl⟩,λ⟨y,p⟩=>by rw[arg_5]at p;obtain⟨s,t,v,u,rfl,⟨ha,-⟩,⟨f,-⟩,-⟩:=p;exact⟨by simp[ha,f],rfl⟩⟩
theorem insX:(∀(q:Nat) (ws:List Wd) (op:Int) (w:J) (r:QD (Qe op)=2) (h:Tw w q ws false) (hl:∀x∈ws,N x<=1099511627776) (A:Vs q w),Ec Q 31 #[Yp (some ⟨q,0,none⟩),U O op] w (InsP 2 op ws w q))/\(∀(q:Nat) (ws:List Wd) (op:Int) (w:J) (r:QD (Qe op)=4) (h:Tw w q ws false) (hl:∀x∈ws,N x<=1099511627776) (A:Vs q w),Ec Q 31 #[Yp (some ⟨q,0,none⟩),U O op] w (InsP 4 op ws w q))/\(∀(q:Nat) (ws:List Wd) (op:Int) (w:J) (r:QD (Qe op)=7) (h:Tw w q ws false) (hl:∀x∈ws,N x<=1099511627776) (A:Vs q w),Ec Q 31 #[Yp (some ⟨q,0,none⟩),U O op] w (InsP 7 op ws w q))/\(∀(q:Nat) (ws:List Wd) (op:Int) (w:J) (r:QD (Qe op)=8) (h:Tw w q ws false) (hl:∀x∈ws,N x<=1099511627776) (A:Vs q w),Ec Q 31 #[Yp (some ⟨q,0,none⟩),U O op] w (InsP 8 op ws w q))/\(∀(q:Nat) (ws:List Wd) (op:Int) (w:J) (r:QD (Qe op)=9) (h:Tw w q ws false) (hl:∀x∈ws,N x<=1099511627776) (A:Vs q w),Ec Q 31 #[Yp (some ⟨q,0,none⟩),U O op] w (InsP 9 op ws w q))/\(∀(q:Nat) (ws:List Wd) (op:Int) (w:J) (r:QD (Qe op)=10) (h:Tw w q ws false) (hl:∀x∈ws,N x<=1099511627776) (A:Vs q w),Ec Q 31 #[Yp (some ⟨q,0,none⟩),U O op] w (InsP 10 op ws w q)):=by
 refine⟨?c0,?c1,?c2,?c3,?c4,?c5⟩;case' c0=>have f:=0
 case' c1=>have d:=0
 case' c2=>have c:=0
 case' c3=>have b:=0
 case' c4=>have a:=0
 case' c5=>have k:=0
 all_goals
  intro q ws op w r h hl A
  have HF:=Hm (iform_c op);rw[r]at HF;obtain⟨W,hW⟩:∃W,W=(w.alloc (Fc #[U O 0,U O 0,U O 0,U Ou 0,S none 0 0] 70)).alloc (Fc #[U O op,U O 0,U O 0,U Ou 0,S none 0 0] 70):=⟨_,rfl⟩;obtain⟨hz,hx,p⟩:=two_box w op;rw[<- hW]at hz hx p;have HW:=Hm hW;have BX:=Hm (show Bx w q ws false (U O op) (U O 0) (U O 0) (U Ou 0) (S none 0 0) W from⟨hx,hz,h.keep p,Qu p,A.keep (p.mono (Lv h.lt)),h.lt⟩);clear r hW hz hx p h A
  go_enter func31,ntmps31
  go_wp2_with fail
  rw[<- HW.o]
  refine(HF.o _).mono ?_
  rintro e F ⟨rfl,M⟩;have n:=Hm (BX.o.below M);clear M BX HW HF
  first|(replace c:=c;have E:=Hm (number_c q ws false (-2147483648) 2147483647 F n.o.t hl n.o.v))|(replace b:=b;have E:=Hm (number_c q ws false (-9223372036854775808) 9223372036854775807 F n.o.t hl n.o.v))|(replace a:=a;have E:=Hm (bits32_c q ws false F n.o.t hl n.o.v))|(replace k:=k;have E:=Hm (bits64_c q ws false F n.o.t hl n.o.v))|(have E:=Hm (u32_c q ws false F n.o.t hl n.o.v))
  go_wp2_with fail
  refine E.o.mono ?_
  rintro e w3 ⟨v,rfl,I,L,H⟩;have m:=Hm (n.o.call L I);have hx:=Hm H
  first|(replace f:=f;have B:=m.o.x.1.2.1)|(replace d:=d;have B:=m.o.x.1.2.1)|(have B:=m.o.x.1.2.2.2.1)
  first|(replace f:=f;have j:=m.o.x.2 1)|(replace d:=d;have j:=m.o.x.2 1)|(have j:=m.o.x.2 3)
  simp only[Kk]at B j
  clear I L H E n
  go_upto_region 25 with fail
  first|(replace c:=c;refine Qh (λUz0=>Bx w q ws.tail ((false || ws.isEmpty) || !okN (-2147483648) 2147483647 (ws.headD [])) (U O op) (U O 0) (U O 0) (U Ou (v%4294967296)) (S none 0 0) Uz0) m.o.set3 ?_)|(replace b:=b;refine Qh (λUz0=>Bx w q ws.tail ((false || ws.isEmpty) || !okN (-9223372036854775808) 9223372036854775807 (ws.headD [])) (U O op) (U O 0) (U O 0) (U Ou (v%18446744073709551616)) (S none 0 0) Uz0) m.o.set3 ?_)|(replace a:=a;refine Qh (λUz0=>Bx w q ws.tail ((false || ws.isEmpty) || !okB 8 4294967295 (ws.headD [])) (U O op) (U O 0) (U O 0) (U Ou v) (S none 0 0) Uz0) m.o.set3 ?_)|(replace k:=k;refine Qh (λUz0=>Bx w q ws.tail ((false || ws.isEmpty) || !okB 16 18446744073709551615 (ws.headD [])) (U O op) (U O 0) (U O 0) (U Ou v) (S none 0 0) Uz0) m.o.set3 ?_)|(refine Qh (λUz0=>Bx w q ws.tail ((false || ws.isEmpty) || !okN 0 4294967295 (ws.headD [])) (U O op) (U O v) (U O 0) (U Ou 0) (S none 0 0) Uz0) m.o.set1 ?_)
  rintro U4 R;have C:=Hm R;clear R B j m;obtain⟨⟨x0,B,x2,x3,x4⟩,xf⟩:=C.o.x;obtain⟨⟨z0,z1,z2,z3,z4⟩,D⟩:=C.o.z
  simp only[Kk]at x0 B x2 x3 x4 z0 z1 z2 z3 z4
  have j:=xf 1;have ab:=D 0;have aa:=D 1;have Y:=D 2;have X:=D 3;have V:=D 4;clear xf D
  go_wp2
  first|(replace c:=c;refine Qx (λUz0=>C5 Uz0 w.heap.size 0 (U O op) (U O 0) (U O 0) (U Ou (v%4294967296)) (S none 0 0)/\Tw Uz0 q ws.tail ((false || ws.isEmpty) || !okN (-2147483648) 2147483647 (ws.headD []))/\w.grownBy Uz0 (some q)) (C.o.fin _ _ _ _ _) ?_)|(replace b:=b;refine Qx (λUz0=>C5 Uz0 w.heap.size 0 (U O op) (U O 0) (U O 0) (U Ou (v%18446744073709551616)) (S none 0 0)/\Tw Uz0 q ws.tail ((false || ws.isEmpty) || !okN (-9223372036854775808) 9223372036854775807 (ws.headD []))/\w.grownBy Uz0 (some q)) (C.o.fin _ _ _ _ _) ?_)|(replace a:=a;refine Qx (λUz0=>C5 Uz0 w.heap.size 0 (U O op) (U O 0) (U O 0) (U Ou v) (S none 0 0)/\Tw Uz0 q ws.tail ((false || ws.isEmpty) || !okB 8 4294967295 (ws.headD []))/\w.grownBy Uz0 (some q)) (C.o.fin _ _ _ _ _) ?_)|(replace k:=k;refine Qx (λUz0=>C5 Uz0 w.heap.size 0 (U O op) (U O 0) (U O 0) (U Ou v) (S none 0 0)/\Tw Uz0 q ws.tail ((false || ws.isEmpty) || !okB 16 18446744073709551615 (ws.headD []))/\w.grownBy Uz0 (some q)) (C.o.fin _ _ _ _ _) ?_)|(refine Qx (λUz0=>C5 Uz0 w.heap.size 0 (U O op) (U O v) (U O 0) (U Ou 0) (S none 0 0)/\Tw Uz0 q ws.tail ((false || ws.isEmpty) || !okN 0 4294967295 (ws.headD []))/\w.grownBy Uz0 (some q)) (C.o.fin _ _ _ _ _) ?_)
  rintro Uz0 ⟨⟨⟨f,d,c,b,a⟩,-⟩,tU,gU⟩
  simp only[Kk]at f d c b a
  have l:=Hm (And.intro tU gU);clear tU gU x0 B x2 x3 x4 z0 z1 z2 z3 z4 j ab aa Y X V
  first|(replace f:=f;exact bodyPost_ret (v:=inV ⟨op,v,0,0,[]⟩ none 0) (by simp[results,results31,go_sem,f,d,c,b,a]) rfl ⟨⟨op,v,0,0,[]⟩,none,0,_,_,rfl,rfl,JV _ _,l.o.1,l.o.2,λh ht=>by rw[arg_2];obtain⟨s,e,g⟩:=there_n hx.o h ht;exact⟨s,v,e,g,rfl⟩,λ⟨y,hy⟩=>by rw[arg_2]at hy;obtain⟨s,v,e,g,-⟩:=hy;exact back_n ⟨s,v,e,g⟩⟩)|(replace d:=d;exact bodyPost_ret (v:=inV ⟨op,v,0,0,[]⟩ none 0) (by simp[results,results31,go_sem,f,d,c,b,a]) rfl ⟨⟨op,v,0,0,[]⟩,none,0,_,_,rfl,rfl,JV _ _,l.o.1,l.o.2,λh ht=>by rw[arg_4];obtain⟨s,e,g⟩:=there_n hx.o h ht;exact⟨s,v,e,g,rfl⟩,λ⟨y,hy⟩=>by rw[arg_4]at hy;obtain⟨s,v,e,g,-⟩:=hy;exact back_n ⟨s,v,e,g⟩⟩)|(replace c:=c;exact bodyPost_ret (v:=inV ⟨op,0,0,v%4294967296,[]⟩ none 0) (by simp[results,results31,go_sem,f,d,c,b,a]) rfl ⟨⟨op,0,0,v%4294967296,[]⟩,none,0,_,_,rfl,rfl,JV _ _,l.o.1,l.o.2,λh ht=>by rw[arg_7];obtain⟨s,e,g⟩:=there_n hx.o h ht;exact⟨s,v,e,g,rfl⟩,λ⟨y,hy⟩=>by rw[arg_7]at hy;obtain⟨s,v,e,g,-⟩:=hy;exact back_n ⟨s,v,e,g⟩⟩)|(replace b:=b;exact bodyPost_ret (v:=inV ⟨op,0,0,v%18446744073709551616,[]⟩ none 0) (by simp[results,results31,go_sem,f,d,c,b,a]) rfl ⟨⟨op,0,0,v%18446744073709551616,[]⟩,none,0,_,_,rfl,rfl,JV _ _,l.o.1,l.o.2,λh ht=>by rw[arg_8];obtain⟨s,e,g⟩:=there_n hx.o h ht;exact⟨s,v,e,g,rfl⟩,λ⟨y,hy⟩=>by rw[arg_8]at hy;obtain⟨s,v,e,g,-⟩:=hy;exact back_n ⟨s,v,e,g⟩⟩)|(replace a:=a;exact bodyPost_ret (v:=inV ⟨op,0,0,v,[]⟩ none 0) (by simp[results,results31,go_sem,f,d,c,b,a]) rfl ⟨⟨op,0,0,v,[]⟩,none,0,_,_,rfl,rfl,JV _ _,l.o.1,l.o.2,λh ht=>by rw[arg_9];obtain⟨s,rfl,p⟩:=one_ok h ht;obtain⟨u,rfl,hu,hs⟩:=hx.o p;exact⟨s,u,rfl,p,hu,hs,rfl⟩,λ⟨y,hy⟩=>by rw[arg_9]at hy;obtain⟨s,u,e,g,-⟩:=hy;exact back_b ⟨s,e,g⟩⟩)|(exact bodyPost_ret (v:=inV ⟨op,0,0,v,[]⟩ none 0) (by simp[results,results31,go_sem,f,d,c,b,a]) rfl ⟨⟨op,0,0,v,[]⟩,none,0,_,_,rfl,rfl,JV _ _,l.o.1,l.o.2,λh ht=>by rw[arg_10];obtain⟨s,rfl,p⟩:=one_ok h ht;obtain⟨u,rfl,hu,hs⟩:=hx.o p;exact⟨s,u,rfl,p,hu,hs,rfl⟩,λ⟨y,hy⟩=>by rw[arg_10]at hy;obtain⟨s,u,e,g,-⟩:=hy;exact back_b ⟨s,e,g⟩⟩)
def ins_2:=insX.1
def ins_4:=insX.2.1
def ins_7:=insX.2.2.1
def ins_8:=insX.2.2.2.1
def ins_9:=insX.2.2.2.2.1
def ins_10:=insX.2.2.2.2.2
theorem ins_1 (q:Nat)(ws:List Wd)(op:Int)(w:J)(hf:QD (Qe op)=1)(h:Tw w q ws false)(hl:∀x∈ws,N x<=1099511627776)(hV:Vs q w):Ec Q 31 #[Yp (some ⟨q,0,none⟩),U O op] w (InsP 1 op ws w q):=by
 have HF:=Hm (iform_c op);rw[hf]at HF;obtain⟨W,hW⟩:∃W,W=(w.alloc (Fc #[U O 0,U O 0,U O 0,U Ou 0,S none 0 0] 70)).alloc (Fc #[U O op,U O 0,U O 0,U Ou 0,S none 0 0] 70):=⟨_,rfl⟩;obtain⟨hz,hx,hb⟩:=two_box w op;rw[<- hW]at hz hx hb;have HW:=Hm hW;have BX:=Hm (show Bx w q ws false (U O op) (U O 0) (U O 0) (U Ou 0) (S none 0 0) W from⟨hx,hz,h.keep hb,Qu hb,hV.keep (hb.mono (Lv h.lt)),h.lt⟩);clear hf hW hz hx hb h hV;go_enter func31,ntmps31;go_wp2_with fail
 rw[<- HW.o];refine(HF.o _).mono ?_;rintro e w2 ⟨rfl,aa⟩;have B2:=Hm (BX.o.below aa);clear aa BX HW HF;clear hl;have c:=B2.o.x.1.2.1;have a:=B2.o.x.2 1;simp only[Kk]at c a;go_upto_region 5 with fail
 refine Qh (λUz0=>Bx w q ws false (U O op) (U O 64) (U O 0) (U Ou 0) (S none 0 0) Uz0) B2.o.set1 ?_;rintro U3 af;have l:=Hm af;clear af c a B2;have HM:=Hm (more_c q ws false U3 l.o.t);go_wp2_with fail
 refine HM.o.mono ?_;rintro e w3 ⟨rfl,rfl⟩;clear HM;cases ws with
 |nil =>
  go_upto_region 25 with fail
  obtain⟨⟨F,c,E,D,C⟩,B⟩:=l.o.x;obtain⟨⟨A,u,p,n,m⟩,b⟩:=l.o.z
  simp only[Kk]at F c E D C A u p n m
  have a:=B 1;have k:=b 0;have j:=b 1;have g:=b 2;have f:=b 3;have d:=b 4;clear B b
  go_wp2
  refine Qx (λUz0=>C5 Uz0 w.heap.size 0 (U O op) (U O 64) (U O 0) (U Ou 0) (S none 0 0)/\Tw Uz0 q [] false/\w.grownBy Uz0 (some q)) (l.o.fin _ _ _ _ _) ?_
  rintro Uz0 ⟨⟨⟨V,R,M,L,I⟩,-⟩,H,gU⟩
  simp only[Kk]at V R M L I
  have HU:=Hm (And.intro H gU);clear H gU F c E D C A u p n m a k j g f d
  exact bodyPost_ret (v:=inV ⟨op,64,0,0,[]⟩ none 0) (by simp[results,results31,go_sem,V,R,M,L,I]) rfl ⟨⟨op,64,0,0,[]⟩,none,0,_,_,rfl,rfl,JV _ _,HU.o.1,HU.o.2,λh ht=>by rw[arg_1];exact .inl ⟨rfl,rfl⟩,λ_=>⟨rfl,rfl⟩⟩
 |cons s r =>
  have HC:=Hm (vty_c q (s::r) false U3 l.o.t)
  go_wp2_with fail
  refine HC.o.mono ?_
  rintro e w3 ⟨rfl,X,Y⟩;have B3:=Hm (l.o.call Y X);have c:=B3.o.x.1.2.1;have a:=B3.o.x.2 1
  simp only[Kk]at c a
  clear X Y HC l
  go_upto_region 25 with fail
  refine Qh (λUz0=>Bx w q r ((false || (s::r).isEmpty) || tyN s==0) (U O op) (U O (tyN s)) (U O 0) (U Ou 0) (S none 0 0) Uz0) B3.o.set1 ?_
  rintro U4 ae;have BV:=Hm ae;clear ae c a B3;obtain⟨⟨F,c,E,D,C⟩,B⟩:=BV.o.x;obtain⟨⟨A,u,p,n,m⟩,b⟩:=BV.o.z
  simp only[Kk]at F c E D C A u p n m
  have a:=B 1;have k:=b 0;have j:=b 1;have g:=b 2;have f:=b 3;have d:=b 4;clear B b
  go_wp2
  refine Qx (λUz0=>C5 Uz0 w.heap.size 0 (U O op) (U O (tyN s)) (U O 0) (U Ou 0) (S none 0 0)/\Tw Uz0 q r ((false || (s::r).isEmpty) || tyN s==0)/\w.grownBy Uz0 (some q)) (BV.o.fin _ _ _ _ _) ?_
  rintro Uz0 ⟨⟨⟨V,R,M,L,I⟩,-⟩,H,gU⟩
  simp only[Kk]at V R M L I
  have HU:=Hm (And.intro H gU);clear H gU F c E D C A u p n m a k j g f d
  exact bodyPost_ret (v:=inV ⟨op,tyN s,0,0,[]⟩ none 0) (by simp[results,results31,go_sem,V,R,M,L,I]) rfl ⟨⟨op,tyN s,0,0,[]⟩,none,0,_,_,rfl,rfl,JV _ _,HU.o.1,HU.o.2,λh ht=>by rw[arg_1];exact .inr ⟨s,by rw[ht],by simpa using h,rfl⟩,λ⟨y,hy⟩=>by rw[arg_1]at hy;exact hy.elim (λh=>absurd h.1 (by simp)) (λ⟨t,h,hn,_⟩=>by cases h;exact⟨by simpa using hn,rfl⟩)⟩
end YtejkdbnngphgaaaGreatDoor.Yz
namespace YtejkdbnngphgaaaGreatDoor
open Go.RowKit Go.WideMaps Go.Maps
variable {w:J}{b n:Nat}{P:Program}{kt:TypeId}
def nm (k:Nat):ByteArray:=(Qe k).nm
def JT:Nat->List UInt8->Option Nat
 |0,_=>none
 |k+1,s=>if(nm k).data.toList=s/\s≠[]then some k else JT k s
def Good (D:DataW Unit)(k:Nat):Prop:=IsMap D/\∀s,has D (.string s)=(JT k s).isSome/\∀z,D.atKey (.string s) z=(match JT k s with|some j=>.lit (.int O (j:Int))|none=>z)
theorem Good.start:Good (.map []) 0:=⟨isMap_empty,λs=>⟨rfl,λz=>rfl⟩⟩
theorem Good.put {D:DataW Unit}{k:Nat}(h:Good D k)(c:(nm k).data.toList≠[]):Good (D.put (.string (nm k).data.toList) (.lit (.int O (k:Int)))) (k+1):=by
 refine⟨h.1.put _ _,λs=>?_⟩;by_cases e:(nm k).data.toList=s
 . (have b:JT (k+1) s=some k:=by simp only[JT,e];rw[if_pos ⟨trivial,e ▸ c⟩]);rw[b,e];exact⟨has_put_same h.1 (by simp[WideAt.IsKeyLit]) _,λz=>atKey_put_same h.1 (by simp[WideAt.IsKeyLit]) _ _⟩
 have b:JT (k+1) s=JT k s:=by simp only[JT];rw[if_neg (λx=>e x.1)]
 have a:(Lit.string s)≠Lit.string (nm k).data.toList:=λx=>e (by injection x with x;exact x.symm);rw[b];exact⟨(has_put_other a _).trans (h.2 s).1,λz=>(atKey_put_other a _ _).trans ((h.2 s).2 z)⟩
theorem Good.skip {D:DataW Unit}{k:Nat}(h:Good D k)(c:(nm k).data.toList=[]):Good D (k+1):=by
 refine⟨h.1,λs=>?_⟩;have d:JT (k+1) s=JT k s:=by simp only[JT];rw[if_neg];rintro⟨a,b⟩;exact b (a ▸ c)
 rw[d];exact h.2 s
theorem owns_below {R:Vu->Option (DataW Unit × List MemPlace)}{D:DataW Unit}{w':J}(h:w.ownsMap P kt R b n D)(c:b<w.heap.size)(d:Bw w.heap.size w w'):w'.ownsMap P kt R b n D:=by
 obtain⟨f,a,e,r⟩:=h;exact⟨f,a,(d.block b c).trans e,r⟩
theorem owns_more {R:Vu->Option (DataW Unit × List MemPlace)}{D:DataW Unit}(h:w.ownsMap P kt R b n D):w.ownsMap P kt R b (n+1) D:=by
 obtain⟨f,a,e,d,g,c⟩:=h;exact⟨f,a,e,d,by omega,c⟩
theorem owns_lt {R:Vu->Option (DataW Unit × List MemPlace)}{D:DataW Unit}(h:w.ownsMap P kt R b n D):b<w.heap.size:=by
 obtain⟨d,c,e,r⟩:=h;rcases Nat.lt_or_ge b w.heap.size with a|a
 . exact a
 rw[Array.getElem?_eq_none a]at e;cases e
theorem law9:Keyed Q 9:=string_keyed underlying9
theorem nm_size (k:Nat):(nm k).size<=100:=by
 by_cases h:k<192
 . have e:=of_decide_eq_true (rng 0 192 (λi=>decide ((tbl.getD i Z0).nm.size<=100)) (by decide +kernel) (k:Int) (by omega) (by omega));simpa only[nm,Qe,show(0:Int)<=k/\(k:Int)<192 by omega,and_self,if_true]using e
 simp only[nm,Qe,show ¬((0:Int)<=k/\(k:Int)<192) by omega,if_false];decide
abbrev mapT:TypeId:=84
theorem opNames_c (w:J):Ec Q 28 #[] w λe w'=>∃D:DataW Unit,e=Z (.map (some w.heap.size))/\w'.ownsMap Q 9 (plainElem Q 2) w.heap.size 192 D/\Good D 192/\Bw w.heap.size w w':=by
 have B:=@run_makeMap Q;go_enter func28,ntmps28;go_wp2
 go_loopw [5] (λi wr=>∃k:Nat,k<=192/\i=U O k/\∃D:DataW Unit,wr.ownsMap Q 9 (plainElem Q 2) w.heap.size k D/\Good D k/\Bw w.heap.size w wr)
  (λi _=>192-(intOf i).toNat)
 case atStart=>exact⟨0,Nat.zero_le _,rfl,.map [],World.ownsMap_made _ _ _ _,Good.start,bFz.alloc lRz _⟩
 obtain⟨k,I,rfl,D,b,a,g⟩:=hrel;by_cases C:k<192
 . (have E:(k:Int)<192:=by omega);have t:=owns_lt b;obtain⟨s,v⟩:∃s,s=(Qe (k:Int)).nm:=⟨_,rfl⟩;have hc:=Hm (iname_c (k:Int) wr);rw[<- v]at hc;(have A:s.size<=100:=by rw[v];exact nm_size k);have u:keyOf Q 9 (.string s)=some (.string s.data.toList):=keyOf_string_mk underlying9 (by unfold maxLen;omega);have n:nm k=s:=v.symm;clear v;by_cases q:s.data.toList=[]
   . (have F:s.toList.isEmpty=true:=by rw[ByteArray.toList_eq,q];rfl);have l:=a.skip (by rw[n];exact q);clear q;(go_wp2_with fail);refine hc.o.mono ?_;rintro e y ⟨rfl,p⟩;have c:=owns_below b t p;have d:Bw w.heap.size w y:=g.trans (p.mono (by omega));clear p g b a;go_wp2;(go_roundw);(case rel=>exact⟨k+1,by omega,by go_num,D,owns_more c,l,d⟩);case measure=>simp[intOf];omega
   (have F:s.toList.isEmpty=false:=by rw[ByteArray.toList_eq];simpa using q);have l:=a.put (by rw[n];exact q);rw[n]at l;clear q;(go_wp2_with fail);refine hc.o.mono ?_;rintro e y ⟨rfl,p⟩;have c:=owns_below b t p;have d:Bw w.heap.size w y:=g.trans (p.mono (by omega));clear p g b a
   go_wp2_with (first
    |(at_mapUpdate;refine wpList_mapUpdate_own _ rfl _ _ _ mapT rfl 9 2 law9 underlying84 _ w.heap.size k _ rfl c (by unfold maxLen;omega) _ _ _ rfl rfl u _ [] (plainElem_int underlying2 (WalkArith.wf_i64 (by omega))) ?_)
    | go_in)
   intro H m f;have r:=d.grown f d.size (λj hj=>by cases hj;exact lRz);clear c d f;go_wp2;(go_roundw);(case rel=>exact⟨k+1,by omega,by go_num,_,m,l,r⟩);case measure=>simp[intOf];omega
 have z:k=192:=by omega
 subst z;go_wp2;go_ret;exact⟨D,rfl,b,a,g⟩
end YtejkdbnngphgaaaGreatDoor
namespace YtejkdbnngphgaaaGreatDoor.Yz
open Go.RowKit Go.Sort
theorem QY (a:Nat)(c:UInt8)(r:Wd):Lib.decFrom a (c::r)=(Lib.digitVal c).bind λd=>Lib.decFrom (a*10+d) r:=by
 simp only[Lib.decFrom];cases Lib.digitVal c<;>rfl
theorem Ga:∀(l:Wd) (a:Nat) (b:UInt8),Lib.decFrom a (l++[b])=(Lib.decFrom a l).bind λn=>(Lib.digitVal b).map λd=>n*10+d
 |[],a,b=>by
  rw[List.nil_append,QY]
  cases Lib.digitVal b<;>simp[Lib.decFrom]
 |c::l,a,b=>by
  rw[List.cons_append,QY,QY]
  cases h:Lib.digitVal c with
  |none=>rfl
  |some d=>exact Ga l (a*10+d) b
theorem digit_of (d:Nat)(h:d<10):Lib.digitVal (UInt8.ofNat (48+d))=some d:=by
 have:∀i:Fin 10,Lib.digitVal (UInt8.ofNat (48+i.val))=some i.val:=by decide
 exact this ⟨d,h⟩
theorem digit_back {b:UInt8}{d:Nat}(h:Lib.digitVal b=some d):b=UInt8.ofNat (48+d)/\d<10:=by
 obtain⟨f,c,a⟩:=Lib.digitVal_eq h;refine⟨?_,by omega⟩;rw[show 48+d=b.toNat by omega];simp
theorem XE (u:Nat):Lib.decFrom 0 (Lib.decDigits u)=some u:=by
 induction u using Rf with
 |_ u ih =>
  rw[Lib.decDigits]
  split
  · rename_i h
    rw[QY,digit_of u h];simp[Lib.decFrom]
  . rename_i h
    rw[Ga,ih (u / 10) (by omega),digit_of (u%10) (by omega)]
    simp;omega
theorem decFrom_ge:∀(l:Wd) (a n:Nat),Lib.decFrom a l=some n->a<=n
 |[],a,n,h=>by simp[Lib.decFrom]at h;omega
 |c::l,a,n,h=>by
  rw[QY]at h
  cases hd:Lib.digitVal c with
  |none=>rw[hd]at h;cases h
  |some d =>
   rw[hd]at h
   have:=decFrom_ge l (a*10+d) n h
   omega
theorem dec_pos {c:UInt8}{r:Wd}{n:Nat}(h:Lib.decFrom 0 (c::r)=some n)(hc:c≠48):1<=n:=by
 rw[QY]at h;cases hd:Lib.digitVal c with
 |none=>rw[hd]at h;cases h
 |some d =>
  rw[hd]at h;have b:=decFrom_ge r (0*10+d) n h;obtain⟨e,a⟩:=digit_back hd
  have:d≠0:=by rintro rfl;exact hc e
  omega
theorem dec_canon (l:Wd):∀(n:Nat),Lib.decFrom 0 l=some n->l≠[]->(N l=1\/l.head?≠some 48)->Lib.decDigits n=l:=by
 induction h:N l using Rf generalizing l with
 |_ k ih =>
  subst h
  intro n a g hc
  obtain⟨f,b,rfl⟩:∃f b,l=f++[b]:=⟨l.dropLast,l.getLast g,(List.dropLast_concat_getLast g).symm⟩;rw[Ga]at a
  cases hd:Lib.digitVal b with
  |none=>rw[hd]at a;cases hp:Lib.decFrom 0 f<;>rw[hp]at a<;>cases a
  |some d =>
   obtain⟨p,o⟩:=digit_back hd
   cases hp:Lib.decFrom 0 f with
   |none=>rw[hp]at a;cases a
   |some m =>
    rw[hp,hd]at a
    simp at a
    cases f with
    |nil =>
     simp[Lib.decFrom]at hp
     subst hp;rw[<- a,Lib.decDigits,dif_pos (by omega),p];simp
    |cons c r =>
     have j:c≠48:=by
      rcases hc with hc|hc
      . simp at hc
      . intro e;subst e;simp at hc
     have q:=dec_pos hp j
     rw[<- a,Lib.decDigits,dif_neg (by omega),show(m*10+d) / 10=m by omega,show(m*10+d)%10=d by omega,<- p,
      ih (c::r).length (by simp) (c::r) rfl m hp (by simp) (.inr (by simpa using j))]
theorem XL (u:Nat):Lib.decDigits u≠[]:=by
 rw[Lib.decDigits];split<;>simp
theorem decD_head (u:Nat):(Lib.decDigits u).length=1\/(Lib.decDigits u).head?≠some 48:=by
 induction u using Rf with
 |_ u ih =>
  rw[Lib.decDigits]
  split
  · exact .inl rfl
  . rename_i h
    right
    have d:(Lib.decDigits (u / 10)++[UInt8.ofNat (48+u%10)]).head?=(Lib.decDigits (u / 10)).head?:=by
     cases hd:Lib.decDigits (u / 10)with
     |nil=>exact absurd hd (XL _)
     |cons a b=>rfl
    rw[d]
    rcases ih (u / 10) (by omega)with c|c
    . intro e
      cases hd:Lib.decDigits (u / 10)with
      |nil=>exact XL _ hd
      |cons a b =>
       rw[hd]at c e
       simp at c e
       subst c e
       have:=XE (u / 10)
       rw[hd]at this;have e0:Lib.decFrom 0 [48]=some 0:=by decide
       rw[e0]at this
       simp at this
       omega
    . exact c
theorem parseM_ok (mx:Nat)(hx:mx<=18446744073709551615):∀(l:Wd) (a n:Nat),Lib.decFrom a l=some n->n<=mx->Lib.parseUintM mx a l=.ok n
 |[],a,n,h,hn=>by simp[Lib.decFrom]at h;subst h;rfl
 |c::l,a,n,h,hn=>by
  rw[QY]at h
  cases hd:Lib.digitVal c with
  |none=>rw[hd]at h;cases h
  |some d =>
   rw[hd]at h;have k:=decFrom_ge l (a*10+d) n h;have j:=parseM_ok mx hx l (a*10+d) n h hn;obtain⟨g,f,b⟩:=Lib.digitVal_eq hd;rw[Lib.parseUintM,if_pos ⟨g,f⟩,if_neg (by omega),<- b,if_neg (by omega)]
   exact j
theorem okP_itoa (v:Int)(m:-9223372036854775808<=v)(h1:v<=9223372036854775807):okP (Lib.itoa v)=some v:=by
 have f:Lib.parseIntB 64 (Lib.itoa v)=.ok v:=by
  by_cases g:v<0
  . (have a:Lib.parseUintB 64 (Lib.decDigits v.natAbs)=.ok v.natAbs:=by unfold Lib.parseUintB;rw[if_neg (XL _)];exact parseM_ok _ (by decide) _ _ _ (XE _) (by omega));unfold Lib.itoa;rw[if_pos g];unfold Lib.parseIntB;simp only[show(45:UInt8).toNat=45 from rfl,or_true,if_true,a];rw[if_neg (by simp),if_neg (by simp;omega)];(congr 1);omega
  have a:Lib.parseUintB 64 (Lib.decDigits v.toNat)=.ok v.toNat:=by unfold Lib.parseUintB;rw[if_neg (XL _)];exact parseM_ok _ (by decide) _ _ _ (XE _) (by omega)
  unfold Lib.itoa;rw[if_neg g];have b:=XE v.toNat;cases he:Lib.decDigits v.toNat with
  |nil=>exact absurd he (XL _)
  |cons c r =>
   rw[he]at a b;rw[QY]at b
   cases hc:Lib.digitVal c with
   |none=>rw[hc]at b;cases b
   |some d =>
    obtain⟨l,k,j⟩:=Lib.digitVal_eq hc;unfold Lib.parseIntB
    simp only[show ¬c.toNat=43 by omega,show ¬c.toNat=45 by omega,or_self,if_false]
    rw[a]
    show(if ¬False/\2 ^ (64-1)<=v.toNat then Lib.NumEnd.range else if False/\2 ^ (64-1)<v.toNat then Lib.NumEnd.range else Lib.NumEnd.ok (v.toNat:Int))=_
    rw[if_neg (by simp;omega),if_neg (by simp)]
    congr 1
    omega
 simp[okP,f]
def XU (most:Nat)(sg:Bool)(s:Wd):Option Int :=
 let neg:=sg&&(decide (1<N s)&&(s.head?==some 45))
 let d:=if neg then s.tail else s
 if(N d)<1\/most<N d\/(d.head?=some 48/\(1<N d\/neg=true))then none
 else match Lib.decFrom 0 d with
  |none=>none
  |some u=>if neg then(if u<=9223372036854775808 then some (-(u:Int))else none)else (if u<=9223372036854775807 then some (u:Int)else none)
theorem numM_some {most:Nat}{sg:Bool}{s:Wd}{v:Int}(h:XU most sg s=some v):Lib.itoa v=s/\-9223372036854775808<=v/\v<=9223372036854775807/\(sg=false->0<=v):=by
 unfold XU at h;simp only at h;cases hneg:(sg&&(decide (1<N s)&&(s.head?==some 45)))with
 |true =>
  simp only[hneg,if_true]at h
  split at h
  · cases h
  . rename_i hc
    cases hu:Lib.decFrom 0 s.tail with
    |none=>rw[hu]at h;cases h
    |some u =>
     rw[hu]at h
     by_cases b:u<=9223372036854775808
     . simp only[b,if_true,Option.some.injEq]at h
       subst h
       simp at hneg
       obtain⟨rfl,j,f⟩:=hneg
       . cases s with
         |nil=>simp at f
         |cons c r =>
          simp at f;subst f
          simp only[Ij]at hu hc
          have a:r≠[]:=by rintro rfl;simp at j
          have e:=dec_canon r u hu a (by
           by_cases d:r.head?=some 48
           . exact absurd (.inr (.inr ⟨d,.inr trivial⟩)) hc
           . exact .inr d)
          have g:1<=u:=by
           cases r with
           |nil=>exact absurd rfl a
           |cons c r=>exact dec_pos hu (by rintro rfl;exact hc (.inr (.inr ⟨rfl,.inr trivial⟩)))
          refine⟨?_,by omega,by omega,λh=>by cases h⟩
          rw[Lib.itoa,if_pos (by omega),show(-(u:Int)).natAbs=u by omega,e]
     . simp[b]at h
 |false =>
  simp only[hneg,Bool.false_eq_true,if_false]at h
  split at h
  · cases h
  . rename_i hc
    cases hu:Lib.decFrom 0 s with
    |none=>rw[hu]at h;cases h
    |some u =>
     rw[hu]at h
     by_cases b:u<=9223372036854775807
     . simp only[b,if_true,Option.some.injEq]at h
       subst h;have a:s≠[]:=by rintro rfl;simp at hc
       have e:=dec_canon s u hu a (by
        by_cases d:s.head?=some 48
        . left
          have k:=List.length_pos_iff.2 a
          simp[d]at hc
          omega
        . exact .inr d)
       refine⟨?_,by omega,by omega,λ_=>by omega⟩
       rw[Lib.itoa,if_neg (by omega),show((u:Int)).toNat=u by omega,e]
     . simp[b]at h
theorem nDigits_le:∀(k u:Nat),u<10 ^ (k+1)->Lib.nDigits u<=k+1
 |0,u,h=>by rw[Lib.nDigits_small (by simpa using h)];omega
 |k+1,u,h=>by
  by_cases a:u<10
  . rw[Lib.nDigits_small a];omega
  . rw[Lib.nDigits_big a]
    have:=nDigits_le k (u / 10) (by rw[Nat.pow_succ]at h;omega)
    omega
theorem decD_head_digit (u:Nat):(Lib.decDigits u).head?≠some 45:=by
 have a:=XE u;cases he:Lib.decDigits u with
 |nil=>simp
 |cons c r =>
  rw[he,QY]at a
  simp
  rintro rfl
  have:Lib.digitVal 45=none:=by decide
  rw[this]at a;cases a
theorem numM_itoa {most:Nat}{sg:Bool}{v:Int}(t:-9223372036854775808<=v)(h1:v<=9223372036854775807)(p:sg=false->0<=v)(r:v.natAbs<10 ^ most)(q:1<=most):XU most sg (Lib.itoa v)=some v:=by
 have n:(Lib.decDigits v.natAbs).length<=most:=by rw[Lib.decDigits_length];obtain⟨m,rfl⟩:∃m,most=m+1:=⟨most-1,by omega⟩;exact nDigits_le m _ r
 by_cases l:v<0
 . (have j:sg=true:=by cases sg with|true=>rfl|false=>have:=p rfl;omega);subst j;(have e:Lib.itoa v=45::Lib.decDigits v.natAbs:=by rw[Lib.itoa,if_pos l]);rw[e];unfold XU;have d:=XL v.natAbs;have o:0<(Lib.decDigits v.natAbs).length:=List.length_pos_iff.2 d;have g:=XE v.natAbs;have s:(Lib.decDigits v.natAbs).head?≠some 48:=by
    rcases decD_head v.natAbs with f|f
    . intro k;cases he:Lib.decDigits v.natAbs with
      |nil=>exact d he
      |cons a b =>
       rw[he]at f k g
       simp at f k
       subst f k;have e0:Lib.decFrom 0 [48]=some 0:=by decide
       rw[e0]at g
       simp at g;omega
    exact f
   (have c:(true&&(decide (1<(45::Lib.decDigits v.natAbs).length)&&((45::Lib.decDigits v.natAbs).head?==some 45)))=true:=by simp;exact o);simp only[c,if_true,Ij,g]
   rw[if_neg (by
    rintro(h|h|h);· omega
    . omega
    . exact s h.1),if_pos (by omega)]
   congr 1;omega
 have e:Lib.itoa v=Lib.decDigits v.natAbs:=by rw[Lib.itoa,if_neg l,show v.toNat=v.natAbs by omega]
 rw[e];unfold XU;have d:=XL v.natAbs;have o:0<(Lib.decDigits v.natAbs).length:=List.length_pos_iff.2 d;have g:=XE v.natAbs;have c:(sg&&(decide (1<(Lib.decDigits v.natAbs).length)&&((Lib.decDigits v.natAbs).head?==some 45)))=false:=by have:=decD_head_digit v.natAbs;simp[this]
 simp only[c,Bool.false_eq_true,if_false,g]
 rw[if_neg (by
  rintro(h|h|⟨h,h2|h2⟩)
  . omega
  . omega
  . rcases decD_head v.natAbs with f|f
    . omega
    . exact f h
  . cases h2),if_pos (by omega)]
 congr 1;omega
theorem pup8_c (q:Nat)(l:Wd)(w:J)(hl:N l<=1099511627776)(m:Vs q w):Ec Q 174 #[Xs (Sz0 l),U O 16,U O 8] w λe j=>∃(x:Int) (b:Vu),e=Z (.tuple #[U Ou x,b])/\Bw w.heap.size w j/\((∃n:Nat,puW 255 l=some n/\x=n/\b=Nf)\/(puW 255 l=none/\∃t p,b=.iface t p)):=by
 obtain⟨s,v,z⟩:=m.e1;obtain⟨r,u,y⟩:=m.e2;have b1:(1:Nat)<w.heap.size:=Kh w _ v;have C:(2:Nat)<w.heap.size:=Kh w _ u;have H:(Sz0 l).size=N l:=QJ l;have D:=Hm (λ(V:J) (a:Bw w.heap.size w V)=>strconv_toError_syntax ⟨#[80,97,114,115,101,85,105,110,116]⟩ (Sz0 l) 16 8 s V (by omega) ((a.cell (p:=⟨1,0,none⟩) b1).trans v) z);have E:=Hm (λ(V:J) (a:Bw w.heap.size w V)=>strconv_toError_range ⟨#[80,97,114,115,101,85,105,110,116]⟩ (Sz0 l) 16 8 r V (by omega) ((a.cell (p:=⟨2,0,none⟩) C).trans u) y);have K:Hid (Ec Q 214 #[Xs (Sz0 l),U O 16,U O 8] w λe j=>∃(x:Int) (b:Vu),e=Z (.tuple #[U Ou x,b])/\Bw w.heap.size w j/\((∃n:Nat,puW 255 l=some n/\x=n/\b=Nf)\/(puW 255 l=none/\(b=.iface 268 (U O 2)\/b=.iface 268 (U O 1))))):=by
  show Ec _ _ _ _ _;by_cases c:l=[]
  . subst c;refine(internal_strconv_ParseUint_empty 16 8 w).mono ?_;rintro e j ⟨rfl,rfl⟩;exact⟨0,_,rfl,bFz,.inr ⟨rfl,.inl rfl⟩⟩
  refine(pui8_c l w c hl).mono ?_;rintro e j ⟨x,b,rfl,a,hx⟩;refine⟨x,b,rfl,a,?_⟩;rw[show puW 255 l=pu 255 0 l by simp[puW,c]];exact hx
 clear m v u z y;go_enter func174,ntmps174;go_wp2_with fail
 refine K.o.mono ?_;rintro e F ⟨x,b,rfl,a,hx⟩;have g:=Hm a;clear a K;rcases hx with ⟨n,d,rfl,rfl⟩|⟨d,rfl|rfl⟩
 . have k:=Hm d;clear d;go_wp2;(go_ret2);exact⟨_,_,rfl,g.o,.inl ⟨n,k.o,rfl,rfl⟩⟩
 . have k:=Hm d;clear d;(go_wp2_with fail);refine(D.o _ g.o).mono ?_;rintro e A ⟨B,rfl,-,-,a⟩;have f:=Hm (g.o.trans (a.mono g.o.size));clear a;go_wp2;(go_ret2);exact⟨_,_,rfl,f.o,.inr ⟨k.o,_,_,rfl⟩⟩
 have k:=Hm d;clear d;go_wp2_with fail
 refine(E.o _ g.o).mono ?_;rintro e A ⟨B,rfl,-,-,a⟩;have f:=Hm (g.o.trans (a.mono g.o.size));clear a;go_wp2;go_ret2
 exact⟨_,_,rfl,f.o,.inr ⟨k.o,_,_,rfl⟩⟩
