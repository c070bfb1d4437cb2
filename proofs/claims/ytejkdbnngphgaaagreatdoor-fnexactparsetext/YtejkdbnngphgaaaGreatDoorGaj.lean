import Derived.Lib.ConvBytes
import Derived.Lib.AtoiErrMem
import Derived.Maps.AppendAt
import Derived.Lib.Bytealg
import Derived.Lib.IndexLaws
import Derived.Lib.AppendIntMem
import Derived.Test.YtejkdbnngphgaaaGreatDoorGad
set_option linter.all false
set_option maxHeartbeats 400000000
set_option maxRecDepth 100000
namespace Go.Proofs
open Value renaming int->U,bool->G,string->Xs,nilIface->Nf
open IntKind renaming i64->O,u64->Ou
open Ending renaming returned->Z
open Go renaming World->J,Calls->Ec,Value->Vu
open Go.RowKit renaming Below->Bw
open Tryz renaming prog->Q
open Tryz
open IntKind renaming wrap_u64->Kn,wrap_u8->Td
open List renaming drop_eq_nil_of_le->Ep,length->N
namespace YtejkdbnngphgaaaGreatDoor.Yz
open Go.RowKit Go.Sort
def dgI (c:UInt8):Option Nat:=if 48<=c.toNat/\c.toNat<=57 then some (c.toNat-48)else if 97<=bits .or .u8 (c.toNat:Int) 32/\bits .or .u8 (c.toNat:Int) 32<=102 then some ((bits .or .u8 (c.toNat:Int) 32).toNat-87)else none
def pu (mx:Nat):Nat->Wd->Option Nat
 |n,[]=>some n
 |n,c::r=>match dgI c with
  |none=>none
  |some d=>if 1152921504606846976<=n then none else if mx<n*16+d then none else pu mx (n*16+d) r
def PuP (mx:Nat)(l:Wd)(w:J)(e:Ending)(w':J):Prop:=∃(x:Int) (ev:Vu),e=Z (.tuple #[U Ou x,ev])/\Bw w.heap.size w w'/\((∃n:Nat,pu mx 0 l=some n/\x=n/\ev=Nf)\/(pu mx 0 l=none/\(ev=.iface 268 (U O 2)\/ev=.iface 268 (U O 1))))
theorem puiX:(∀(l:Wd) (w:J) (aa:l≠[]) (hl:N l<=1099511627776),Ec Q 214 #[Xs (Sz0 l),U O 16,U O 8] w λe F=>PuP 255 l w e F)/\(∀(l:Wd) (w:J) (aa:l≠[]) (hl:N l<=1099511627776),Ec Q 214 #[Xs (Sz0 l),U O 16,U O 32] w λe F=>PuP 4294967295 l w e F):=by
 refine⟨?c0,?c1⟩;case' c0=>have f:=0
 case' c1=>have s:=0
 all_goals
  intro l w aa hl
  have a9:(Sz0 l).toList.isEmpty=false:=by
   rw[ByteArray.toList_eq,QB];cases l with
   |nil=>exact absurd rfl aa
   |cons x r=>rfl
  have a3:=Lib.run_convert_string_bytes (P:=Q) w 9 22 5 (Sz0 l) (u:=.string) underlying9 underlying22 underlying5
  have hB:∀j,j<N l->(Lib.bytesWorld w 5 (Sz0 l)).cell? ⟨w.heap.size,j,none⟩=some (U .u8 (l.getD j 0).toNat):=λj hj=>by
   have:=Lib.bytesWorld_cell w 5 (Sz0 l) j (by rw[QJ];exact hj)
   rwa [QB]at this
  have ad:=Lib.bytesWorld_below w 5 (Sz0 l);have hz:(Sz0 l).size=N l:=QJ l;obtain⟨W1,av⟩:∃W1,W1=Lib.bytesWorld w 5 (Sz0 l):=⟨_,rfl⟩;rw[<- av]at a3 hB ad;clear av;have t:=Hm ad;have af:=Hm hB;clear ad hB
  first
  | (
   replace f:=f
   have az:IntKind.u64.wrap (IntKind.u64.wrap 256-1)=255:=by
    simp only[Kn];decide)
  | (
   replace s:=s
   have az:IntKind.u64.wrap (IntKind.u64.wrap 4294967296-1)=4294967295:=by
    simp only[Kn];decide)
  go_enter func214,ntmps214
  go_wp2
  first|(replace f:=f;go_loop [12,13,101] (λvu vn vi=>∃(k b:Nat) (a:Int),vu=G false/\vn=U Ou a/\vi=U O k/\k<=N l/\Hid (a=(b:Int)/\b<=255/\pu 255 0 l=pu 255 b (l.drop k))) (λ_ _ vi=>N l-(intOf vi).toNat))|(go_loop [12,13,101] (λvu vn vi=>∃(k b:Nat) (a:Int),vu=G false/\vn=U Ou a/\vi=U O k/\k<=N l/\Hid (a=(b:Int)/\b<=4294967295/\pu 4294967295 0 l=pu 4294967295 b (l.drop k))) (λ_ _ vi=>N l-(intOf vi).toNat))
  case atStart=>exact⟨0,0,0,rfl,rfl,rfl,by omega,rfl,by omega,rfl⟩
  case round =>
   obtain⟨k,b,a,rfl,rfl,rfl,hk,hh⟩:=hrel;obtain⟨ha,y,g⟩:=hh.o;clear hh;have a0:0<=a:=by omega
   first|(replace f:=f;have a1:a<=255:=by omega)|(have a1:a<=4294967295:=by omega)
   by_cases H:k<N l
   . have bd:(k:Int)<(N l:Int):=by omega
     have hc:=af.o k H;have M:l.drop k=l[k]'H::l.drop (k+1):=List.drop_eq_getElem_cons H;have X:l.getD k 0=l[k]'H:=by simp[List.getD,List.getElem?_eq_getElem H]
     rw[M]at g;rw[X]at hc;generalize l[k]'H=c at hc g;have R:c.toNat<256:=c.toNat_lt;clear af M X;obtain⟨v,hv⟩:∃v,v=bits .or .u8 (c.toNat:Int) 32:=⟨_,rfl⟩;have v0:0<=v:=by rw[hv];exact bits_lo_u8 _ _ _
     have v1:v<=255:=by rw[hv];exact bits_hi_u8 _ _ _
     have D:=Hm (λw=>internal_strconv_lower (c.toNat:Int) w);rw[<- hv]at D
     by_cases A:48<=c.toNat/\c.toNat<=57
     . obtain⟨ac,aq⟩:=A;obtain⟨d,hd⟩:∃d,d=c.toNat-48:=⟨_,rfl⟩;have p:dgI c=some d:=by rw[hd];simp[dgI,ac,aq]
       have ao:c.toNat=d+48:=by omega
       have bf:d<=9:=by omega
       rw[ao]at hc;have au:((d+48:Nat):Int)=(d:Int)+48:=by omega
       rw[au]at hc;have g1:((d:Int)+48==95)=false:=by simp;omega
       have g2:(48:Int)<=(d:Int)+48:=by omega
       have g3:(d:Int)+48<=57:=by omega
       have g4:IntKind.u8.wrap ((d:Int)+48-48)=(d:Int):=by rw[Td];omega
       have bj:IntKind.u8.wrap (d:Int)=(d:Int):=by rw[Td];omega
       have g5:¬(16:Int)<=(d:Int):=by omega
       have g6:IntKind.u64.wrap (d:Int)=(d:Int):=by rw[Kn];omega
       clear au ao hd ac aq R hv v0 v1 D;have m:¬1152921504606846976<=b:=by omega
       first|(replace f:=f;by_cases n:255<b*16+d)|(by_cases n:4294967295<b*16+d)
       . first|(replace f:=f;have q:pu 255 b (c::l.drop (k+1))=none:=by simp[pu,p,m,n])|(have q:pu 4294967295 b (c::l.drop (k+1))=none:=by simp[pu,p,m,n])
         rw[q]at g
         first|(replace f:=f;have z:255<a*16+(d:Int):=by omega)|(have z:4294967295<a*16+(d:Int):=by omega)
         have B:¬1152921504606846976<=a:=by omega
         have w1:IntKind.u64.wrap (a*16)=a*16:=by rw[Kn];omega
         have w2:IntKind.u64.wrap (a*16+(d:Int))=a*16+(d:Int):=by rw[Kn];omega
         have w3:¬a*16+(d:Int)<a*16:=by omega
         have E:=Hm g;clear y q ha g m n p
         go_wp2
         go_ret2
         exact⟨_,_,rfl,t.o,.inr ⟨E.o,.inr rfl⟩⟩
       . first|(replace f:=f;have q:pu 255 b (c::l.drop (k+1))=pu 255 (b*16+d) (l.drop (k+1)):=by simp[pu,p,m,n])|(have q:pu 4294967295 b (c::l.drop (k+1))=pu 4294967295 (b*16+d) (l.drop (k+1)):=by simp[pu,p,m,n])
         first|(replace f:=f;have Y:Hid (a*16+(d:Int)=((b*16+d:Nat):Int)/\b*16+d<=255/\pu 255 0 l=pu 255 (b*16+d) (l.drop (k+1))):=⟨by omega,by omega,by rw[g,q]⟩)|(have Y:Hid (a*16+(d:Int)=((b*16+d:Nat):Int)/\b*16+d<=4294967295/\pu 4294967295 0 l=pu 4294967295 (b*16+d) (l.drop (k+1))):=⟨by omega,by omega,by rw[g,q]⟩)
         first|(replace f:=f;have z:¬255<a*16+(d:Int):=by omega)|(have z:¬4294967295<a*16+(d:Int):=by omega)
         have B:¬1152921504606846976<=a:=by omega
         have w1:IntKind.u64.wrap (a*16)=a*16:=by rw[Kn];omega
         have w2:IntKind.u64.wrap (a*16+(d:Int))=a*16+(d:Int):=by rw[Kn];omega
         have w3:¬a*16+(d:Int)<a*16:=by omega
         clear y q ha g m n p
         go_wp2
         refine⟨⟨k+1,b*16+d,a*16+(d:Int),rfl,(by first|rfl|(congr 1;omega)),(by first|rfl|(congr 1;omega)),by omega,Y⟩,by simp[intOf];omega⟩
     . by_cases L:97<=v/\v<=102
       . obtain⟨ab,ak⟩:=L;obtain⟨d,hd⟩:∃d:Nat,v=(d:Int)+87:=⟨(v-87).toNat,by omega⟩
         have p:dgI c=some d:=by
          simp only[dgI]
          rw[if_neg A,<- hv,if_pos ⟨ab,ak⟩,hd]
          congr 1
         have V:c.toNat≠95:=by
          intro e
          rw[e]at hv
          have:bits .or .u8 ((95:Nat):Int) 32=127:=by decide
          omega
         have g0:((c.toNat:Int)==95)=false:=by simp;omega
         have C:48<=(c.toNat:Int)->¬(c.toNat:Int)<=57:=by omega
         generalize(c.toNat:Int)=ci at *;have g1:(97:Int)<=v:=ab;have g2:v<=122:=by omega
         have g3:IntKind.u8.wrap (v-97)=v-97:=by rw[Td];omega
         have g4:IntKind.u8.wrap (v-97+10)=(d:Int):=by rw[Td];omega
         have g5:¬(16:Int)<=(d:Int):=by omega
         have g6:IntKind.u64.wrap (d:Int)=(d:Int):=by rw[Kn];omega
         have ba:(d:Int)<=15:=by omega
         have ac:(0:Int)<=(d:Int):=by omega
         clear ab ak R hv v0 v1 A V hd
         by_cases ae:(48:Int)<=ci
         . have a5:=C ae;clear C;have m:¬1152921504606846976<=b:=by omega
           first|(replace f:=f;by_cases n:255<b*16+d)|(by_cases n:4294967295<b*16+d)
           . first|(replace f:=f;have q:pu 255 b (c::l.drop (k+1))=none:=by simp[pu,p,m,n])|(have q:pu 4294967295 b (c::l.drop (k+1))=none:=by simp[pu,p,m,n])
             rw[q]at g
             first|(replace f:=f;have z:255<a*16+(d:Int):=by omega)|(have z:4294967295<a*16+(d:Int):=by omega)
             have B:¬1152921504606846976<=a:=by omega
             have w1:IntKind.u64.wrap (a*16)=a*16:=by rw[Kn];omega
             have w2:IntKind.u64.wrap (a*16+(d:Int))=a*16+(d:Int):=by rw[Kn];omega
             have w3:¬a*16+(d:Int)<a*16:=by omega
             have E:=Hm g;clear y q ha g m n p
             go_wp2_with (go_at_call 234;refine(D.o _).mono ?_;rintro e F ⟨rfl,rfl⟩)
             go_ret2
             exact⟨_,_,rfl,t.o,.inr ⟨E.o,.inr rfl⟩⟩
           . first|(replace f:=f;have q:pu 255 b (c::l.drop (k+1))=pu 255 (b*16+d) (l.drop (k+1)):=by simp[pu,p,m,n])|(have q:pu 4294967295 b (c::l.drop (k+1))=pu 4294967295 (b*16+d) (l.drop (k+1)):=by simp[pu,p,m,n])
             first|(replace f:=f;have Y:Hid (a*16+(d:Int)=((b*16+d:Nat):Int)/\b*16+d<=255/\pu 255 0 l=pu 255 (b*16+d) (l.drop (k+1))):=⟨by omega,by omega,by rw[g,q]⟩)|(have Y:Hid (a*16+(d:Int)=((b*16+d:Nat):Int)/\b*16+d<=4294967295/\pu 4294967295 0 l=pu 4294967295 (b*16+d) (l.drop (k+1))):=⟨by omega,by omega,by rw[g,q]⟩)
             first|(replace f:=f;have z:¬255<a*16+(d:Int):=by omega)|(have z:¬4294967295<a*16+(d:Int):=by omega)
             have B:¬1152921504606846976<=a:=by omega
             have w1:IntKind.u64.wrap (a*16)=a*16:=by rw[Kn];omega
             have w2:IntKind.u64.wrap (a*16+(d:Int))=a*16+(d:Int):=by rw[Kn];omega
             have w3:¬a*16+(d:Int)<a*16:=by omega
             clear y q ha g m n p
             go_wp2_with (go_at_call 234;refine(D.o _).mono ?_;rintro e F ⟨rfl,rfl⟩)
             refine⟨⟨k+1,b*16+d,a*16+(d:Int),rfl,(by first|rfl|(congr 1;omega)),(by first|rfl|(congr 1;omega)),by omega,Y⟩,by simp[intOf];omega⟩
         . clear C;have m:¬1152921504606846976<=b:=by omega
           first|(replace f:=f;by_cases n:255<b*16+d)|(by_cases n:4294967295<b*16+d)
           . first|(replace f:=f;have q:pu 255 b (c::l.drop (k+1))=none:=by simp[pu,p,m,n])|(have q:pu 4294967295 b (c::l.drop (k+1))=none:=by simp[pu,p,m,n])
             rw[q]at g
             first|(replace f:=f;have z:255<a*16+(d:Int):=by omega)|(have z:4294967295<a*16+(d:Int):=by omega)
             have B:¬1152921504606846976<=a:=by omega
             have w1:IntKind.u64.wrap (a*16)=a*16:=by rw[Kn];omega
             have w2:IntKind.u64.wrap (a*16+(d:Int))=a*16+(d:Int):=by rw[Kn];omega
             have w3:¬a*16+(d:Int)<a*16:=by omega
             have E:=Hm g;clear y q ha g m n p
             go_wp2_with (go_at_call 234;refine(D.o _).mono ?_;rintro e F ⟨rfl,rfl⟩)
             go_ret2
             exact⟨_,_,rfl,t.o,.inr ⟨E.o,.inr rfl⟩⟩
           . first|(replace f:=f;have q:pu 255 b (c::l.drop (k+1))=pu 255 (b*16+d) (l.drop (k+1)):=by simp[pu,p,m,n])|(have q:pu 4294967295 b (c::l.drop (k+1))=pu 4294967295 (b*16+d) (l.drop (k+1)):=by simp[pu,p,m,n])
             first|(replace f:=f;have Y:Hid (a*16+(d:Int)=((b*16+d:Nat):Int)/\b*16+d<=255/\pu 255 0 l=pu 255 (b*16+d) (l.drop (k+1))):=⟨by omega,by omega,by rw[g,q]⟩)|(have Y:Hid (a*16+(d:Int)=((b*16+d:Nat):Int)/\b*16+d<=4294967295/\pu 4294967295 0 l=pu 4294967295 (b*16+d) (l.drop (k+1))):=⟨by omega,by omega,by rw[g,q]⟩)
             first|(replace f:=f;have z:¬255<a*16+(d:Int):=by omega)|(have z:¬4294967295<a*16+(d:Int):=by omega)
             have B:¬1152921504606846976<=a:=by omega
             have w1:IntKind.u64.wrap (a*16)=a*16:=by rw[Kn];omega
             have w2:IntKind.u64.wrap (a*16+(d:Int))=a*16+(d:Int):=by rw[Kn];omega
             have w3:¬a*16+(d:Int)<a*16:=by omega
             clear y q ha g m n p
             go_wp2_with (go_at_call 234;refine(D.o _).mono ?_;rintro e F ⟨rfl,rfl⟩)
             refine⟨⟨k+1,b*16+d,a*16+(d:Int),rfl,(by first|rfl|(congr 1;omega)),(by first|rfl|(congr 1;omega)),by omega,Y⟩,by simp[intOf];omega⟩
       . first
         | (
          replace f:=f
          have q:pu 255 b (c::l.drop (k+1))=none:=by
           have:dgI c=none:=by
            simp only[dgI]
            rw[if_neg A,<- hv,if_neg L]
           simp[pu,this])
         | (
          replace s:=s
          have q:pu 4294967295 b (c::l.drop (k+1))=none:=by
           have:dgI c=none:=by
            simp only[dgI]
            rw[if_neg A,<- hv,if_neg L]
           simp[pu,this])
         rw[q]at g;have E:=Hm g;have C:48<=(c.toNat:Int)->¬(c.toNat:Int)<=57:=by omega
         clear y q ha g hv A;have three:¬(97:Int)<=v\/((97:Int)<=v/\¬v<=122)\/((97:Int)<=v/\v<=122/\(16:Int)<=v-97+10):=by omega
         by_cases V:c.toNat=95
         . rw[V]at hc D;have aw:((95:Nat):Int)=95:=rfl;rw[aw]at hc D;clear C V aw
           rcases three with s|⟨s,I⟩|⟨s,I,aj⟩
           . go_wp2_with (go_at_call 234;refine(D.o _).mono ?_;rintro e F ⟨rfl,rfl⟩)
             go_ret2
             exact⟨_,_,rfl,t.o,.inr ⟨E.o,.inl rfl⟩⟩
           . go_wp2_with (go_at_call 234;refine(D.o _).mono ?_;rintro e F ⟨rfl,rfl⟩)
             go_ret2
             exact⟨_,_,rfl,t.o,.inr ⟨E.o,.inl rfl⟩⟩
           . have g3:IntKind.u8.wrap (v-97)=v-97:=by rw[Td];omega
             have g4:IntKind.u8.wrap (v-97+10)=v-97+10:=by rw[Td];omega
             go_wp2_with (go_at_call 234;refine(D.o _).mono ?_;rintro e F ⟨rfl,rfl⟩)
             go_ret2
             exact⟨_,_,rfl,t.o,.inr ⟨E.o,.inl rfl⟩⟩
         . have g0:((c.toNat:Int)==95)=false:=by simp;omega
           generalize(c.toNat:Int)=ci at *;clear V
           by_cases ae:(48:Int)<=ci
           . have a5:=C ae;clear C
             rcases three with s|⟨s,I⟩|⟨s,I,aj⟩
             . go_wp2_with (go_at_call 234;refine(D.o _).mono ?_;rintro e F ⟨rfl,rfl⟩)
               go_ret2
               exact⟨_,_,rfl,t.o,.inr ⟨E.o,.inl rfl⟩⟩
             . go_wp2_with (go_at_call 234;refine(D.o _).mono ?_;rintro e F ⟨rfl,rfl⟩)
               go_ret2
               exact⟨_,_,rfl,t.o,.inr ⟨E.o,.inl rfl⟩⟩
             . have g3:IntKind.u8.wrap (v-97)=v-97:=by rw[Td];omega
               have g4:IntKind.u8.wrap (v-97+10)=v-97+10:=by rw[Td];omega
               go_wp2_with (go_at_call 234;refine(D.o _).mono ?_;rintro e F ⟨rfl,rfl⟩)
               go_ret2
               exact⟨_,_,rfl,t.o,.inr ⟨E.o,.inl rfl⟩⟩
           . clear C
             rcases three with s|⟨s,I⟩|⟨s,I,aj⟩
             . go_wp2_with (go_at_call 234;refine(D.o _).mono ?_;rintro e F ⟨rfl,rfl⟩)
               go_ret2
               exact⟨_,_,rfl,t.o,.inr ⟨E.o,.inl rfl⟩⟩
             . go_wp2_with (go_at_call 234;refine(D.o _).mono ?_;rintro e F ⟨rfl,rfl⟩)
               go_ret2
               exact⟨_,_,rfl,t.o,.inr ⟨E.o,.inl rfl⟩⟩
             . have g3:IntKind.u8.wrap (v-97)=v-97:=by rw[Td];omega
               have g4:IntKind.u8.wrap (v-97+10)=v-97+10:=by rw[Td];omega
               go_wp2_with (go_at_call 234;refine(D.o _).mono ?_;rintro e F ⟨rfl,rfl⟩)
               go_ret2
               exact⟨_,_,rfl,t.o,.inr ⟨E.o,.inl rfl⟩⟩
   . have a2:k=N l:=by omega
     subst a2
     first|(replace f:=f;have q:pu 255 b (l.drop (N l))=some b:=by rw[Ep lRz];rfl)|(have q:pu 4294967295 b (l.drop (N l))=some b:=by rw[Ep lRz];rfl)
     rw[q]at g;subst ha;have E:=Hm g;clear y q a0 a1 g af
     go_wp2
     go_ret2
     exact⟨_,_,rfl,t.o,.inl ⟨b,E.o,rfl,rfl⟩⟩
def pui8_c:=puiX.1
def pui32_c:=puiX.2
