import Derived.Lib.AtoiErr
import Derived.Test.YtejkdbnngphgaaaGreatDoorGak
set_option linter.all false
set_option maxHeartbeats 400000000
set_option maxRecDepth 100000
namespace Go.Proofs
open Value renaming int->U,bool->G,string->Xs
open IntKind renaming i64->O,u64->Ou
open Ending renaming returned->Z
open Go renaming World->J,Calls->Ec
open Tryz renaming prog->Q
open Tryz
open List renaming getD->Ty,drop_eq_getElem_cons->Tx,getElem?_eq_getElem->Kv,drop_of_length_le->Mf,length->N
open Nat renaming lt_of_lt_of_le->Tc,le_trans->Kf,pow_le_pow_right->Pp,pow_succ->Pn
open IntKind renaming wrap_u8->Td,wrap_u64->Kn,wrap_i64->Kw
namespace YtejkdbnngphgaaaGreatDoor.Yz
open Go.RowKit Go.Sort
attribute [-go_sem] run_index_string
theorem Q4 (l:Wd)(k:Nat)(w:J)(h:k<N l):(Instr.index 9 (Xs (Sz0 l)) (U O (k:Int))).run Q w=.ok (U .u8 ((l.getD k 0).toNat:Int)) w:=by
 rw[run_index_string (w:=w) (t:=9) (s:=Sz0 l) (k:=O) (i:=(k:Int)) underlying9,dif_pos ⟨by omega,by rw[QJ];omega⟩];congr 4
 simp[Sz0,Ty,h];rfl
theorem S_index0 (c:UInt8)(r:Wd)(w:J):(Instr.index 9 (Xs (Sz0 (c::r))) (U O 0)).run Q w=.ok (U .u8 (c.toNat:Int)) w:=Q4 (c::r) 0 w (by simp)
def Jr (most:Nat)(neg:Bool)(d:Wd):Option Int :=
 if(N d)<1\/most<N d\/(d.head?=some 48/\(1<N d\/neg=true))then none
 else match Lib.decFrom 0 d with
  |none=>none
  |some u=>if neg then(if u<=9223372036854775808 then some (-(u:Int))else none)else (if u<=9223372036854775807 then some (u:Int)else none)
def NuP (o:Option Int)(w:J)(e:Ending)(w':J):Prop:=w=w'/\∃x:Int,e=Z (.tuple #[U O x,G o.isSome])/\∀v,o=some v->x=v
theorem Jn {w:J}{o:Option Int}(h:o=none):NuP o w (Z (.tuple #[U O 0,G false])) w:=⟨rfl,0,by rw[h];rfl,λv e=>by rw[h]at e;cases e⟩
theorem u8_ne {c d:UInt8}(h:c≠d):((c.toNat:Int)==(d.toNat:Int))=false:=by
 simp;intro e;exact h (UInt8.toNat_inj.1 (by omega))
def NumC (most:Nat)(neg:Bool)(d:Wd):Prop:=¬(N d<1\/most<N d\/(d.head?=some 48/\(1<N d\/neg=true)))
theorem num_end {most:Nat}{neg:Bool}{d:Wd}{u:Nat}(h:NumC most neg d)(a:Lib.decFrom 0 d=some u):Jr most neg d=if neg then(if u<=9223372036854775808 then some (-(u:Int))else none)else (if u<=9223372036854775807 then some (u:Int)else none):=by
 unfold Jr;rw[if_neg h,a]
theorem num_no {most:Nat}{neg:Bool}{d:Wd}(a:Lib.decFrom 0 d=none):Jr most neg d=none:=by
 unfold Jr;rw[a];split<;>rfl
theorem p18 {k a:Nat}(h:a<10 ^ k)(b:k<=18):a<1000000000000000000:=Tc h (Kf (Pp (by omega) b) (by decide))
theorem p19 {k a:Nat}(h:a<10 ^ k)(b:k<=19):a<10000000000000000000:=Tc h (Kf (Pp (by omega) b) (by decide))
theorem snX:(∀(most:Nat) (s:Wd) (w:J) (L:most<=19) (hl:N s<=1099511627776),Ec Q 144 #[Xs (Sz0 s),U O (most:Int),G false] w (NuP (Jr most false s) w))/\(∀(most:Nat) (s:Wd) (w:J) (L:most<=19) (hl:N s<=1099511627776) (hw:N s<=1),Ec Q 144 #[Xs (Sz0 s),U O (most:Int),G true] w (NuP (Jr most false s) w)):=by
 refine⟨?c0,?c1⟩;case' c0=>intro most s w L hl;have j:=0
 case' c1=>intro most s w L hl hw;have B:=0
 all_goals
  have hz:(Sz0 s).size=N s:=QJ _
  first
  | (
   replace B:=B;have aj:¬(1:Int)<(N s:Int):=by omega)
  |skip
  by_cases h0:N s<1
  . have t:=Hm (show Jr most false s=none by unfold Jr;exact if_pos (.inl h0));have p:(N s:Int)<1:=by omega
    go_enter func144,ntmps144
    go_wp2
    go_ret2
    exact Jn t.o
  by_cases h1:most<N s
  . have t:=Hm (show Jr most false s=none by unfold Jr;exact if_pos (.inr (.inl h1)));have p:¬(N s:Int)<1:=by omega
    have C:(most:Int)<(N s:Int):=by omega
    go_enter func144,ntmps144
    go_wp2
    go_ret2
    exact Jn t.o
  have p:¬(N s:Int)<1:=by omega
  have C:¬(most:Int)<(N s:Int):=by omega
  obtain⟨c,r,H⟩:∃c r,s=c::r:=by
   cases s with
   |nil=>simp at h0
   |cons c r=>exact⟨c,r,rfl⟩
  have M:=S_index0 c r w;rw[<- H]at M;have E:s.head?=some c:=by rw[H];rfl
  have HD:=Hm H;clear H
  by_cases hc:c=48
  . subst hc
    by_cases D:1<N s
    . first|(replace j:=j;have t:=Hm (show Jr most false s=none by unfold Jr;exact if_pos (.inr (.inr ⟨E,.inl D⟩))))|(omega)
      first
      | (
       replace j:=j;have i3:(1:Int)<(N s:Int):=by omega)
      |skip
      first
      | (
       replace j:=j
       go_enter func144,ntmps144)
      |skip
      first
      | (
       replace j:=j
       go_wp2)
      |skip
      first
      | (
       replace j:=j
       go_ret2)
      |skip
      first
      | (
       replace j:=j
       exact Jn t.o)
      |skip
    . have i3:¬(1:Int)<(N s:Int):=by omega
      have HC:=Hm (show NumC most false s by rintro(h|h|⟨_,h|h⟩)<;>first|omega|cases h)
      go_enter func144,ntmps144
      go_upto_region 9 with fail
      go_loop [10,11] (λvx vi=>∃k b:Nat,vx=U Ou (b:Int)/\vi=U O (k:Int)/\k<=N s/\Hid (b<10 ^ k/\Lib.decFrom 0 s=Lib.decFrom b (s.drop k))) (λ_ vi=>N s-(intOf vi).toNat)
      case atStart=>exact⟨0,0,rfl,rfl,by omega,by simp,rfl⟩
      case round =>
       obtain⟨k,b,rfl,rfl,hk,n⟩:=hrel
       by_cases f:k<N s
       . have z:(k:Int)<(N s:Int):=by omega
         have q:=Q4 s k w f;have g:s.drop k=s[k]'f::s.drop (k+1):=Tx f;have l:s.getD k 0=s[k]'f:=by simp[Ty,Kv f]
         have X:=p18 n.o.1 (by omega);have a:=n.o.2;rw[g,QY]at a;rw[l]at q;generalize s[k]'f=y at q a;have hy:=y.toNat_lt
         cases hdv:Lib.digitVal y with
         |none =>
          rw[hdv]at a;have t:=Hm (num_no (most:=most) (neg:=false) a);have F:=Lib.digitVal_none hdv;clear a g l n hdv;generalize y.toNat=yn at *
          by_cases R:yn<48
          . have p:(yn:Int)<48:=by omega
            go_wp2
            go_ret2
            exact Jn t.o
          . have p:¬(yn:Int)<48:=by omega
            have C:(57:Int)<(yn:Int):=by omega
            go_wp2
            go_ret2
            exact Jn t.o
         |some d =>
          rw[hdv]at a;obtain⟨e1,e2,e3⟩:=Lib.digitVal_eq hdv;have HH:Hid (b*10+d<10 ^ (k+1)/\Lib.decFrom 0 s=Lib.decFrom (b*10+d) (s.drop (k+1))):=⟨by have:=n.o.1;rw[Pn];omega,a⟩;clear a g l n hdv;generalize y.toNat=yn at *;have p:¬(yn:Int)<48:=by omega
          have C:¬(57:Int)<(yn:Int):=by omega
          have I:IntKind.u8.wrap ((yn:Int)-48)=(d:Int):=by rw[Td];omega
          have w2:IntKind.u64.wrap (d:Int)=(d:Int):=by rw[Kn];omega
          have w3:IntKind.u64.wrap (10*(b:Int))=10*(b:Int):=by rw[Kn];omega
          have w4:IntKind.u64.wrap (10*(b:Int)+(d:Int))=10*(b:Int)+(d:Int):=by rw[Kn];omega
          have w5:IntKind.i64.wrap ((k:Int)+1)=(k:Int)+1:=by rw[Kw];omega
          go_wp2
          exact⟨⟨k+1,b*10+d,(by congr 1;omega),(by first|rfl|(congr 1;omega)),by omega,HH⟩,by simp[intOf];omega⟩
       . have Y:k=N s:=by omega
         subst Y;have a:=n.o.2;rw[Mf lRz]at a;have V:=p19 n.o.1 (by omega);have u:=Hm (num_end (neg:=false) HC.o (show Lib.decFrom 0 s=some b from a));have z:¬(N s:Int)<(N s:Int):=by omega
         clear a n f
         by_cases m:b<=9223372036854775807
         . have p:(b:Int)<=9223372036854775807:=by omega
           have I:IntKind.i64.wrap (b:Int)=(b:Int):=by rw[Kw];omega
           go_wp2
           go_ret2
           have A:(Jr most false s).isSome=true:=by rw[u.o];simp[m]
           exact⟨rfl,(b:Int),by rw[A];rfl,λv hv=>by rw[u.o]at hv;simp[m]at hv;rw[<- hv]⟩
         . have p:¬(b:Int)<=9223372036854775807:=by omega
           go_wp2
           go_ret2
           have A:(Jr most false s).isSome=false:=by rw[u.o];simp[m]
           rw[NuP,A]
           exact⟨rfl,_,rfl,λv hv=>by rw[u.o]at hv;simp[m]at hv⟩
  . have h3:((c.toNat:Int)==48)=false:=u8_ne hc
    have HC:=Hm (show NumC most false s by
     rintro(h|h|⟨h,_⟩)
     . omega
     . omega
     . rw[E]at h;exact hc (by simpa using h))
    go_enter func144,ntmps144
    go_upto_region 9 with fail
    go_loop [10,11] (λvx vi=>∃k b:Nat,vx=U Ou (b:Int)/\vi=U O (k:Int)/\k<=N s/\Hid (b<10 ^ k/\Lib.decFrom 0 s=Lib.decFrom b (s.drop k))) (λ_ vi=>N s-(intOf vi).toNat)
    case atStart=>exact⟨0,0,rfl,rfl,by omega,by simp,rfl⟩
    case round =>
     obtain⟨k,b,rfl,rfl,hk,n⟩:=hrel
     by_cases f:k<N s
     . have z:(k:Int)<(N s:Int):=by omega
       have q:=Q4 s k w f;have g:s.drop k=s[k]'f::s.drop (k+1):=Tx f;have l:s.getD k 0=s[k]'f:=by simp[Ty,Kv f]
       have X:=p18 n.o.1 (by omega);have a:=n.o.2;rw[g,QY]at a;rw[l]at q;generalize s[k]'f=y at q a;have hy:=y.toNat_lt
       cases hdv:Lib.digitVal y with
       |none =>
        rw[hdv]at a;have t:=Hm (num_no (most:=most) (neg:=false) a);have F:=Lib.digitVal_none hdv;clear a g l n hdv;generalize y.toNat=yn at *
        by_cases R:yn<48
        . have p:(yn:Int)<48:=by omega
          go_wp2
          go_ret2
          exact Jn t.o
        . have p:¬(yn:Int)<48:=by omega
          have C:(57:Int)<(yn:Int):=by omega
          go_wp2
          go_ret2
          exact Jn t.o
       |some d =>
        rw[hdv]at a;obtain⟨e1,e2,e3⟩:=Lib.digitVal_eq hdv;have HH:Hid (b*10+d<10 ^ (k+1)/\Lib.decFrom 0 s=Lib.decFrom (b*10+d) (s.drop (k+1))):=⟨by have:=n.o.1;rw[Pn];omega,a⟩;clear a g l n hdv;generalize y.toNat=yn at *;have p:¬(yn:Int)<48:=by omega
        have C:¬(57:Int)<(yn:Int):=by omega
        have I:IntKind.u8.wrap ((yn:Int)-48)=(d:Int):=by rw[Td];omega
        have w2:IntKind.u64.wrap (d:Int)=(d:Int):=by rw[Kn];omega
        have w3:IntKind.u64.wrap (10*(b:Int))=10*(b:Int):=by rw[Kn];omega
        have w4:IntKind.u64.wrap (10*(b:Int)+(d:Int))=10*(b:Int)+(d:Int):=by rw[Kn];omega
        have w5:IntKind.i64.wrap ((k:Int)+1)=(k:Int)+1:=by rw[Kw];omega
        go_wp2
        exact⟨⟨k+1,b*10+d,(by congr 1;omega),(by first|rfl|(congr 1;omega)),by omega,HH⟩,by simp[intOf];omega⟩
     . have Y:k=N s:=by omega
       subst Y;have a:=n.o.2;rw[Mf lRz]at a;have V:=p19 n.o.1 (by omega);have u:=Hm (num_end (neg:=false) HC.o (show Lib.decFrom 0 s=some b from a));have z:¬(N s:Int)<(N s:Int):=by omega
       clear a n f
       by_cases m:b<=9223372036854775807
       . have p:(b:Int)<=9223372036854775807:=by omega
         have I:IntKind.i64.wrap (b:Int)=(b:Int):=by rw[Kw];omega
         go_wp2
         go_ret2
         have A:(Jr most false s).isSome=true:=by rw[u.o];simp[m]
         exact⟨rfl,(b:Int),by rw[A];rfl,λv hv=>by rw[u.o]at hv;simp[m]at hv;rw[<- hv]⟩
       . have p:¬(b:Int)<=9223372036854775807:=by omega
         go_wp2
         go_ret2
         have A:(Jr most false s).isSome=false:=by rw[u.o];simp[m]
         rw[NuP,A]
         exact⟨rfl,_,rfl,λv hv=>by rw[u.o]at hv;simp[m]at hv⟩
def sn1:=snX.1
def sn2:=snX.2
theorem snY:(∀(most:Nat) (s:Wd) (w:J) (V:most<=19) (hl:N s<=1099511627776) (a:UInt8) (q:Wd) (z:s=a::q) (L:1<N s) (ha:a≠45),Ec Q 144 #[Xs (Sz0 s),U O (most:Int),G true] w (NuP (Jr most false s) w))/\(∀(most:Nat) (s:Wd) (w:J) (V:most<=19) (hl:(45::s).length<=1099511627776) (L:s≠[]),Ec Q 144 #[Xs (Sz0 (45::s)),U O (most:Int),G true] w (NuP (Jr most true s) w)):=by
 refine⟨?c0,?c1⟩;case' c0=>intro most s w V hl a q z L ha;have b:=0
 case' c1=>intro most s w V hl L;have f:=0
 all_goals
  have hz:(Sz0 s).size=N s:=QJ _
  first
  | (
   replace f:=f;have ag:(Sz0 (45::s)).size=N s+1:=by rw[QJ];rfl)
  |skip
  first|(replace b:=b;have R:(1:Int)<(N s:Int):=by omega)|(have R:(1:Int)<(N s:Int)+1:=by have:=List.length_pos_iff.2 L;omega)
  first
  | (
   replace b:=b;have aj:((a.toNat:Int)==45)=false:=u8_ne ha)
  |skip
  first
  | (
   replace b:=b;have E:=S_index0 a q w)
  |skip
  first
  | (
   replace b:=b;rw[<- z]at E)
  |skip
  first
  | (
   replace b:=b;have Y:=Hm z)
  |skip
  first
  | (
   replace b:=b;clear z)
  |skip
  first
  | (
   replace f:=f;have ai:(Instr.index 9 (Xs (Sz0 (45::s))) (U O 0)).run Q w=.ok (U .u8 45) w:=S_index0 45 s w)
  |skip
  first
  | (
   replace f:=f;have ah:(Sz0 (45::s)).extract 1 (N s+1)=Sz0 s:=by rw[show(N s)+1=(45::s).length from rfl,Gc (45::s) 1 _ rfl];rfl)
  |skip
  by_cases h0:N s<1
  . first|(replace b:=b;omega)|(have t:=Hm (show Jr most true s=none by unfold Jr;exact if_pos (.inl h0)))
    first
    | (
     replace f:=f;have A:(N s:Int)<1:=by omega)
    |skip
    first
    | (
     replace f:=f
     go_enter func144,ntmps144)
    |skip
    first
    | (
     replace f:=f
     go_wp2)
    |skip
    first
    | (
     replace f:=f
     go_ret2)
    |skip
    first
    | (
     replace f:=f
     exact Jn t.o)
    |skip
  by_cases h1:most<N s
  . first|(replace b:=b;have t:=Hm (show Jr most false s=none by unfold Jr;exact if_pos (.inr (.inl h1))))|(have t:=Hm (show Jr most true s=none by unfold Jr;exact if_pos (.inr (.inl h1))))
    have A:¬(N s:Int)<1:=by omega
    have M:(most:Int)<(N s:Int):=by omega
    go_enter func144,ntmps144
    go_wp2
    go_ret2
    exact Jn t.o
  have A:¬(N s:Int)<1:=by omega
  have M:¬(most:Int)<(N s:Int):=by omega
  obtain⟨c,r,H⟩:∃c r,s=c::r:=by
   cases s with
   |nil=>simp at h0
   |cons c r=>exact⟨c,r,rfl⟩
  first|(replace b:=b;have z:=Y.o)|(have E:=S_index0 c r w)
  first|(replace b:=b;rw[z]at H)|(rw[<- H]at E)
  first
  | (
   replace b:=b
   cases H)
  |skip
  first|(replace b:=b;have p:s.head?=some a:=by rw[z];rfl)|(have p:s.head?=some c:=by rw[H];rfl)
  first|(replace b:=b;have HD:=Hm z)|(have HD:=Hm H)
  first|(replace b:=b;clear z)|(clear H)
  first|(replace b:=b;by_cases hc:a=48)|(by_cases hc:c=48)
  . subst hc
    by_cases B:1<N s
    . first|(replace b:=b;have t:=Hm (show Jr most false s=none by unfold Jr;exact if_pos (.inr (.inr ⟨p,.inl B⟩))))|(have t:=Hm (show Jr most true s=none by unfold Jr;exact if_pos (.inr (.inr ⟨p,.inl B⟩))))
      first
      | (
       replace f:=f;have i3:(1:Int)<(N s:Int):=by omega)
      |skip
      go_enter func144,ntmps144
      go_wp2
      go_ret2
      exact Jn t.o
    . first|(replace b:=b;omega)|(have t:=Hm (show Jr most true s=none by unfold Jr;exact if_pos (.inr (.inr ⟨p,.inr rfl⟩))))
      first
      | (
       replace f:=f;have i3:¬(1:Int)<(N s:Int):=by omega)
      |skip
      first
      | (
       replace f:=f
       go_enter func144,ntmps144)
      |skip
      first
      | (
       replace f:=f
       go_wp2)
      |skip
      first
      | (
       replace f:=f
       go_ret2)
      |skip
      first
      | (
       replace f:=f
       exact Jn t.o)
      |skip
  . first|(replace b:=b;have h3:((a.toNat:Int)==48)=false:=u8_ne hc)|(have h3:((c.toNat:Int)==48)=false:=u8_ne hc)
    first
    | (
     replace b:=b
     have HC:=Hm (show NumC most false s by
      rintro(h|h|⟨h,_⟩)
      . omega
      . omega
      . rw[p]at h;exact hc (by simpa using h)))
    | (
     replace f:=f
     have HC:=Hm (show NumC most true s by
      rintro(h|h|⟨h,_⟩)
      . omega
      . omega
      . rw[p]at h;exact hc (by simpa using h)))
    go_enter func144,ntmps144
    go_upto_region 9 with fail
    go_loop [10,11] (λvx vi=>∃k g:Nat,vx=U Ou (g:Int)/\vi=U O (k:Int)/\k<=N s/\Hid (g<10 ^ k/\Lib.decFrom 0 s=Lib.decFrom g (s.drop k))) (λ_ vi=>N s-(intOf vi).toNat)
    case atStart=>exact⟨0,0,rfl,rfl,by omega,by simp,rfl⟩
    case round =>
     obtain⟨k,g,rfl,rfl,hk,C⟩:=hrel
     by_cases m:k<N s
     . have X:(k:Int)<(N s:Int):=by omega
       have I:=Q4 s k w m;have n:s.drop k=s[k]'m::s.drop (k+1):=Tx m;have u:s.getD k 0=s[k]'m:=by simp[Ty,Kv m]
       have ar:=p18 C.o.1 (by omega);have j:=C.o.2;rw[n,QY]at j;rw[u]at I;generalize s[k]'m=y at I j;have hy:=y.toNat_lt
       cases hdv:Lib.digitVal y with
       |none =>
        rw[hdv]at j
        first|(replace b:=b;have t:=Hm (num_no (most:=most) (neg:=false) j))|(have t:=Hm (num_no (most:=most) (neg:=true) j))
        have ac:=Lib.digitVal_none hdv;clear j n u C hdv;generalize y.toNat=yn at *
        by_cases ak:yn<48
        . have A:(yn:Int)<48:=by omega
          go_wp2
          go_ret2
          exact Jn t.o
        . have A:¬(yn:Int)<48:=by omega
          have M:(57:Int)<(yn:Int):=by omega
          go_wp2
          go_ret2
          exact Jn t.o
       |some d =>
        rw[hdv]at j;obtain⟨e1,e2,z⟩:=Lib.digitVal_eq hdv;have HH:Hid (g*10+d<10 ^ (k+1)/\Lib.decFrom 0 s=Lib.decFrom (g*10+d) (s.drop (k+1))):=⟨by have:=C.o.1;rw[Pn];omega,j⟩;clear j n u C hdv;generalize y.toNat=yn at *;have A:¬(yn:Int)<48:=by omega
        have M:¬(57:Int)<(yn:Int):=by omega
        have w1:IntKind.u8.wrap ((yn:Int)-48)=(d:Int):=by rw[Td];omega
        have w2:IntKind.u64.wrap (d:Int)=(d:Int):=by rw[Kn];omega
        have w3:IntKind.u64.wrap (10*(g:Int))=10*(g:Int):=by rw[Kn];omega
        have w4:IntKind.u64.wrap (10*(g:Int)+(d:Int))=10*(g:Int)+(d:Int):=by rw[Kn];omega
        have w5:IntKind.i64.wrap ((k:Int)+1)=(k:Int)+1:=by rw[Kw];omega
        go_wp2
        exact⟨⟨k+1,g*10+d,(by congr 1;omega),(by first|rfl|(congr 1;omega)),by omega,HH⟩,by simp[intOf];omega⟩
     . have ek:k=N s:=by omega
       subst ek;have j:=C.o.2;rw[Mf lRz]at j;have aq:=p19 C.o.1 (by omega)
       first|(replace b:=b;have D:=Hm (num_end (neg:=false) HC.o (show Lib.decFrom 0 s=some g from j)))|(have D:=Hm (num_end (neg:=true) HC.o (show Lib.decFrom 0 s=some g from j)))
       have X:¬(N s:Int)<(N s:Int):=by omega
       clear j C m
       first|(replace b:=b;by_cases l:g<=9223372036854775807)|(by_cases l:g<=9223372036854775808)
       . first|(replace b:=b;have A:(g:Int)<=9223372036854775807:=by omega)|(have A:(g:Int)<=9223372036854775808:=by omega)
         first|(replace b:=b;have w1:IntKind.i64.wrap (g:Int)=(g:Int):=by rw[Kw];omega)|(have w1:IntKind.i64.wrap (IntKind.u64.wrap (-(g:Int)))=-(g:Int):=by rw[Kw,Kn];omega)
         go_wp2
         go_ret2
         first|(replace b:=b;have F:(Jr most false s).isSome=true:=by rw[D.o];simp[l])|(have F:(Jr most true s).isSome=true:=by rw[D.o];simp[l])
         first|(replace b:=b;exact⟨rfl,(g:Int),by rw[F];rfl,λv hv=>by rw[D.o]at hv;simp[l]at hv;rw[<- hv]⟩)|(exact⟨rfl,-(g:Int),by rw[F];rfl,λv hv=>by rw[D.o]at hv;simp[l]at hv;rw[<- hv]⟩)
       . first|(replace b:=b;have A:¬(g:Int)<=9223372036854775807:=by omega)|(have A:¬(g:Int)<=9223372036854775808:=by omega)
         go_wp2
         go_ret2
         first|(replace b:=b;have F:(Jr most false s).isSome=false:=by rw[D.o];simp[l])|(have F:(Jr most true s).isSome=false:=by rw[D.o];simp[l])
         rw[NuP,F]
         exact⟨rfl,_,rfl,λv hv=>by rw[D.o]at hv;simp[l]at hv⟩
def sn3:=snY.1
def sn4:=snY.2
theorem snum_c (most:Nat)(sg:Bool)(s:Wd)(w:J)(b:most<=19)(hl:N s<=1099511627776):Ec Q 144 #[Xs (Sz0 s),U O (most:Int),G sg] w (NuP (XU most sg s) w):=by
 cases sg with
 |false=>exact sn1 most s w b hl
 |true =>
  by_cases c:N s<=1
  . have e:XU most true s=Jr most false s:=by
      have:(true&&(decide (1<N s)&&(s.head?==some 45)))=false:=by simp;omega
      unfold XU Jr;simp only[this];rfl
    rw[e];exact sn2 most s w b hl c
  . cases s with
    |nil=>simp at c
    |cons a q =>
     by_cases ha:a=45
     . subst ha;have d:q≠[]:=by rintro rfl;simp at c
       have e:XU most true (45::q)=Jr most true q:=by
        have:(true&&(decide (1<(45::q).length)&&((45::q).head?==some 45)))=true:=by simp;exact List.length_pos_iff.2 d
        unfold XU Jr;simp only[this];rfl
       rw[e];exact sn4 most q w b hl d
     . have e:XU most true (a::q)=Jr most false (a::q):=by
         have:(true&&(decide (1<(a::q).length)&&((a::q).head?==some 45)))=false:=by simp[ha]
         unfold XU Jr;simp only[this];rfl
       rw[e];exact sn3 most (a::q) w b hl a q rfl (by omega) ha
