import Derived.Test.YtaccbbndmmhenaaGreatGab
import Derived.Test.YtaccbbndmmhenaaGreatGac
set_option linter.all false
set_option maxHeartbeats 400000000
set_option maxRecDepth 100000
namespace Go.Proofs
open Value renaming int->U,slice->S,bool->G
open IntKind renaming i64->O,u64->Ou
open Ending renaming returned->Z
open Obj renaming cells->Fc
open Go renaming World->J,Calls->Ec,Value->Vu,Addr->Ad
open Go.RowKit renaming Below->Bw
open Tryz renaming prog->Q
open Tryz
open List renaming getD->Kx,getElem?_eq_getElem->Kj,length->N
namespace YtaccbbndmmhenaaGreat
open Go.RowKit Go.Sort
theorem all_t (l:List Int)(h:∀i,i<N l->Qz (l.getD i 0)=true):l.all Qz=true:=by
 rw[List.all_eq_true];intro x b;obtain⟨i,a,rfl⟩:=List.getElem_of_mem b;have:=h i a;simpa[Kx,Kj a]using this
theorem all_f (l:List Int)(i:Nat)(a:i<N l)(h:Qz (l.getD i 0)=false):l.all Qz=false:=by
 rw[List.all_eq_false];refine⟨l[i],List.getElem_mem a,?_⟩;have:l.getD i 0=l[i]:=by simp[Kx,Kj a]
 rw[this]at h;simp[h]
theorem sgood_x:(∀(op a b v:Int) (l:List Int) (f:Option Ad) (m:Nat) (w:J) (A:Qi (Qa op)=3) (hv:0<=v) (p:N l<=1099511627776) (B:Has w f l) (t:¬b=0),Ec Q 187 #[inV ⟨op,a,b,v,l⟩ f m] w λe w'=>e=Z (G (Qr 3 ⟨op,a,b,v,l⟩))/\Bw w.heap.size w w')/\(∀(op a b v:Int) (l:List Int) (f:Option Ad) (m:Nat) (w:J) (A:Qi (Qa op)=3) (hv:0<=v) (p:N l<=1099511627776) (B:Has w f l) (t:b=0) (n:¬v=0),Ec Q 187 #[inV ⟨op,a,b,v,l⟩ f m] w λe w'=>e=Z (G (Qr 3 ⟨op,a,b,v,l⟩))/\Bw w.heap.size w w')/\(∀(op a b v:Int) (l:List Int) (f:Option Ad) (m:Nat) (w:J) (A:Qi (Qa op)=3) (hv:0<=v) (p:N l<=1099511627776) (B:Has w f l) (t:b=0) (n:v=0),Ec Q 187 #[inV ⟨op,a,b,v,l⟩ f m] w λe w'=>e=Z (G (Qr 3 ⟨op,a,b,v,l⟩))/\Bw w.heap.size w w'):=by
 refine⟨?c0,?c1,?c2⟩;case' c0=>intro op a b v l f m w A hv p B t;have r:=0
 case' c1=>intro op a b v l f m w A hv p B t n;have g:=0
 case' c2=>intro op a b v l f m w A hv p B t n;have D:=0
 all_goals
  first
  | (
   replace g:=g;subst t)
  | (
   replace D:=D;subst t n)
  |skip
  first
  | (
   replace r:=r;have M:(b==0)=false:=by simpa using t)
  | (
   replace g:=g;have M:(v==0)=false:=by simpa using n)
  |skip
  have HF:=Hm (QO op);rw[A]at HF;clear A;have ad:=XY l;have HA:=Hm (Ga a);have C:=Hm (λo=>B.keep ((Below.refl w.heap.size w).alloc lRz o));clear B;generalize ht:Qz a=ta at *
  go_enter func187,ntmps187
  go_wp2_with fail
  refine(HF.o _).mono ?_
  rintro e I ⟨rfl,rfl⟩
  go_wp2_with fail
  go_loop [6] (λi=>∃k:Nat,k<=N l/\i=U O k/\∀j,j<k->Qz (l.getD j 0)=true) (λi=>N l-(intOf i).toNat)
  case atStart=>exact⟨0,Nat.zero_le _,rfl,λj h=>by omega⟩
  case round =>
   obtain⟨k,hk,rfl,c⟩:=hrel
   by_cases u:k<N l
   . have ae:(k:Int)<(N l:Int):=by omega
     first|(replace r:=r;rcases C.o (Fc #[U O op,U O a,U O b,U Ou v,S f (N l) m] 85)with L|⟨Y,X,R,E⟩)|(replace g:=g;rcases C.o (Fc #[U O op,U O a,U O 0,U Ou v,S f (N l) m] 85)with L|⟨Y,X,R,E⟩)|(rcases C.o (Fc #[U O op,U O a,U O 0,U Ou 0,S f (N l) m] 85)with L|⟨Y,X,R,E⟩)
     . subst L;simp at u
     have d:=E k u;subst R;have HK:=Hm (Ga (l.getD k 0));generalize H:l.getD k 0=y at *;generalize F:Qz y=z at *
     cases z
     . have s:l.all Qz=false:=all_f l k u (by rw[H];exact F);have q:=Hm s;clear s c E H F C
       go_wp2_with (refine(HK.o _).mono ?_;rintro e I ⟨rfl,rfl⟩)
       go_ret
       exact⟨by simp[Qr,q.o],bFz.alloc lRz _⟩
     . have V:Hid (∀j,j<k+1->Qz (l.getD j 0)=true):=λj hj=>by
         rcases(by omega:j<k\/j=k)with h|h
         . exact c j h
         . subst h;rw[H];exact F
       clear c E H F C
       go_wp2_with (refine(HK.o _).mono ?_;rintro e I ⟨rfl,rfl⟩)
       go_round
       case rel=>exact⟨k+1,by omega,by go_num,V.o⟩
       case measure=>simp[intOf];omega
   . have e:k=N l:=by omega
     subst e;have q:=Hm (all_t l c);clear c C
     go_wp2_with (refine(HA.o _).mono ?_;rintro e I ⟨rfl,rfl⟩)
     all_goals
      go_ret
      refine⟨?_,bFz.alloc lRz _⟩
      simp[Qr,q.o,ht]
      try simp_all
def sgood_3a:=sgood_x.1
def sgood_3b:=sgood_x.2.1
def sgood_3c:=sgood_x.2.2
theorem sgood_3 (x:In)(la)(d:Nat)(w)(g:Qi (Qa x.op)=3)(hv:0<=x.v)(c:N x.l<=1099511627776)(k:Has w la x.l):Ec Q 187 #[inV x la d] w λe w'=>e=Z (G (Qr 3 x))/\Bw w.heap.size w w':=by
 obtain⟨f,a,b,v,l⟩:=x;by_cases j:b=0
 . by_cases m:v=0
   . exact sgood_3c f a b v l la d w g hv c k j m
   exact sgood_3b f a b v l la d w g hv c k j m
 exact sgood_3a f a b v l la d w g hv c k j
theorem allAre_c (a)(c:Nat)(l:List Int)(w)(hn:N l<=1099511627776)(s:Has w a l):Ec Q 155 #[S a (N l) c,.func (.func 156) #[] #[]] w λe w'=>e=Z (G (l.all Qz))/\w=w':=by
 have p:=Hm s;clear s;go_enter func155,ntmps155;go_wp2_with fail
 go_loop [9] (λi=>∃k:Nat,k<=N l/\i=U O k/\∀j,j<k->Qz (l.getD j 0)=true) (λi=>N l-(intOf i).toNat)
 case atStart=>exact⟨0,Nat.zero_le _,rfl,λj h=>by omega⟩
 obtain⟨k,D,rfl,b⟩:=hrel;by_cases g:k<N l
 . (have A:(k:Int)<(N l:Int):=by omega);rcases p.o with v|⟨E,C,B,q⟩
   . subst v;simp at g
   have d:=q k g;subst B;have t:=Hm (XV (l.getD k 0));generalize n:l.getD k 0=y at *;generalize m:Qz y=z at *;cases z
   . have f:=Hm (all_f l k g (by rw[n];exact m));clear b q n m p;(go_wp2_with (refine(t.o _).mono ?_;rintro e u ⟨rfl,rfl⟩));go_ret;exact⟨by rw[f.o];rfl,rfl⟩
   have r:Hid (∀j,j<k+1->Qz (l.getD j 0)=true):=λj hj=>by
    rcases(by omega:j<k\/j=k)with h|h
    . exact b j h
    subst h;rw[n];exact m
   clear b q n m p;(go_wp2_with (refine(t.o _).mono ?_;rintro e u ⟨rfl,rfl⟩));(go_round);(case rel=>exact⟨k+1,by omega,by go_num,r.o⟩);case measure=>simp[intOf];omega
 have e:k=N l:=by omega
 subst e;have f:=Hm (all_t l b);clear b p;go_wp2;go_ret;exact⟨by rw[f.o];rfl,rfl⟩
theorem ibt_c (x:Int)(w:J):Ec Q 274 #[U O x] w λe w'=>e=Z (G (decide (x=64) || tyB x))/\w=w':=by
 have H:=Hm (ity_c x);by_cases h:x=64
 . subst h;go_enter func274,ntmps274;go_wp2;go_ret;exact⟨rfl,rfl⟩
 have f:(x==(64:Int))=false:=by simpa using h
 have a:=Hm h;clear h;go_enter func274,ntmps274;go_wp2_with (refine(H.o _).mono ?_;rintro e b ⟨rfl,rfl⟩)
 go_ret;exact⟨by simp[a.o],rfl⟩
theorem Gk {w w1:J}{c0 c1 c2 c3 c4:Vu}(h:Bw (((w.alloc (Fc #[c0,c1,c2,c3,c4] 85)).alloc (Fc #[c0,c1,c2,c3,c4] 85)).drew).heap.size (((w.alloc (Fc #[c0,c1,c2,c3,c4] 85)).alloc (Fc #[c0,c1,c2,c3,c4] 85)).drew) w1):C5 w1 w.heap.size 0 c0 c1 c2 c3 c4/\C5 w1 (w.heap.size+1) 0 c0 c1 c2 c3 c4/\Bw w.heap.size w w1:=by
 have f:Bw ((w.alloc (Fc #[c0,c1,c2,c3,c4] 85)).alloc (Fc #[c0,c1,c2,c3,c4] 85)).heap.size ((w.alloc (Fc #[c0,c1,c2,c3,c4] 85)).alloc (Fc #[c0,c1,c2,c3,c4] 85)) w1:=⟨h.os,h.tape,h.output,h.size,h.block⟩;refine⟨(C5.new.past).keep f,?_,up2 f⟩;have:=(C5.new (w:=w.alloc (Fc #[c0,c1,c2,c3,c4] 85)) (a:=c0) (b:=c1) (c:=c2) (d:=c3) (e:=c4) (t:=85)).keep f;simpa using this
theorem bset {w w1}{o:Nat}{v:Vu}(h:Bw w.heap.size w w1):Bw w.heap.size w (w1.setCell ⟨w.heap.size+1,o,none⟩ v):=h.setCell (by show w.heap.size<=w.heap.size+1;omega) _
theorem igood_0 (op a b v:Int)(l:List Int)(k:Option Ad)(j:Nat)(w:J)(f:Qi (Qa op)=0)(hv:0<=v):Ec Q 243 #[inV ⟨op,a,b,v,l⟩ k j] w λe w'=>e=Z (G (Qr (0) ⟨op,a,b,v,l⟩))/\Bw w.heap.size w w':=by
 have m:=XY l;have d:=Hm (QK op);rw[f]at d;clear f;go_enter func243,ntmps243;go_wp2_with fail
 go_region
 go_wp2_with fail
 refine(d.o _).mono ?_;rintro e n ⟨rfl,g⟩;obtain⟨⟨⟨D,C,B,A,z⟩,y⟩,⟨⟨u,t,s,r,q⟩,p⟩,c⟩:=Gk g;clear g d;go_wp2
 all_goals
  go_ret
  refine⟨?_,by repeat (first|exact c|refine bset ?_)⟩
  first|(simp_all[Qr,Qn];done)|(simp_all[Qr,Qn];intros;omega)
theorem igood_6 (op a b v:Int)(l:List Int)(k:Option Ad)(j:Nat)(w:J)(f:Qi (Qa op)=6)(hv:0<=v):Ec Q 243 #[inV ⟨op,a,b,v,l⟩ k j] w λe w'=>e=Z (G (Qr (6) ⟨op,a,b,v,l⟩))/\Bw w.heap.size w w':=by
 have m:=XY l;have d:=Hm (QK op);rw[f]at d;clear f;go_enter func243,ntmps243;go_wp2_with fail
 go_region
 go_wp2_with fail
 refine(d.o _).mono ?_;rintro e n ⟨rfl,g⟩;obtain⟨⟨⟨D,C,B,A,z⟩,y⟩,⟨⟨u,t,s,r,q⟩,p⟩,c⟩:=Gk g;clear g d;go_wp2
 all_goals
  go_ret
  refine⟨?_,by repeat (first|exact c|refine bset ?_)⟩
  first|(simp_all[Qr,Qn];done)|(simp_all[Qr,Qn];intros;omega)
theorem igood_8 (op a b v:Int)(l:List Int)(k:Option Ad)(j:Nat)(w:J)(f:Qi (Qa op)=8)(hv:0<=v):Ec Q 243 #[inV ⟨op,a,b,v,l⟩ k j] w λe w'=>e=Z (G (Qr (8) ⟨op,a,b,v,l⟩))/\Bw w.heap.size w w':=by
 have m:=XY l;have d:=Hm (QK op);rw[f]at d;clear f;go_enter func243,ntmps243;go_wp2_with fail
 go_region
 go_wp2_with fail
 refine(d.o _).mono ?_;rintro e n ⟨rfl,g⟩;obtain⟨⟨⟨D,C,B,A,z⟩,y⟩,⟨⟨u,t,s,r,q⟩,p⟩,c⟩:=Gk g;clear g d;go_wp2
 all_goals
  go_ret
  refine⟨?_,by repeat (first|exact c|refine bset ?_)⟩
  first|(simp_all[Qr,Qn];done)|(simp_all[Qr,Qn];intros;omega)
theorem igood_10 (op a b v:Int)(l:List Int)(k:Option Ad)(j:Nat)(w:J)(f:Qi (Qa op)=10)(hv:0<=v):Ec Q 243 #[inV ⟨op,a,b,v,l⟩ k j] w λe w'=>e=Z (G (Qr (10) ⟨op,a,b,v,l⟩))/\Bw w.heap.size w w':=by
 have m:=XY l;have d:=Hm (QK op);rw[f]at d;clear f;go_enter func243,ntmps243;go_wp2_with fail
 go_region
 go_wp2_with fail
 refine(d.o _).mono ?_;rintro e n ⟨rfl,g⟩;obtain⟨⟨⟨D,C,B,A,z⟩,y⟩,⟨⟨u,t,s,r,q⟩,p⟩,c⟩:=Gk g;clear g d;go_wp2
 all_goals
  go_ret
  refine⟨?_,by repeat (first|exact c|refine bset ?_)⟩
  first|(simp_all[Qr,Qn];done)|(simp_all[Qr,Qn];intros;omega)
theorem igood_1 (op a b v:Int)(l:List Int)(k:Option Ad)(j:Nat)(w:J)(f:Qi (Qa op)=1)(hv:0<=v):Ec Q 243 #[inV ⟨op,a,b,v,l⟩ k j] w λe w'=>e=Z (G (Qr (1) ⟨op,a,b,v,l⟩))/\Bw w.heap.size w w':=by
 have m:=XY l;have d:=Hm (QK op);rw[f]at d;clear f;go_enter func243,ntmps243;go_wp2_with fail
 go_region
 go_wp2_with fail
 refine(d.o _).mono ?_;rintro e p ⟨rfl,g⟩;obtain⟨⟨⟨E,D,C,B,A⟩,z⟩,⟨⟨y,u,t,s,r⟩,q⟩,c⟩:=Gk g;clear g d;go_wp2_with (go_at_call 274;refine(ibt_c _ _).mono ?_;rintro e n ⟨rfl,rfl⟩)
 all_goals
  go_ret
  refine⟨?_,by repeat (first|exact c|refine bset ?_)⟩
  first|(simp_all[Qr,Qn];done)|(simp_all[Qr,Qn];intros;omega)
theorem igood_2 (op a b v:Int)(l:List Int)(k:Option Ad)(j:Nat)(w:J)(f:Qi (Qa op)=2)(hv:0<=v):Ec Q 243 #[inV ⟨op,a,b,v,l⟩ k j] w λe w'=>e=Z (G (Qr (2) ⟨op,a,b,v,l⟩))/\Bw w.heap.size w w':=by
 have m:=XY l;have d:=Hm (QK op);rw[f]at d;clear f;go_enter func243,ntmps243;go_wp2_with fail
 go_region
 go_wp2_with fail
 refine(d.o _).mono ?_;rintro e p ⟨rfl,g⟩;obtain⟨⟨⟨E,D,C,B,A⟩,z⟩,⟨⟨y,u,t,s,r⟩,q⟩,c⟩:=Gk g;clear g d;go_wp2_with (go_at_call 156;refine(XV _ _).mono ?_;rintro e n ⟨rfl,rfl⟩)
 all_goals
  go_ret
  refine⟨?_,by repeat (first|exact c|refine bset ?_)⟩
  first|(simp_all[Qr,Qn];done)|(simp_all[Qr,Qn];intros;omega)
theorem igood_4 (op a b v:Int)(l:List Int)(k:Option Ad)(j:Nat)(w:J)(f:Qi (Qa op)=4)(hv:0<=v):Ec Q 243 #[inV ⟨op,a,b,v,l⟩ k j] w λe w'=>e=Z (G (Qr (4) ⟨op,a,b,v,l⟩))/\Bw w.heap.size w w':=by
 have m:=XY l;have d:=Hm (QK op);rw[f]at d;clear f;go_enter func243,ntmps243;go_wp2_with fail
 go_region
 go_wp2_with fail
 refine(d.o _).mono ?_;rintro e p ⟨rfl,g⟩;obtain⟨⟨⟨E,D,C,B,A⟩,z⟩,⟨⟨y,u,t,s,r⟩,q⟩,c⟩:=Gk g;clear g d;go_wp2_with (go_at_call 156;refine(XV _ _).mono ?_;rintro e n ⟨rfl,rfl⟩)
 all_goals
  go_ret
  refine⟨?_,by repeat (first|exact c|refine bset ?_)⟩
  first|(simp_all[Qr,Qn];done)|(simp_all[Qr,Qn];intros;omega)
theorem igood_m1 (op a b v:Int)(l:List Int)(k:Option Ad)(j:Nat)(w:J)(f:Qi (Qa op)=-1)(hv:0<=v):Ec Q 243 #[inV ⟨op,a,b,v,l⟩ k j] w λe w'=>e=Z (G (Qr (-1) ⟨op,a,b,v,l⟩))/\Bw w.heap.size w w':=by
 have d:=Hm (QK op);rw[f]at d;clear f;go_enter func243,ntmps243;go_wp2_with fail
 go_region
 go_wp2_with fail
 refine(d.o _).mono ?_;rintro e m ⟨rfl,g⟩;obtain⟨⟨⟨C,B,A,z,y⟩,u⟩,⟨⟨t,s,r,q,p⟩,n⟩,c⟩:=Gk g;clear g d;go_wp2
 all_goals
  go_ret
  refine⟨?_,by repeat (first|exact c|refine bset ?_)⟩
  first|(simp_all[Qr,Qn];done)|(simp_all[Qr,Qn];intros;omega)
theorem igood_5 (op a b v:Int)(l:List Int)(k:Option Ad)(j:Nat)(w:J)(f:Qi (Qa op)=5)(hv:0<=v):Ec Q 243 #[inV ⟨op,a,b,v,l⟩ k j] w λe w'=>e=Z (G (Qr (5) ⟨op,a,b,v,l⟩))/\Bw w.heap.size w w':=by
 have m:=XY l;have d:=Hm (QK op);rw[f]at d;clear f;go_enter func243,ntmps243;go_wp2_with fail
 go_region
 go_wp2_with fail
 refine(d.o _).mono ?_;rintro e p ⟨rfl,g⟩;obtain⟨⟨⟨E,D,C,B,A⟩,z⟩,⟨⟨y,u,t,s,r⟩,q⟩,c⟩:=Gk g;clear g d;go_wp2_with (go_at_call 156;refine(XV _ _).mono ?_;rintro e n ⟨rfl,rfl⟩)
 all_goals
  go_ret
  refine⟨?_,by repeat (first|exact c|refine bset ?_)⟩
  first|(simp_all[Qr,Qn];done)|(simp_all[Qr,Qn];intros;omega)
theorem igood_7 (op a b v:Int)(l:List Int)(k:Option Ad)(j:Nat)(w:J)(f:Qi (Qa op)=7)(hv:0<=v):Ec Q 243 #[inV ⟨op,a,b,v,l⟩ k j] w λe w'=>e=Z (G (Qr (7) ⟨op,a,b,v,l⟩))/\Bw w.heap.size w w':=by
 have m:=XY l;have d:=Hm (QK op);rw[f]at d;clear f;go_enter func243,ntmps243;go_wp2_with fail
 go_region
 go_wp2_with fail
 refine(d.o _).mono ?_;rintro e n ⟨rfl,g⟩;obtain⟨⟨⟨D,C,B,A,z⟩,y⟩,⟨⟨u,t,s,r,q⟩,p⟩,c⟩:=Gk g;clear g d;go_wp2
 all_goals
  go_ret
  refine⟨?_,by repeat (first|exact c|refine bset ?_)⟩
  first|(simp_all[Qr,Qn];done)|(simp_all[Qr,Qn];intros;omega)
theorem igood_9 (op a b v:Int)(l:List Int)(k:Option Ad)(j:Nat)(w:J)(f:Qi (Qa op)=9)(hv:0<=v):Ec Q 243 #[inV ⟨op,a,b,v,l⟩ k j] w λe w'=>e=Z (G (Qr (9) ⟨op,a,b,v,l⟩))/\Bw w.heap.size w w':=by
 have m:=XY l;have d:=Hm (QK op);rw[f]at d;clear f;go_enter func243,ntmps243;go_wp2_with fail
 go_region
 go_wp2_with fail
 refine(d.o _).mono ?_;rintro e n ⟨rfl,g⟩;obtain⟨⟨⟨D,C,B,A,z⟩,y⟩,⟨⟨u,t,s,r,q⟩,p⟩,c⟩:=Gk g;clear g d;go_wp2
 all_goals
  go_ret
  refine⟨?_,by repeat (first|exact c|refine bset ?_)⟩
  first|(simp_all[Qr,Qn];done)|(simp_all[Qr,Qn];intros;omega)
theorem igood_3 (op a b v:Int)(l:List Int)(la)(k:Nat)(w)(m:Qi (Qa op)=3)(hv:0<=v)(f:N l<=1099511627776)(p:Has w la l):Ec Q 243 #[inV ⟨op,a,b,v,l⟩ la k] w λe w'=>e=Z (G (Qr (3) ⟨op,a,b,v,l⟩))/\Bw w.heap.size w w':=by
 have g:=Hm (QK op);rw[m]at g;clear m;go_enter func243,ntmps243;go_wp2_with fail
 go_region
 go_wp2_with fail
 refine(g.o _).mono ?_;rintro e s ⟨rfl,n⟩;obtain⟨⟨⟨I,H,F,E,D⟩,C⟩,⟨⟨B,A,z,y,u⟩,t⟩,d⟩:=Gk n;clear n g;have q:=Hm (allAre_c la k l s f (p.keep d));generalize c:l.all Qz=al at q;have j:=Hm c;clear p c;go_wp2_with (first|(go_at_call 156;refine(XV _ _).mono ?_;rintro e r ⟨rfl,rfl⟩)|(go_at_call 155;refine(q.o).mono ?_;rintro e r ⟨rfl,rfl⟩))
 all_goals
  go_ret
  refine⟨?_,by repeat (first|exact d|refine bset ?_)⟩
  simp[Qr,j.o]
  try simp_all
def gd (x:In):Bool:=Qr (Qi (Qa x.op)) x
theorem form_range (op:Int):Qi (Qa op)=-1\/Qi (Qa op)=0\/Qi (Qa op)=1\/Qi (Qa op)=2\/Qi (Qa op)=3\/Qi (Qa op)=4\/Qi (Qa op)=5\/Qi (Qa op)=6\/Qi (Qa op)=7\/Qi (Qa op)=8\/Qi (Qa op)=9\/Qi (Qa op)=10:=by
 by_cases h:0<=op/\op<192
 . have e:=of_decide_eq_true (rng 0 192 (λi=>decide (-1<=Qi (tbl.getD i Z0)/\Qi (tbl.getD i Z0)<=10)) (by decide +kernel) op (by omega) (by omega));(have er:Qa op=tbl.getD op.toNat Z0:=by simp only[Qa,h,and_self,if_true]);rw[<- er]at e;omega
 have er:Qa op=Z0:=by simp only[Qa,h,if_false]
 rw[er];left;decide
theorem isIns_c (x:In)(la)(d:Nat)(w)(hv:0<=x.v)(f:N x.l<=1099511627776)(g:Has w la x.l):Ec Q 243 #[inV x la d] w λe w'=>e=Z (G (gd x))/\Bw w.heap.size w w':=by
 obtain⟨c,a,b,v,l⟩:=x;rcases form_range c with h|h|h|h|h|h|h|h|h|h|h|h
 . have:=igood_m1 c a b v l la d w h hv;simp only[gd,h];exact this
 . have:=igood_0 c a b v l la d w h hv;simp only[gd,h];exact this
 . have:=igood_1 c a b v l la d w h hv;simp only[gd,h];exact this
 . have:=igood_2 c a b v l la d w h hv;simp only[gd,h];exact this
 . have:=igood_3 c a b v l la d w h hv f g;simp only[gd,h];exact this
 . have:=igood_4 c a b v l la d w h hv;simp only[gd,h];exact this
 . have:=igood_5 c a b v l la d w h hv;simp only[gd,h];exact this
 . have:=igood_6 c a b v l la d w h hv;simp only[gd,h];exact this
 . have:=igood_7 c a b v l la d w h hv;simp only[gd,h];exact this
 . have:=igood_8 c a b v l la d w h hv;simp only[gd,h];exact this
 . have:=igood_9 c a b v l la d w h hv;simp only[gd,h];exact this
 have:=igood_10 c a b v l la d w h hv;simp only[gd,h];exact this
def goM:List Bool->List In->Bool
 |n,[]=>n.isEmpty
 |n,x::xs=>if gd x then(match QB n x.op with|none=>false|some n'=>goM n' xs)else false
def QF (xs:List In):Bool:=goM [false] xs
theorem stepM_len {n a:List Bool}{op:Int}(h:QB n op=some a):N a<=N n+1:=by
 unfold QB at h;split at h
 . cases h
 split at h
 . cases h;simp
 split at h
 . cases h;simp
 split at h
 . split at h
   . cases h;simp
   cases h
 split at h
 . cases h;simp;omega
 cases h;omega
theorem JP (xs:List In)(k:Nat)(h:k<N xs):xs.drop k=xs.getD k I0::xs.drop (k+1):=by
 rw[List.drop_eq_getElem_cons h];simp[Kx,Kj h]
theorem Ne.keep {B g:Nat}{v:Vu}{n:List Bool}{w w1:J}(h:Ne B g v n w)(a:Bw w.heap.size w w1):Ne B g v n w1:=by
 refine⟨(a.cell (p:=⟨g,0,none⟩) h.lt).trans h.cell,(a.frozen (p:=⟨g,0,none⟩) h.lt).trans h.froz,?_,h.ne,h.ge,Nat.lt_of_lt_of_le h.lt a.size⟩;refine⟨h.own.1,?_⟩;rcases h.own.2 with k|⟨d,cap,b,f,j,c,r⟩
 . exact .inl k
 exact .inr ⟨d,cap,b,f,j,(a.block d (Array.getElem?_eq_some_iff.1 c).1).trans c,r⟩
theorem nestNew_c (w:J):Ec Q 242 #[] w λe w'=>e=Z (S (some ⟨w.heap.size,0,none⟩) 1 1)/\w'=w.alloc (Fc #[G false] 4):=by
 go_enter func242,ntmps242;go_wp2;go_ret;exact⟨rfl,rfl⟩
theorem ne_start (w:J):Ne w.heap.size (w.heap.size+1) (S (some ⟨w.heap.size,0,none⟩) 1 1) [false] ((w.alloc (Fc #[G false] 4)).alloc (Fc #[S (some ⟨w.heap.size,0,none⟩) 1 1] 336)):=by
 have e:(w.alloc (Fc #[G false] 4)).heap.size=w.heap.size+1:=by simp
 refine⟨Qe e.symm rfl,by rw[<- e];exact World.frozen?_alloc_new _ _ _ _,?_,by simp[Value.ownBlock],by omega,by simp⟩;exact(World.ownsRow_lit (base:=w.heap.size) (e:=4) (size:=1) w #[G false] 1 lRz (by unfold maxLen;omega) rfl).alloc _
theorem iclosed_c (a:Option Ad)(c:Nat)(xs:List In)(w:J)(hn:N xs<=1048576)(hl:∀i,i<N xs->(xs.getD i I0).l.length<=1048576)(hv:∀i,0<=(xs.getD i I0).v)(hL:Lst w a xs):Ec Q 205 #[S a (N xs) c] w λe w'=>e=Z (G (QF xs))/\Bw w.heap.size w w':=by
 have HL:=Hm hL;have X:=Hm hl;have V:=Hm hv;clear hL hl hv;have HS:=Hm (ne_start w);have H0:=Hm (nestNew_c w);go_enter func205,ntmps205;go_wp2_with fail
 refine H0.o.mono ?_;rintro e w1 ⟨rfl,rfl⟩;go_wp2_with fail
 go_loopw [9] (λi wr=>∃(k:Nat) (n:List Bool) (v:Vu),k<=N xs/\i=U O k/\Ne w.heap.size (w.heap.size+1) v n wr/\Bw w.heap.size w wr/\QF xs=goM n (xs.drop k)/\N n<=k+1) (λi _=>N xs-(intOf i).toNat)
 case atStart=>exact⟨0,[false],_,Nat.zero_le _,rfl,HS.o,(bFz.alloc lRz _).alloc (by simp) _,rfl,by simp⟩
 obtain⟨k,n,v,hk,rfl,u,D,s,au⟩:=hrel;clear HS H0;by_cases m:k<N xs
 . (have av:(k:Int)<(N xs:Int):=by omega);rcases HL.o.keep D with C|⟨b,o,ea,hc⟩
   . subst C;simp at m
   obtain⟨la,lc,c0,c1,c2,c3,c4,M⟩:=hc k m;subst ea;rw[JP xs k m]at s;have I:=X.o k m;have y:=V.o k;obtain⟨x,C⟩:∃x,x=xs.getD k I0:=⟨_,rfl⟩;rw[<- C]at c0 c1 c2 c3 c4 M s I y;have R:Bw wr.heap.size wr (wr.alloc (Fc #[U O x.op,U O x.a,U O x.b,U Ou x.v,S la (N x.l) lc] 85)):=bFz.alloc lRz _;have HI:=Hm (isIns_c x la lc _ y (by omega) (M.keep R));have NE:=Hm u;have F:=Hm D;have t:=Hm s;have A:=Hm R;clear C hc M u D s R HL X V;generalize L:gd x=gx at *;cases gx
   . (go_wp2_with fail);refine HI.o.mono ?_;rintro e q ⟨rfl,d⟩;have g:Bw w.heap.size w q:=F.o.trans ((A.o.trans (d.mono (by simp))).mono F.o.size);clear d;go_wp2;go_ret;exact⟨by rw[t.o];simp[goM,L],g⟩
   (go_wp2_with fail);refine HI.o.mono ?_;rintro e q ⟨rfl,d⟩;have g:Bw wr.heap.size wr q:=A.o.trans (d.mono (by simp));have z:Bw w.heap.size w q:=F.o.trans (g.mono F.o.size);(have d0:q.cell? ⟨wr.heap.size,0,none⟩=some (U O x.op):=by rw[d.cell (p:=⟨wr.heap.size,0,none⟩) (by simp)];exact Qe rfl rfl);have E:=Hm (step_c _ _ v n x.op q (NE.o.keep g) (by omega));have B:=Hm z;clear d g z HI NE;cases hst:QB n x.op with
   |none =>
    rw[hst]at E
    go_wp2_with fail
    refine E.o.mono ?_
    rintro e w3 ⟨v',rfl,j,f⟩;have r:=B.o.trans (f.mono lRz);clear j f
    go_wp2
    go_ret
    exact⟨by rw[t.o];simp[goM,L,hst],r⟩
   |some n' =>
    rw[hst]at E;have ae:=stepM_len hst
    go_wp2_with fail
    refine E.o.mono ?_
    rintro e w3 ⟨v',rfl,j,f⟩;have r:=Hm (B.o.trans (f.mono lRz));have H:=Hm (j n' rfl)
    have Y:Hid (QF xs=goM n' (xs.drop (k+1))):=by
     show QF xs=_
     rw[t.o];simp[goM,L,hst]
    clear j f hst
    go_wp2
    go_roundw
    case rel=>exact⟨k+1,n',v',by omega,by go_num,H.o,r.o,Y.o,by omega⟩
    case measure=>simp[intOf];omega
 have e:k=N xs:=by omega
 subst e;obtain⟨va,vc,rfl⟩:=QH u.own;have c0:=u.cell;have HC:=Hm (Gj va (N n) vc);have t:Hid (QF xs=decide (N n=0)):=by show QF xs=_;rw[s,List.drop_of_length_le lRz];cases n<;>simp[goM]
 clear s u HL X V;generalize decide (N n=0)=dd at HC t;go_wp2_with fail
 refine(HC.o _).mono ?_;rintro e q ⟨rfl,rfl⟩;go_wp2;go_ret;exact⟨by rw[t.o];rfl,D⟩
