import Derived.Test.YtejkdbnngphgaaaGreatDoorGao
import Derived.Test.YtejkdbnngphgaaaGreatDoorGaq
set_option linter.all false
set_option maxHeartbeats 400000000
set_option maxRecDepth 100000
namespace Go.Proofs
open Value renaming int->U,slice->S,bool->G,string->Xs
open IntKind renaming i64->O,u64->Ou
open Ending renaming returned->Z
open Go renaming World->J,Calls->Ec,Value->Vu
open Tryz renaming prog->Q
open Tryz
open Nat renaming pow_succ->Pn,pow_le_pow_right->Pp
open List renaming dropLast_concat_getLast->Mv,drop_zero->Rh,drop_of_length_le->Mf,map_append->Rb,map_cons->Mm,map_nil->Rm,length->N
open IntKind renaming wrap_i64->Kw,wrap_u64->Kn
namespace YtejkdbnngphgaaaGreatDoor.Yz
open Go.RowKit Go.Sort
attribute [-go_sem] run_index_string
def nib (c:UInt8):Option Nat:=(List.range 16).find? λi=>hx i==c
theorem nib_hx (d:Nat)(h:d<16):nib (hx d)=some d:=by
 have:∀i:Fin 16,nib (hx i.val)=some i.val:=by decide
 exact this ⟨d,h⟩
theorem nib_some {c:UInt8}{d:Nat}(h:nib c=some d):d<16/\hx d=c:=by
 have b:=List.find?_some h;have a:=List.mem_of_find?_eq_some h;exact⟨by simpa using a,by simpa using b⟩
theorem nib_none {c:UInt8}(h:∀i,i<16->hx i≠c):nib c=none:=by
 unfold nib;rw[List.find?_eq_none];intro i a;simp at a⊢;exact h i a
def Xu:Nat->Wd->Option Nat
 |n,[]=>some n
 |n,c::r=>match nib c with
  |none=>none
  |some d=>Xu (n*16+d) r
theorem hexV_snoc:∀(l:Wd) (n:Nat) (c:UInt8),Xu n (l++[c])=(Xu n l).bind λm=>(nib c).map λd=>m*16+d
 |[],n,c=>by simp only[List.nil_append,Xu];cases nib c<;>rfl
 |a::l,n,c=>by
  simp only[List.cons_append,Xu]
  cases nib a with
  |none=>rfl
  |some d=>exact hexV_snoc l (n*16+d) c
theorem hexV_N:∀(n u:Nat),u<16 ^ n->Xu 0 (JG n u)=some u
 |0,u,h=>by simp at h;subst h;rfl
 |n+1,u,h=>by
  rw[JG,hexV_snoc,hexV_N n (u / 16) (by rw[Pn]at h;omega),nib_hx _ (by omega)]
  simp;omega
theorem hexV_back (l:Wd):∀u,Xu 0 l=some u->u<16 ^ (N l)/\JG (N l) u=l:=by
 induction h:N l generalizing l with
 |zero =>
  intro u a
  have:l=[]:=List.eq_nil_of_length_eq_zero h
  subst this
  simp[Xu]at a
  subst a
  exact⟨by simp,rfl⟩
 |succ n ih =>
  intro u a
  have f:l≠[]:=by rintro rfl;simp at h
  obtain⟨c,b,rfl⟩:∃c b,l=c++[b]:=⟨l.dropLast,l.getLast f,(Mv f).symm⟩;have g:N c=n:=by simpa using h
  rw[hexV_snoc]at a
  cases hm:Xu 0 c with
  |none=>rw[hm]at a;cases a
  |some m =>
   cases hd:nib b with
   |none=>rw[hm,hd]at a;cases a
   |some d =>
    rw[hm,hd]at a
    simp at a
    obtain⟨o,j⟩:=nib_some hd;obtain⟨p,k⟩:=ih c g m hm
    refine⟨by rw[Pn];omega,?_⟩
    rw[JG,<- a,show(m*16+d) / 16=m by omega,show(m*16+d)%16=d by omega,k,j]
theorem dgI_hx (d:Nat)(h:d<16):dgI (hx d)=some d:=by
 have:∀i:Fin 16,dgI (hx i.val)=some i.val:=by decide +kernel
 exact this ⟨d,h⟩
theorem hexV_ge:∀(l:Wd) (n m:Nat),Xu n l=some m->n<=m
 |[],n,m,h=>by simp[Xu]at h;omega
 |c::l,n,m,h=>by
  simp only[Xu]at h
  cases hd:nib c with
  |none=>rw[hd]at h;cases h
  |some d =>
   rw[hd]at h
   have:=hexV_ge l _ m h
   omega
theorem pu_hexV (a:Nat)(b:a<=18446744073709551615):∀(l:Wd) (n m:Nat),Xu n l=some m->m<=a->pu a n l=some m
 |[],n,m,h,_=>by simpa[Xu,pu]using h
 |c::l,n,m,h,hm=>by
  simp only[Xu]at h
  cases hd:nib c with
  |none=>rw[hd]at h;cases h
  |some d =>
   rw[hd]at h;have k:=hexV_ge l _ m h;obtain⟨g,f⟩:=nib_some hd;have j:=pu_hexV a b l _ m h hm
   simp only[pu]
   rw[<- f,dgI_hx d g]
   simp only
   rw[if_neg (by omega),if_neg (by omega)]
   exact j
def Xv (n:Nat)(s:Wd):Option Nat:=if(N s)=n+2/\s.take 2=[48,120]then Xu 0 (s.drop 2)else none
theorem XW (n:Nat)(s:Wd)(u:Nat):Xv n s=some u ↔ (u<16 ^ n/\Jj n u=s):=by
 constructor
 . intro h;unfold Xv at h;split at h
   . rename_i hc;obtain⟨a,b⟩:=hexV_back _ u h;(have c:(s.drop 2).length=n:=by simp;omega);rw[c]at a b;refine⟨a,?_⟩;rw[Jj,b,<- hc.2,List.take_append_drop]
   cases h
 rintro⟨a,rfl⟩;unfold Xv Jj;rw[if_pos ⟨by simp[XK],rfl⟩];exact hexV_N n u a
theorem okB_iff (n a:Nat)(s:Wd)(g:a+1=16 ^ n)(k:1<=n)(d:a<=18446744073709551615):okB n a s=(Xv n s).isSome:=by
 cases hb:Xv n s with
 |some u =>
  obtain⟨j,f⟩:=(XW n s u).1 hb
  have ht:Lib.trimPrefix s [48,120]=JG n u:=by
   rw[<- f]
   simp[Jj,Lib.trimPrefix,Lib.hasPrefix]
  have c:JG n u≠[]:=by intro e;have:=XK n u;rw[e]at this;simp at this;omega
  have b:puW a (JG n u)=some u:=by
   unfold puW;rw[if_neg c]
   exact pu_hexV a d _ 0 u (hexV_N n u j) (by omega)
  unfold okB;rw[ht,b]
  simp[f]
 |none =>
  cases ho:okB n a s with
  |false=>rfl
  |true =>
   exfalso
   unfold okB at ho
   cases b:puW a (Lib.trimPrefix s [48,120])with
   |none=>rw[b]at ho;cases ho
   |some u =>
    rw[b]at ho
    simp at ho
    have:=(XW n s u).2 ⟨by have:=puW_le b;omega,ho⟩
    rw[hb]at this;cases this
def nibI (c:UInt8):Int:=match nib c with|some d=>(d:Int)|none=>-1
theorem Xd {c:UInt8}{d:Nat}(h:nib c=some d):nibI c=d:=by unfold nibI;rw[h]
theorem nibI_none {c:UInt8}(h:nib c=none):nibI c=-1:=by unfold nibI;rw[h]
theorem snib_c (c:UInt8)(w:J):Ec Q 139 #[U .u8 (c.toNat:Int)] w λe w'=>e=Z (U O (nibI c))/\w=w':=by
 go_enter func139,ntmps139;go_wp2;go_loop [3] (λvi=>∃k:Nat,k<=16/\vi=U O (k:Int)/\Hid (∀j,j<k->hx j≠c)) (λvi=>16-(intOf vi).toNat)
 case atStart=>exact⟨0,by omega,rfl,λj h=>by omega⟩
 obtain⟨k,r,rfl,g⟩:=hrel;by_cases a:k<16
 . (have l:(k:Int)<16:=by omega);(have f:IntKind.u8.wrap (k:Int)=(k:Int):=by rw[IntKind.wrap_u8];omega);(have q:IntKind.i64.wrap ((k:Int)+1)=(k:Int)+1:=by rw[Kw];omega);have K:=Hm (JU k w (by omega));rw[Nat.mod_eq_of_lt a]at K;by_cases b:hx k=c
   . have d:=Hm (Xd (show nib c=some k by rw[<- b];exact nib_hx k a));(have m:(((hx k).toNat:Int)==(c.toNat:Int))=true:=by rw[b];simp);(go_wp2_with fail);refine K.o.mono ?_;rintro e f ⟨rfl,rfl⟩;go_wp2;go_ret;exact⟨by rw[d.o];rfl,rfl⟩
   have m:(((hx k).toNat:Int)==(c.toNat:Int))=false:=u8_ne b;have p:Hid (∀j,j<k+1->hx j≠c):=λj hj=>by
    by_cases e:j=k
    . subst e;exact b
    exact g.o j (by omega)
   (go_wp2_with fail);refine K.o.mono ?_;rintro e f ⟨rfl,rfl⟩;go_wp2;exact⟨⟨k+1,by omega,(by first|rfl|(congr 1;omega)),p⟩,by simp[intOf];omega⟩
 have n:k=16:=by omega
 subst n;have d:=Hm (nibI_none (nib_none (λi hi=>g.o i hi)));go_wp2;go_ret;exact⟨by rw[d.o];rfl,rfl⟩
end YtejkdbnngphgaaaGreatDoor.Yz
namespace YtejkdbnngphgaaaGreatDoor.Yz
open Go.RowKit Go.Sort
attribute [-go_sem] run_index_string
def P2 (n:Int):Int:=2 ^ n.toNat
theorem P2_pos (n:Int):1<=P2 n:=by unfold P2;have:=Int.pow_pos (n:=(2:Int)) (m:=n.toNat) (by omega);omega
theorem P2_succ (n:Int)(h:0<=n):P2 (n+1)=2*P2 n:=by
 unfold P2;rw[show(n+1).toNat=n.toNat+1 by omega,Int.pow_succ];omega
theorem P2_le {m n:Int}(b:m<=n):P2 m<=P2 n:=by
 unfold P2;have h:2 ^ m.toNat<=2 ^ n.toNat:=Pp (by omega) (by omega);have a:((2 ^ m.toNat:Nat):Int)<=((2 ^ n.toNat:Nat):Int):=by omega
 simpa using a
theorem P2_62 {n:Int}(h:n<=62):P2 n<=4611686018427387904:=by
 have:=P2_le h;rw[show P2 62=4611686018427387904 by decide]at this;exact this
theorem pow_any (n:Int)(w:J)(c:0<=n)(h1:n<=63):Ec Q 192 #[U O n] w λe w'=>e=Z (U Ou (P2 n))/\w=w':=by
 go_enter func192,ntmps192;go_wp2;go_loop [3,4] (λx i=>∃k:Int,0<=k/\k<=n/\i=U O k/\x=U Ou (P2 k)) (λ_ i=>(n-intOf i).toNat)
 case atStart=>exact⟨0,by omega,c,rfl,rfl⟩
 obtain⟨k,a,g,rfl,rfl⟩:=hrel;have f:=P2_pos k;by_cases b:k<n
 . have j:=P2_62 (n:=k) (by omega);have d:Hid (P2 (k+1)=2*P2 k):=P2_succ k a;go_wp2;(go_round);(case rel=>exact⟨k+1,by omega,by omega,rfl,by rw[d.o,Int.mul_comm]⟩);case measure=>simp[intOf];omega
 have e:k=n:=by omega
 subst e;go_wp2;go_ret;exact⟨rfl,rfl⟩
theorem low_c (x:Int)(w:J)(a:0<=x)(h1:x<=18446744073709551615):Ec Q 145 #[U Ou x,U O 32] w λe w'=>e=Z (U Ou (x%4294967296))/\w=w':=by
 have K:=Hm (pow_any 32 w (by omega) (by omega));rw[show P2 32=4294967296 by decide]at K;have c:Int.tmod x 4294967296=x%4294967296:=Int.tmod_eq_emod_of_nonneg a;go_enter func145,ntmps145;go_wp2_with fail
 refine K.o.mono ?_;rintro e b ⟨rfl,rfl⟩;go_wp2;go_ret;exact⟨rfl,rfl⟩
def CoP (ok:Bool)(V:Int->Prop)(w:J)(e:Ending)(w':J):Prop:=w=w'/\∃x:Int,e=Z (.tuple #[U Ou x,G ok])/\(ok=true->V x)
theorem con65_c (s:Wd)(w:J)(hl:N s<=1099511627776):Ec Q 79 #[U O 65,Xs (Sz0 s)] w (CoP (okN (-2147483648) 2147483647 s) (λx=>∃v,okP s=some v/\x=v%4294967296) w):=by
 have K:=Hm (snum_c 10 true s w (by omega) hl);obtain⟨f,d⟩:=okN_num (lo:=-2147483648) (hi:=2147483647) (most:=10) (sg:=true) (s:=s) (by omega) (by omega) (λv a b=>by omega) (by omega) (λh=>by cases h);rw[f];generalize XU 10 true s=o at *;cases o with
 |none =>
  have g:=Hm (λx a b=>low_c x w a b);clear f d hl
  go_enter func79,ntmps79
  go_wp2_with fail
  refine K.o.mono ?_
  rintro e c ⟨rfl,x,rfl,-⟩
  go_wp2_with fail
  refine(g.o _ (by rw[Kn];omega) (by rw[Kn];omega)).mono ?_
  rintro e c ⟨rfl,rfl⟩
  go_wp2
  go_ret2
  exact⟨rfl,_,rfl,λh=>by cases h⟩
 |some v =>
  have j:=Hm (d v rfl);have m:=Hm (in_c v (-2147483648) 2147483647 w);have g:=Hm (low_c (IntKind.u64.wrap v) w (by rw[Kn];omega) (by rw[Kn];omega));have k:Hid (IntKind.u64.wrap v%4294967296=v%4294967296):=by show _=_;rw[Kn];omega
  clear f d hl
  go_enter func79,ntmps79
  go_wp2_with fail
  refine K.o.mono ?_
  rintro e c ⟨rfl,x,rfl,hx⟩;have l:=hx v rfl;subst l;clear hx
  go_wp2_with fail
  refine g.o.mono ?_
  rintro e c ⟨rfl,rfl⟩
  go_wp2_with fail
  refine m.o.mono ?_
  rintro e c ⟨rfl,rfl⟩
  go_wp2
  go_ret2
  exact⟨rfl,_,rfl,λ_=>⟨x,j.o,k.o⟩⟩
theorem con66_c (s:Wd)(w:J)(hl:N s<=1099511627776):Ec Q 79 #[U O 66,Xs (Sz0 s)] w (CoP (okN (-9223372036854775808) 9223372036854775807 s) (λx=>∃v,okP s=some v/\x=v%18446744073709551616) w):=by
 have K:=Hm (snum_c 19 true s w (by omega) hl);obtain⟨f,d⟩:=okN_num (lo:=-9223372036854775808) (hi:=9223372036854775807) (most:=19) (sg:=true) (s:=s) (by omega) (by omega) (λv a b=>by omega) (by omega) (λh=>by cases h);have c:okN (-9223372036854775808) 9223372036854775807 s=(XU 19 true s).isSome:=by
  rw[f];cases hn:XU 19 true s with
  |none=>rfl
  |some v =>
   obtain⟨_,j,g,_⟩:=numM_some hn
   simp[j,g]
 rw[c];have l:=Hm d;clear f d c hl;generalize XU 19 true s=o at *;go_enter func79,ntmps79;go_wp2_with fail
 refine K.o.mono ?_;rintro e m ⟨rfl,x,rfl,hx⟩;have k:=Hm hx;clear hx;go_wp2;go_ret2
 refine⟨rfl,_,rfl,λh=>?_⟩;obtain⟨v,hv⟩:=Option.isSome_iff_exists.1 h;have e:=k.o v hv;exact⟨v,l.o v hv,by rw[e,Kn]⟩
theorem p16 {k a:Nat}(h:a<16 ^ k)(b:k<=15):a<1152921504606846976:=Nat.lt_of_lt_of_le h (Nat.le_trans (Pp (by omega) b) (by decide))
theorem conX:(∀(s:Wd) (w:J) (hl:N s<=1099511627776),Ec Q 79 #[U O 67,Xs (Sz0 s)] w (CoP ((Xv 8 s).isSome) (λx=>∃u:Nat,Xv 8 s=some u/\x=u) w))/\(∀(s:Wd) (w:J) (hl:N s<=1099511627776),Ec Q 79 #[U O 68,Xs (Sz0 s)] w (CoP ((Xv 16 s).isSome) (λx=>∃u:Nat,Xv 16 s=some u/\x=u) w)):=by
 refine⟨?c0,?c1⟩;case' c0=>have a:=0
 case' c1=>have D:=0
 all_goals
  intro s w hl
  have V:(Sz0 s).size=N s:=QJ s
  first|(replace a:=a;by_cases p:N s=10)|(by_cases p:N s=18)
  . first|(replace a:=a;have z:(N s:Int)=10:=by omega)|(have z:(N s:Int)=18:=by omega)
    by_cases m:s.take 2=[48,120]
    . have E:(((Sz0 s).extract 0 2).toList==[48,120])=true:=by
        rw[XX,Rh,ByteArray.toList_eq,QB];simpa using m
      first|(replace a:=a;have v:Hid (Xv 8 s=Xu 0 (s.drop 2)):=by show _=_;unfold Xv;rw[if_pos ⟨p,m⟩])|(have v:Hid (Xv 16 s=Xu 0 (s.drop 2)):=by show _=_;unfold Xv;rw[if_pos ⟨p,m⟩])
      clear m
      go_enter func79,ntmps79
      go_upto_region 15 with fail
      first|(replace a:=a;go_loop [11,12] (λvx vi=>∃j c:Nat,vx=U Ou (c:Int)/\vi=U O ((j:Int)+2)/\j<=8/\Hid (c<16 ^ j/\Xu 0 (s.drop 2)=Xu c (s.drop (j+2)))) (λ_ vi=>10-(intOf vi).toNat))|(go_loop [11,12] (λvx vi=>∃j c:Nat,vx=U Ou (c:Int)/\vi=U O ((j:Int)+2)/\j<=16/\Hid (c<16 ^ j/\Xu 0 (s.drop 2)=Xu c (s.drop (j+2)))) (λ_ vi=>18-(intOf vi).toNat))
      case atStart=>exact⟨0,0,rfl,rfl,by omega,by simp,rfl⟩
      case round =>
       obtain⟨j,c,rfl,rfl,X,n⟩:=hrel
       first|(replace a:=a;by_cases A:j<8)|(by_cases A:j<16)
       . have q:(j:Int)+2<(N s:Int):=by omega
         have f:j+2<N s:=by omega
         have r:(Instr.index 9 (Xs (Sz0 s)) (U O ((j:Int)+2))).run Q w=.ok (U .u8 ((s.getD (j+2) 0).toNat:Int)) w:=by
          have:=Q4 s (j+2) w f
          simpa using this
         have g:s.drop (j+2)=s[j+2]'f::s.drop (j+2+1):=List.drop_eq_getElem_cons f;have l:s.getD (j+2) 0=s[j+2]'f:=by simp[List.getD,List.getElem?_eq_getElem f]
         have F:=p16 n.o.1 (by omega);have b:=n.o.2;rw[g]at b
         simp only[Xu]at b
         rw[l]at r;generalize s[j+2]'f=y at r b;have t:=Hm (snib_c y w)
         cases hdv:nib y with
         |none =>
          rw[hdv]at b;rw[nibI_none hdv]at t;have k:=Hm (v.o.trans b);clear b g l n hdv f
          go_wp2_with fail
          refine t.o.mono ?_
          rintro e C ⟨rfl,rfl⟩
          go_wp2
          go_ret2
          exact⟨rfl,0,by rw[k.o];rfl,λh=>by rw[k.o]at h;cases h⟩
         |some d =>
          rw[hdv]at b;rw[Xd hdv]at t;have Y:=(nib_some hdv).1;have H:Hid (c*16+d<16 ^ (j+1)/\Xu 0 (s.drop 2)=Xu (c*16+d) (s.drop (j+1+2))):=⟨by have:=n.o.1;rw[Pn];omega,by rw[b]⟩;clear b g l n hdv f;have R:IntKind.u64.wrap (d:Int)=(d:Int):=by rw[Kn];omega
          have M:IntKind.u64.wrap (16*(c:Int))=16*(c:Int):=by rw[Kn];omega
          have L:IntKind.u64.wrap (16*(c:Int)+(d:Int))=16*(c:Int)+(d:Int):=by rw[Kn];omega
          have I:IntKind.i64.wrap ((j:Int)+2+1)=(j:Int)+2+1:=by rw[Kw];omega
          go_wp2_with fail
          refine t.o.mono ?_
          rintro e C ⟨rfl,rfl⟩
          go_wp2
          exact⟨⟨j+1,c*16+d,(by first|rfl|(congr 1;omega)|congr 1),(by first|rfl|(congr 1;omega)|congr 1),by omega,H⟩,by simp[intOf];omega⟩
       . first|(replace a:=a;have B:j=8:=by omega)|(have B:j=16:=by omega)
         subst B;have b:=n.o.2
         first|(replace a:=a;rw[show s.drop (8+2)=[]from Mf (by omega)]at b)|(rw[show s.drop (16+2)=[]from Mf (by omega)]at b)
         first|(replace a:=a;have k:Hid (Xv 8 s=some c):=by show _=_;rw[v.o,b];rfl)|(have k:Hid (Xv 16 s=some c):=by show _=_;rw[v.o,b];rfl)
         first|(replace a:=a;have q:¬((8:Nat):Int)+2<(N s:Int):=by omega)|(have q:¬((16:Nat):Int)+2<(N s:Int):=by omega)
         clear b n
         go_wp2
         go_ret2
         exact⟨rfl,(c:Int),by rw[k.o];rfl,λ_=>⟨c,k.o,rfl⟩⟩
    . have E:(((Sz0 s).extract 0 2).toList==[48,120])=false:=by
        rw[XX,Rh,ByteArray.toList_eq,QB];simpa using m
      first|(replace a:=a;have k:Hid (Xv 8 s=none):=by show _=_;unfold Xv;rw[if_neg (λh=>m h.2)])|(have k:Hid (Xv 16 s=none):=by show _=_;unfold Xv;rw[if_neg (λh=>m h.2)])
      clear m
      go_enter func79,ntmps79
      go_wp2
      go_ret2
      exact⟨rfl,0,by rw[k.o];rfl,λh=>by rw[k.o]at h;cases h⟩
  . first|(replace a:=a;have z:¬(N s:Int)=10:=by omega)|(have z:¬(N s:Int)=18:=by omega)
    first|(replace a:=a;have k:Hid (Xv 8 s=none):=by show _=_;unfold Xv;rw[if_neg (λh=>p h.1)])|(have k:Hid (Xv 16 s=none):=by show _=_;unfold Xv;rw[if_neg (λh=>p h.1)])
    clear p
    go_enter func79,ntmps79
    go_wp2
    go_ret2
    exact⟨rfl,0,by rw[k.o];rfl,λh=>by rw[k.o]at h;cases h⟩
def con67_c:=conX.1
def con68_c:=conX.2
end YtejkdbnngphgaaaGreatDoor.Yz
namespace YtejkdbnngphgaaaGreatDoor
open Go.RowKit Go.Sort
theorem stepM_e (n m:List Bool)(z:Bool)(h:n=m++[z]):Q0 n 5=if z then some (m++[false])else none:=by
 subst h;cases z<;>simp[Q0]
theorem stepM_x (n m:List Bool)(z:Bool)(h:n=m++[z]):Q0 n 11=some m:=by
 subst h;simp[Q0]
def bi (b:Bool):Int:=if b then 1 else 0
def Ja (n:List Bool):List Int:=n.tail.map bi
def hdF (n:List Bool):Prop:=n=[]\/∃m,n=false::m
theorem ksOf_cons (m:List Bool):Ja (false::m)=m.map bi:=rfl
theorem sl {w:J}{B n:Nat}{v:Vu}{b:List Vu}(h:w.ownsRow B 2 1 v n b):∃va vn vc,v=S va vn vc:=by
 obtain⟨a,c,e⟩:=QL h;exact⟨a,_,c,e⟩
def Ans (n:List Bool)(op:Int)(kv':Vu)(dn bd:Bool)(B:Nat)(w':J):Prop:=(Q0 n op=none/\bd=true)\/∃n',Q0 n op=some n'/\hdF n'/\bd=false/\dn=n'.isEmpty/\w'.ownsRow B 2 1 kv' (Ja n').length (I (Ja n'))
theorem next_c (B:Nat)(f:Vu)(n:List Bool)(op:Int)(w:J)(g:B<=w.heap.size)(hl:N n<=4194304)(t:hdF n)(h:w.ownsRow B 2 1 f (Ja n).length (I (Ja n))):Ec Q 24 #[opV f n.isEmpty false,U O op] w λe w'=>∃va vn vc dn bd,e=Z (opV (S va vn vc) dn bd)/\Ans n op (S va vn vc) dn bd B w'/\Gd B f.ownBlock (S va vn vc) w w':=by
 refine Calls.mono (R:=λe w'=>∃kv' dn bd,e=Z (opV kv' dn bd)/\(∃va vn vc,kv'=S va vn vc)/\Ans n op kv' dn bd B w'/\Gd B f.ownBlock kv' w w') ?_ (λe w' ⟨kv',dn,bd,r,⟨va,vn,vc,p⟩,o,l⟩=>by subst p;exact⟨va,vn,vc,dn,bd,r,o,l⟩);rcases t with rfl|⟨m,rfl⟩
 . exact(next_done B f _ op w g h).mono λe w' ⟨va,vn,vc,a,b⟩=>⟨_,_,_,a,⟨va,vn,vc,rfl⟩,.inl ⟨by simp[Q0],rfl⟩,b⟩
 have d:N m<=4194304:=by simp at hl;omega
 rw[ksOf_cons]at h;show Ec Q 24 #[opV f false false,U O op] w _;by_cases r:op=2\/op=3
 . (have e:Q0 (false::m) op=some (false::(m++[false])):=by simp[Q0,r]);(have k:∀kv' (w':J),w'.ownsRow B 2 1 kv' (m.map bi++[0]).length (I (m.map bi++[0]))->w'.ownsRow B 2 1 kv' (Ja (false::(m++[false]))).length (I (Ja (false::(m++[false])))):=λkv' w' q=>by(have:Ja (false::(m++[false]))=m.map bi++[0]:=by simp[Ja,bi]);rw[this];exact q);rcases r with rfl|rfl
   . exact(next_2 B f _ w g (by simpa using d) h).mono λe' w' ⟨kv',a,b,c⟩=>⟨kv',_,_,a,sl b,.inr ⟨_,e,.inr ⟨_,rfl⟩,rfl,rfl,k kv' w' b⟩,c⟩
   exact(next_3 B f _ w g (by simpa using d) h).mono λe' w' ⟨kv',a,b,c⟩=>⟨kv',_,_,a,sl b,.inr ⟨_,e,.inr ⟨_,rfl⟩,rfl,rfl,k kv' w' b⟩,c⟩
 by_cases p:op=4
 . subst p;(have e:Q0 (false::m) 4=some (false::(m++[true])):=by simp[Q0]);refine(next_4 B f _ w g (by simpa using d) h).mono λe' w' ⟨kv',a,b,c⟩=>⟨kv',_,_,a,sl b,.inr ⟨_,e,.inr ⟨_,rfl⟩,rfl,rfl,?_⟩,c⟩;(have:Ja (false::(m++[true]))=m.map bi++[1]:=by simp[Ja,bi]);rw[this];exact b
 by_cases o:op=5
 . subst o;by_cases j:m=[]
   . subst j;exact(next_5n B f w g h).mono λe' w' ⟨va,vn,vc,a,b⟩=>⟨_,_,_,a,⟨va,vn,vc,rfl⟩,.inl ⟨by simp[Q0],rfl⟩,b⟩
   obtain⟨q,z,rfl⟩:∃q z,m=q++[z]:=⟨m.dropLast,m.getLast j,(Mv j).symm⟩;(have s:N q<=4194304:=by simp at d;omega);rw[Rb,Mm,Rm]at h;cases z
   . exact(next_5z B f _ _ w g (by simpa using s) rfl h).mono λe' w' ⟨va,vn,vc,a,b⟩=>⟨_,_,_,a,⟨va,vn,vc,rfl⟩,.inl ⟨stepM_e _ (false::q) false rfl,rfl⟩,b⟩
   have e:Q0 (false::(q++[true])) 5=some (false::(q++[false])):=stepM_e _ (false::q) true rfl;refine(next_5 B f _ _ w g (by simpa using s) (by decide) h).mono λe' w' ⟨kv',a,b,c⟩=>⟨kv',_,_,a,sl b,.inr ⟨_,e,.inr ⟨_,rfl⟩,rfl,rfl,?_⟩,c⟩;(have:Ja (false::(q++[false]))=q.map bi++[0]:=by simp[Ja,bi]);rw[this];exact b
 by_cases l:op=11
 . subst l;by_cases j:m=[]
   . subst j;(have e:Q0 [false] 11=some []:=by simp[Q0]);exact(next_11n B f w g h).mono λe' w' ⟨kv',a,b,c⟩=>⟨kv',_,_,a,sl b,.inr ⟨_,e,.inl rfl,rfl,rfl,b⟩,c⟩
   obtain⟨q,z,rfl⟩:∃q z,m=q++[z]:=⟨m.dropLast,m.getLast j,(Mv j).symm⟩;(have s:N q<=4194304:=by simp at d;omega);rw[Rb,Mm,Rm]at h;have e:Q0 (false::(q++[z])) 11=some (false::q):=stepM_x _ (false::q) z rfl;exact(next_11 B f _ _ w g (by simpa using s) h).mono λe' w' ⟨kv',a,b,c⟩=>⟨kv',_,_,a,sl b,.inr ⟨_,e,.inr ⟨_,rfl⟩,rfl,rfl,b⟩,c⟩
 have e:Q0 (false::m) op=some (false::m):=by simp only[Q0,r,p,o,l,if_false];simp
 exact(next_same B f _ op w g (by omega) (by omega) p o l h).mono λe' w' ⟨kv',a,b,c⟩=>⟨kv',_,_,a,sl b,.inr ⟨_,e,.inr ⟨_,rfl⟩,rfl,rfl,b⟩,c⟩
