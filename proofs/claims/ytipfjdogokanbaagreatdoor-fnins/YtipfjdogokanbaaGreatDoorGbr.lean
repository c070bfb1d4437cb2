import Derived.Test.YtipfjdogokanbaaGreatDoorGbq
import Derived.Test.YtipfjdogokanbaaGreatDoorGai
import Derived.Test.YtipfjdogokanbaaGreatDoorGaj
import Derived.Test.YtipfjdogokanbaaGreatDoorGaa
set_option linter.all false
set_option maxHeartbeats 400000000
set_option maxRecDepth 100000
set_option linter.all false
namespace Go.Proofs.YtipfjdogokanbaaGreatDoor.Yz
open Go.RowKit Go.Sort
attribute [-go_sem] run_index_string
theorem in_c (x lo hi:Int)(w:World):Calls Tryz.prog 35 #[.int .i64 x,.int .i64 lo,.int .i64 hi] w λe w'=>e=.returned (.bool (decide (lo<=x)&&decide (x<=hi)))/\w=w':=by
 by_cases h1:lo<=x
 . by_cases h2:x<=hi
   . go_enter Tryz.func35,Tryz.ntmps35
     go_wp2
     go_ret
     exact ⟨by simp [h1,h2],rfl⟩
   . go_enter Tryz.func35,Tryz.ntmps35
     go_wp2
     go_ret
     exact ⟨by simp [h1,h2],rfl⟩
 . go_enter Tryz.func35,Tryz.ntmps35
   go_wp2
   go_ret
   exact ⟨by rw [decide_eq_false (show ¬ lo<=x by omega)];rfl,rfl⟩
theorem isU_c (x:Int)(w:World):Calls Tryz.prog 62 #[.int .i64 x] w λe w'=>e=.returned (.bool (decide (0<=x)&&decide (x<=4294967295)))/\w=w':=by
 have K:=Hm (in_c x 0 4294967295 w)
 go_enter Tryz.func62,Tryz.ntmps62
 go_wp2_with fail
 refine K.o.mono ?_
 rintro e w1 ⟨rfl,rfl⟩
 go_wp2
 go_ret
 exact ⟨rfl,rfl⟩
theorem okN_num {lo hi:Int}{most:Nat}{sg:Bool}{s:Wd}(h0:-9223372036854775808<=lo)(h1:hi<=9223372036854775807)(hm:∀ v,lo<=v->v<=hi->v.natAbs<10 ^ most)(hm1:1<=most)(hs:sg=false->0<=lo) :
    okN lo hi s=(match Qp most sg s with|some v=>decide (lo<=v)&&decide (v<=hi)|none=>false)/\∀ v,Qp most sg s=some v->okP s=some v:=by
 cases hn:Qp most sg s with
|none =>
  refine ⟨?_,λv e=>by cases e⟩
  cases ho:okN lo hi s with
 |false=>rfl
 |true =>
   exfalso
   unfold okN at ho
   cases hp:okP s with
  |none=>rw [hp] at ho;cases ho
  |some v =>
    rw [hp] at ho
    simp at ho
    obtain ⟨a1,a2,a3⟩:=ho
    have:=numM_itoa (most:=most) (sg:=sg) (v:=v) (by omega) (by omega) (λe=>by have:=hs e;omega) (hm v a1 a2) hm1
    rw [a3,hn] at this
    cases this
|some v =>
  obtain ⟨e1,e2,e3,e4⟩:=numM_some hn;have hp:okP s=some v:=by rw [<- e1];exact okP_itoa v e2 e3
  refine ⟨?_,λu e=>by cases e;exact hp⟩
  unfold okN;rw [hp]
  simp [e1]
theorem su32_c (s:Wd)(w:World)(hl:s.length<=1099511627776) :
    Calls Tryz.prog 135 #[.string (S s)] w λe w'=>w=w'/\∃ x:Int,e=.returned (.tuple #[.int .i64 x,.bool (okN 0 4294967295 s)])/\(okN 0 4294967295 s=true->okP s=some x):=by
 have K:=Hm (snum_c 10 false s w (by omega) hl);obtain ⟨h1,h2⟩:=okN_num (lo:=0) (hi:=4294967295) (most:=10) (sg:=false) (s:=s) (by omega) (by omega) (λv a b=>by omega) (by omega) (λ_=>by omega);rw [h1];generalize Qp 10 false s=o at *
 cases o with
|none =>
  clear h1 h2 hl
  go_enter Tryz.func135,Tryz.ntmps135
  go_wp2_with fail
  refine K.o.mono ?_
  rintro e w1 ⟨rfl,x,rfl,-⟩
  go_wp2
  go_ret2
  exact ⟨rfl,x,rfl,λh=>by cases h⟩
|some v =>
  have hp:=Hm (h2 v rfl);have KU:=Hm (isU_c v w);clear h1 h2 hl
  go_enter Tryz.func135,Tryz.ntmps135
  go_wp2_with fail
  refine K.o.mono ?_
  rintro e w1 ⟨rfl,x,rfl,hx⟩;have ex:=hx v rfl;subst ex;clear hx
  go_wp2_with fail
  refine KU.o.mono ?_
  rintro e w1 ⟨rfl,rfl⟩
  go_wp2
  go_ret2
  exact ⟨rfl,x,rfl,λ_=>hp.o⟩
def tyOf (s:ByteArray):Int:=if s.size<3 then 0 else
 if (s.extract 0 3).data.toList=[105,51,50] then 127 else if (s.extract 0 3).data.toList=[105,54,52] then 126 else if (s.extract 0 3).data.toList=[102,51,50] then 125 else if (s.extract 0 3).data.toList=[102,54,52] then 124 else 0
theorem typeOf_c (s:ByteArray)(w:World):Calls Tryz.prog 134 #[.string s] w λe w'=>e=.returned (.int .i64 (tyOf s))/\w=w':=by
 by_cases h:s.size<3
 . have f1:(s.size:Int)<3:=by omega
   go_enter Tryz.func134,Tryz.ntmps134
   go_wp2
   go_ret
   exact ⟨by simp [tyOf,h],rfl⟩
 . have f1:¬ (s.size:Int)<3:=by omega
   go_enter Tryz.func134,Tryz.ntmps134
   go_wp2
   all_goals
    go_ret
    refine ⟨?_,rfl⟩
    simp only [ByteArray.toList_eq,beq_iff_eq,beq_eq_false_iff_ne,ne_eq] at *
    simp_all [tyOf]
theorem tyOf_len {s:Wd}(h:s.length=3):tyOf (S s)=tyN s:=by
 unfold tyOf tyN;rw [if_neg (by rw [Qn];omega),S_ext,QO,List.drop_zero,List.take_of_length_le (by omega)]
 rfl
theorem tyN_len {s:Wd}(h:s.length≠3):tyN s=0:=by
 unfold tyN
 have k:∀ i,(tyW i).length=3:=λi=>by
  unfold tyW
  split
  . rfl
  . split
    . rfl
    . split<;>rfl
 rw [if_neg (λe=>h (by rw [e];exact k 0)),if_neg (λe=>h (by rw [e];exact k 1)),if_neg (λe=>h (by rw [e];exact k 2)),if_neg (λe=>h (by rw [e];exact k 3))]
theorem sty_c (s:Wd)(w:World):Calls Tryz.prog 97 #[.string (S s)] w λe w'=>e=.returned (.tuple #[.int .i64 (tyN s),.bool (!(tyN s==0))])/\w=w':=by
 have hz:(S s).size=s.length:=Qn s
 by_cases h:s.length=3
 . have K:=Hm (typeOf_c (S s) w);rw [tyOf_len h] at K;have h1:((s.length:Int)==3)=true:=by simp;omega
   clear h;generalize tyN s=t at *
   go_enter Tryz.func97,Tryz.ntmps97
   go_wp2_with fail
   refine K.o.mono ?_
   rintro e w1 ⟨rfl,rfl⟩
   go_wp2
   go_ret2
   exact ⟨rfl,rfl⟩
 . have e0:=tyN_len h;have h1:((s.length:Int)==3)=false:=by simp;omega
   rw [e0];clear h e0
   go_enter Tryz.func97,Tryz.ntmps97
   go_wp2
   go_ret2
   exact ⟨rfl,rfl⟩
end Go.Proofs.YtipfjdogokanbaaGreatDoor.Yz
set_option linter.all false
namespace Go.Proofs.YtipfjdogokanbaaGreatDoor.Yz
open Go.RowKit Go.Sort
attribute [-go_sem] run_index_string
def nib (c:UInt8):Option Nat:=(List.range 16).find? λi=>hx i==c
theorem nib_hx (d:Nat)(h:d<16):nib (hx d)=some d:=by
 have:∀ i:Fin 16,nib (hx i.val)=some i.val:=by decide
 exact this ⟨d,h⟩
theorem nib_some {c:UInt8}{d:Nat}(h:nib c=some d):d<16/\hx d=c:=by
 have h1:=List.find?_some h;have h2:=List.mem_of_find?_eq_some h
 exact ⟨by simpa using h2,by simpa using h1⟩
theorem nib_none {c:UInt8}(h:∀ i,i<16->hx i≠c):nib c=none:=by
 unfold nib;rw [List.find?_eq_none]
 intro i hi
 simp at hi⊢
 exact h i hi
def J5:Nat->Wd->Option Nat
|n,[]=>some n
|n,c::r=>match nib c with
 |none=>none
 |some d=>J5 (n*16+d) r
theorem hexV_snoc:∀ (l:Wd) (n:Nat) (c:UInt8),J5 n (l++[c])=(J5 n l).bind λm=>(nib c).map λd=>m*16+d
|[],n,c=>by simp only [List.nil_append,J5];cases nib c<;>rfl
|a::l,n,c=>by
  simp only [List.cons_append,J5]
  cases nib a with
 |none=>rfl
 |some d=>exact hexV_snoc l (n*16+d) c
theorem hexV_N:∀ (n u:Nat),u<16 ^ n->J5 0 (Jo n u)=some u
|0,u,h=>by simp at h;subst h;rfl
|n+1,u,h=>by
  rw [Jo,hexV_snoc,hexV_N n (u / 16) (by rw [Nat.pow_succ] at h;omega),nib_hx _ (by omega)]
  simp;omega
theorem hexV_back (l:Wd):∀ u,J5 0 l=some u->u<16 ^ l.length/\Jo l.length u=l:=by
 induction h:l.length generalizing l with
|zero =>
  intro u hu
  have:l=[]:=List.eq_nil_of_length_eq_zero h
  subst this
  simp [J5] at hu
  subst hu
  exact ⟨by simp,rfl⟩
|succ n ih =>
  intro u hu
  have hne:l≠[]:=by rintro rfl;simp at h
  obtain ⟨l',b,rfl⟩:∃ l' b,l=l'++[b]:=⟨l.dropLast,l.getLast hne,(List.dropLast_concat_getLast hne).symm⟩;have hl':l'.length=n:=by simpa using h
  rw [hexV_snoc] at hu
  cases hm:J5 0 l' with
 |none=>rw [hm] at hu;cases hu
 |some m =>
   cases hd:nib b with
  |none=>rw [hm,hd] at hu;cases hu
  |some d =>
    rw [hm,hd] at hu
    simp at hu
    obtain ⟨k1,k2⟩:=nib_some hd;obtain ⟨j1,j2⟩:=ih l' hl' m hm
    refine ⟨by rw [Nat.pow_succ];omega,?_⟩
    rw [Jo,<- hu,show (m*16+d) / 16=m by omega,show (m*16+d)%16=d by omega,j2,k2]
theorem dgI_hx (d:Nat)(h:d<16):dgI (hx d)=some d:=by
 have:∀ i:Fin 16,dgI (hx i.val)=some i.val:=by decide +kernel
 exact this ⟨d,h⟩
theorem hexV_ge:∀ (l:Wd) (n m:Nat),J5 n l=some m->n<=m
|[],n,m,h=>by simp [J5] at h;omega
|c::l,n,m,h=>by
  simp only [J5] at h
  cases hd:nib c with
 |none=>rw [hd] at h;cases h
 |some d =>
   rw [hd] at h
   have:=hexV_ge l _ m h
   omega
theorem pu_hexV (mx:Nat)(hx':mx<=18446744073709551615):∀ (l:Wd) (n m:Nat),J5 n l=some m->m<=mx->pu mx n l=some m
|[],n,m,h,_=>by simpa [J5,pu] using h
|c::l,n,m,h,hm=>by
  simp only [J5] at h
  cases hd:nib c with
 |none=>rw [hd] at h;cases h
 |some d =>
   rw [hd] at h;have h1:=hexV_ge l _ m h;obtain ⟨k1,k2⟩:=nib_some hd;have h2:=pu_hexV mx hx' l _ m h hm
   simp only [pu]
   rw [<- k2,dgI_hx d k1]
   simp only
   rw [if_neg (by omega),if_neg (by omega)]
   exact h2
def Xp (n:Nat)(s:Wd):Option Nat:=if s.length=n+2/\s.take 2=[48,120] then J5 0 (s.drop 2) else none
theorem Xm (n:Nat)(s:Wd)(u:Nat):Xp n s=some u ↔ (u<16 ^ n/\QF n u=s):=by
 constructor
 . intro h
   unfold Xp at h
   split at h
   . rename_i hc
     obtain ⟨h1,h2⟩:=hexV_back _ u h;have hl:(s.drop 2).length=n:=by simp;omega
     rw [hl] at h1 h2
     refine ⟨h1,?_⟩
     rw [QF,h2,<- hc.2,List.take_append_drop]
   . cases h
 . rintro ⟨h1,rfl⟩;unfold Xp QF;rw [if_pos ⟨by simp [Jw],rfl⟩]
   exact hexV_N n u h1
theorem okB_iff (n mx:Nat)(s:Wd)(hmx:mx+1=16 ^ n)(hn:1<=n)(h64:mx<=18446744073709551615):okB n mx s=(Xp n s).isSome:=by
 cases hb:Xp n s with
|some u =>
  obtain ⟨h1,h2⟩:=(Xm n s u).1 hb
  have ht:Lib.trimPrefix s [48,120]=Jo n u:=by
   rw [<- h2]
   simp [QF,Lib.trimPrefix,Lib.hasPrefix]
  have hne:Jo n u≠[]:=by intro e;have:=Jw n u;rw [e] at this;simp at this;omega
  have hp:puW mx (Jo n u)=some u:=by
   unfold puW;rw [if_neg hne]
   exact pu_hexV mx h64 _ 0 u (hexV_N n u h1) (by omega)
  unfold okB;rw [ht,hp]
  simp [h2]
|none =>
  cases ho:okB n mx s with
 |false=>rfl
 |true =>
   exfalso
   unfold okB at ho
   cases hp:puW mx (Lib.trimPrefix s [48,120]) with
  |none=>rw [hp] at ho;cases ho
  |some u =>
    rw [hp] at ho
    simp at ho
    have:=(Xm n s u).2 ⟨by have:=puW_le hp;omega,ho⟩
    rw [hb] at this;cases this
def nibI (c:UInt8):Int:=match nib c with|some d=>(d:Int)|none=>-1
theorem nibI_some {c:UInt8}{d:Nat}(h:nib c=some d):nibI c=d:=by unfold nibI;rw [h]
theorem nibI_none {c:UInt8}(h:nib c=none):nibI c=-1:=by unfold nibI;rw [h]
theorem snib_c (c:UInt8)(w:World):Calls Tryz.prog 137 #[.int .u8 (c.toNat:Int)] w λe w'=>e=.returned (.int .i64 (nibI c))/\w=w':=by
 go_enter Tryz.func137,Tryz.ntmps137
 go_wp2
 go_loop [3] (λvi=>∃ k:Nat,k<=16/\vi=.int .i64 (k:Int)/\Hid (∀ j,j<k->hx j≠c)) (λvi=>16-(intOf vi).toNat)
 case atStart=>exact ⟨0,by omega,rfl,λj h=>by omega⟩
 case round =>
  obtain ⟨k,hk,rfl,hh⟩:=hrel
  by_cases hlt:k<16
  . have hki:(k:Int)<16:=by omega
    have w1:IntKind.u8.wrap (k:Int)=(k:Int):=by rw [IntKind.wrap_u8];omega
    have w2:IntKind.i64.wrap ((k:Int)+1)=(k:Int)+1:=by rw [IntKind.wrap_i64];omega
    have K:=Hm (sDigit_c k w (by omega));rw [Nat.mod_eq_of_lt hlt] at K
    by_cases he:hx k=c
    . have HR:=Hm (nibI_some (show nib c=some k by rw [<- he];exact nib_hx k hlt));have h1:(((hx k).toNat:Int)==(c.toNat:Int))=true:=by rw [he];simp
      go_wp2_with fail
      refine K.o.mono ?_
      rintro e w1 ⟨rfl,rfl⟩
      go_wp2
      go_ret
      exact ⟨by rw [HR.o];rfl,rfl⟩
    . have h1:(((hx k).toNat:Int)==(c.toNat:Int))=false:=u8_ne he
      have HH:Hid (∀ j,j<k+1->hx j≠c):=λj hj=>by
       by_cases e:j=k
       . subst e;exact he
       . exact hh.o j (by omega)
      go_wp2_with fail
      refine K.o.mono ?_
      rintro e w1 ⟨rfl,rfl⟩
      go_wp2
      exact ⟨⟨k+1,by omega,(by first|rfl|(congr 1;omega)),HH⟩,by simp [intOf];omega⟩
  . have ek:k=16:=by omega
    subst ek;have HR:=Hm (nibI_none (nib_none (λi hi=>hh.o i hi)))
    go_wp2
    go_ret
    exact ⟨by rw [HR.o];rfl,rfl⟩
end Go.Proofs.YtipfjdogokanbaaGreatDoor.Yz
set_option linter.all false
namespace Go.Proofs.YtipfjdogokanbaaGreatDoor.Yz
open Go.RowKit Go.Sort
attribute [-go_sem] run_index_string
def P2 (n:Int):Int:=2 ^ n.toNat
theorem Q7 (n:Int):1<=P2 n:=by unfold P2;have:=Int.pow_pos (n:=(2:Int)) (m:=n.toNat) (by omega);omega
theorem Xx (n:Int)(h:0<=n):P2 (n+1)=2*P2 n:=by
 unfold P2;rw [show (n+1).toNat=n.toNat+1 by omega,Int.pow_succ];omega
theorem J4 {m n:Int}(h0:m<=n):P2 m<=P2 n:=by
 unfold P2;have h:2 ^ m.toNat<=2 ^ n.toNat:=Nat.pow_le_pow_right (by omega) (by omega);have h':((2 ^ m.toNat:Nat):Int)<=((2 ^ n.toNat:Nat):Int):=by omega
 simpa using h'
theorem P2_62 {n:Int}(h:n<=62):P2 n<=4611686018427387904:=by
 have:=J4 h;rw [show P2 62=4611686018427387904 by decide] at this;exact this
theorem Qm (n:Int)(w:World)(h0:0<=n)(h1:n<=63) :
    Calls Tryz.prog 101 #[.int .i64 n] w λe w'=>e=.returned (.int .u64 (P2 n))/\w=w':=by
 go_enter Tryz.func101,Tryz.ntmps101
 go_wp2
 go_loop [3,4] (λx i=>∃ k:Int,0<=k/\k<=n/\i=.int .i64 k/\x=.int .u64 (P2 k)) (λ_ i=>(n-intOf i).toNat)
 case atStart=>exact ⟨0,by omega,h0,rfl,rfl⟩
 case round =>
  obtain ⟨k,hk0,hk,rfl,rfl⟩:=hrel;have hp:=Q7 k
  by_cases hlt:k<n
  . have hb:=P2_62 (n:=k) (by omega);have HS:Hid (P2 (k+1)=2*P2 k):=Xx k hk0
    go_wp2
    go_round
    case rel=>exact ⟨k+1,by omega,by omega,rfl,by rw [HS.o,Int.mul_comm]⟩
    case measure=>simp [intOf];omega
  . have e:k=n:=by omega
    subst e
    go_wp2
    go_ret
    exact ⟨rfl,rfl⟩
theorem low_c (x:Int)(w:World)(h0:0<=x)(h1:x<=18446744073709551615) :
    Calls Tryz.prog 44 #[.int .u64 x,.int .i64 32] w λe w'=>e=.returned (.int .u64 (x%4294967296))/\w=w':=by
 have K:=Hm (Qm 32 w (by omega) (by omega));rw [show P2 32=4294967296 by decide] at K;have hr:Int.tmod x 4294967296=x%4294967296:=Int.tmod_eq_emod_of_nonneg h0
 go_enter Tryz.func44,Tryz.ntmps44
 go_wp2_with fail
 refine K.o.mono ?_
 rintro e w1 ⟨rfl,rfl⟩
 go_wp2
 go_ret
 exact ⟨rfl,rfl⟩
def CoP (ok:Bool)(V:Int->Prop)(w:World)(e:Ending)(w':World):Prop:=w=w'/\∃ x:Int,e=.returned (.tuple #[.int .u64 x,.bool ok])/\(ok=true->V x)
theorem con65_c (s:Wd)(w:World)(hl:s.length<=1099511627776) :
    Calls Tryz.prog 100 #[.int .i64 65,.string (S s)] w (CoP (okN (-2147483648) 2147483647 s) (λx=>∃ v,okP s=some v/\x=v%4294967296) w):=by
 have K:=Hm (snum_c 10 true s w (by omega) hl);obtain ⟨h1,h2⟩:=okN_num (lo:=-2147483648) (hi:=2147483647) (most:=10) (sg:=true) (s:=s) (by omega) (by omega) (λv a b=>by omega) (by omega) (λh=>by cases h);rw [h1];generalize Qp 10 true s=o at *
 cases o with
|none =>
  have KL:=Hm (λx a b=>low_c x w a b);clear h1 h2 hl
  go_enter Tryz.func100,Tryz.ntmps100
  go_wp2_with fail
  refine K.o.mono ?_
  rintro e w1 ⟨rfl,x,rfl,-⟩
  go_wp2_with fail
  refine (KL.o _ (by rw [IntKind.wrap_u64];omega) (by rw [IntKind.wrap_u64];omega)).mono ?_
  rintro e w1 ⟨rfl,rfl⟩
  go_wp2
  go_ret2
  exact ⟨rfl,_,rfl,λh=>by cases h⟩
|some v =>
  have hp:=Hm (h2 v rfl);have KU:=Hm (in_c v (-2147483648) 2147483647 w);have KL:=Hm (low_c (IntKind.u64.wrap v) w (by rw [IntKind.wrap_u64];omega) (by rw [IntKind.wrap_u64];omega));have hm:Hid (IntKind.u64.wrap v%4294967296=v%4294967296):=by show _=_;rw [IntKind.wrap_u64];omega
  clear h1 h2 hl
  go_enter Tryz.func100,Tryz.ntmps100
  go_wp2_with fail
  refine K.o.mono ?_
  rintro e w1 ⟨rfl,x,rfl,hx⟩;have ex:=hx v rfl;subst ex;clear hx
  go_wp2_with fail
  refine KL.o.mono ?_
  rintro e w1 ⟨rfl,rfl⟩
  go_wp2_with fail
  refine KU.o.mono ?_
  rintro e w1 ⟨rfl,rfl⟩
  go_wp2
  go_ret2
  exact ⟨rfl,_,rfl,λ_=>⟨x,hp.o,hm.o⟩⟩
theorem con66_c (s:Wd)(w:World)(hl:s.length<=1099511627776) :
    Calls Tryz.prog 100 #[.int .i64 66,.string (S s)] w (CoP (okN (-9223372036854775808) 9223372036854775807 s) (λx=>∃ v,okP s=some v/\x=v%18446744073709551616) w):=by
 have K:=Hm (snum_c 19 true s w (by omega) hl);obtain ⟨h1,h2⟩:=okN_num (lo:=-9223372036854775808) (hi:=9223372036854775807) (most:=19) (sg:=true) (s:=s) (by omega) (by omega) (λv a b=>by omega) (by omega) (λh=>by cases h)
 have h3:okN (-9223372036854775808) 9223372036854775807 s=(Qp 19 true s).isSome:=by
  rw [h1]
  cases hn:Qp 19 true s with
 |none=>rfl
 |some v =>
   obtain ⟨_,e2,e3,_⟩:=numM_some hn
   simp [e2,e3]
 rw [h3];have HP:=Hm h2;clear h1 h2 h3 hl;generalize Qp 19 true s=o at *
 go_enter Tryz.func100,Tryz.ntmps100
 go_wp2_with fail
 refine K.o.mono ?_
 rintro e w1 ⟨rfl,x,rfl,hx⟩;have HX:=Hm hx;clear hx
 go_wp2
 go_ret2
 refine ⟨rfl,_,rfl,λh=>?_⟩
 obtain ⟨v,hv⟩:=Option.isSome_iff_exists.1 h;have e:=HX.o v hv
 exact ⟨v,HP.o v hv,by rw [e,IntKind.wrap_u64]⟩
theorem p16 {k acc:Nat}(h:acc<16 ^ k)(hk:k<=15):acc<1152921504606846976:=Nat.lt_of_lt_of_le h (Nat.le_trans (Nat.pow_le_pow_right (by omega) hk) (by decide))
theorem con67_c (s:Wd)(w:World)(hl:s.length<=1099511627776) :
    Calls Tryz.prog 100 #[.int .i64 67,.string (S s)] w (CoP ((Xp 8 s).isSome) (λx=>∃ u:Nat,Xp 8 s=some u/\x=u) w):=by
 have hz:(S s).size=s.length:=Qn s
 by_cases h1:s.length=10
 . have i1:(s.length:Int)=10:=by omega
   by_cases h2:s.take 2=[48,120]
   . have i2:(((S s).extract 0 2).toList==[48,120])=true:=by
       rw [S_ext,List.drop_zero,ByteArray.toList_eq,QO];simpa using h2
     have HM:Hid (Xp 8 s=J5 0 (s.drop 2)):=by show _=_;unfold Xp;rw [if_pos ⟨h1,h2⟩]
     clear h2
     go_enter Tryz.func100,Tryz.ntmps100
     go_upto_region 15 with fail
     go_loop [11,12] (λvx vi=>∃ j acc:Nat,vx=.int .u64 (acc:Int)/\vi=.int .i64 ((j:Int)+2)/\j<=8/\Hid (acc<16 ^ j/\J5 0 (s.drop 2)=J5 acc (s.drop (j+2)))) (λ_ vi=>10-(intOf vi).toNat)
     case atStart=>exact ⟨0,0,rfl,rfl,by omega,by simp,rfl⟩
     case round =>
      obtain ⟨j,acc,rfl,rfl,hj,hh⟩:=hrel
      by_cases hlt:j<8
      . have hki:(j:Int)+2<(s.length:Int):=by omega
        have hkn:j+2<s.length:=by omega
        have hix:(Instr.index 9 (.string (S s)) (.int .i64 ((j:Int)+2))).run Tryz.prog w=.ok (.int .u8 ((s.getD (j+2) 0).toNat:Int)) w:=by
         have:=Jg s (j+2) w hkn
         simpa using this
        have hdrop:s.drop (j+2)=s[j+2]'hkn::s.drop (j+2+1):=List.drop_eq_getElem_cons hkn;have hget:s.getD (j+2) 0=s[j+2]'hkn:=by simp [List.getD,List.getElem?_eq_getElem hkn]
        have h15:=p16 hh.o.1 (by omega);have hdec:=hh.o.2;rw [hdrop] at hdec
        simp only [J5] at hdec
        rw [hget] at hix;generalize s[j+2]'hkn=y at hix hdec;have KN:=Hm (snib_c y w)
        cases hdv:nib y with
       |none =>
         rw [hdv] at hdec;rw [nibI_none hdv] at KN;have HN:=Hm (HM.o.trans hdec);clear hdec hdrop hget hh hdv hkn
         go_wp2_with fail
         refine KN.o.mono ?_
         rintro e w1 ⟨rfl,rfl⟩
         go_wp2
         go_ret2
         exact ⟨rfl,0,by rw [HN.o];rfl,λh=>by rw [HN.o] at h;cases h⟩
       |some d =>
         rw [hdv] at hdec;rw [nibI_some hdv] at KN;have hd:=(nib_some hdv).1;have HH:Hid (acc*16+d<16 ^ (j+1)/\J5 0 (s.drop 2)=J5 (acc*16+d) (s.drop (j+1+2))):=⟨by have:=hh.o.1;rw [Nat.pow_succ];omega,by rw [hdec]⟩;clear hdec hdrop hget hh hdv hkn;have w2:IntKind.u64.wrap (d:Int)=(d:Int):=by rw [IntKind.wrap_u64];omega
         have w3:IntKind.u64.wrap (16*(acc:Int))=16*(acc:Int):=by rw [IntKind.wrap_u64];omega
         have w4:IntKind.u64.wrap (16*(acc:Int)+(d:Int))=16*(acc:Int)+(d:Int):=by rw [IntKind.wrap_u64];omega
         have w5:IntKind.i64.wrap ((j:Int)+2+1)=(j:Int)+2+1:=by rw [IntKind.wrap_i64];omega
         go_wp2_with fail
         refine KN.o.mono ?_
         rintro e w1 ⟨rfl,rfl⟩
         go_wp2
         exact ⟨⟨j+1,acc*16+d,(by first|rfl|(congr 1;omega)|congr 1),(by first|rfl|(congr 1;omega)|congr 1),by omega,HH⟩,by simp [intOf];omega⟩
      . have ej:j=8:=by omega
        subst ej;have hdec:=hh.o.2;rw [show s.drop (8+2)=[] from List.drop_of_length_le (by omega)] at hdec;have HN:Hid (Xp 8 s=some acc):=by show _=_;rw [HM.o,hdec];rfl
        have hki:¬ ((8:Nat):Int)+2<(s.length:Int):=by omega
        clear hdec hh
        go_wp2
        go_ret2
        exact ⟨rfl,(acc:Int),by rw [HN.o];rfl,λ_=>⟨acc,HN.o,rfl⟩⟩
   . have i2:(((S s).extract 0 2).toList==[48,120])=false:=by
       rw [S_ext,List.drop_zero,ByteArray.toList_eq,QO];simpa using h2
     have HN:Hid (Xp 8 s=none):=by show _=_;unfold Xp;rw [if_neg (λh=>h2 h.2)]
     clear h2
     go_enter Tryz.func100,Tryz.ntmps100
     go_wp2
     go_ret2
     exact ⟨rfl,0,by rw [HN.o];rfl,λh=>by rw [HN.o] at h;cases h⟩
 . have i1:¬ (s.length:Int)=10:=by omega
   have HN:Hid (Xp 8 s=none):=by show _=_;unfold Xp;rw [if_neg (λh=>h1 h.1)]
   clear h1
   go_enter Tryz.func100,Tryz.ntmps100
   go_wp2
   go_ret2
   exact ⟨rfl,0,by rw [HN.o];rfl,λh=>by rw [HN.o] at h;cases h⟩
theorem con68_c (s:Wd)(w:World)(hl:s.length<=1099511627776) :
    Calls Tryz.prog 100 #[.int .i64 68,.string (S s)] w (CoP ((Xp 16 s).isSome) (λx=>∃ u:Nat,Xp 16 s=some u/\x=u) w):=by
 have hz:(S s).size=s.length:=Qn s
 by_cases h1:s.length=18
 . have i1:(s.length:Int)=18:=by omega
   by_cases h2:s.take 2=[48,120]
   . have i2:(((S s).extract 0 2).toList==[48,120])=true:=by
       rw [S_ext,List.drop_zero,ByteArray.toList_eq,QO];simpa using h2
     have HM:Hid (Xp 16 s=J5 0 (s.drop 2)):=by show _=_;unfold Xp;rw [if_pos ⟨h1,h2⟩]
     clear h2
     go_enter Tryz.func100,Tryz.ntmps100
     go_upto_region 15 with fail
     go_loop [11,12] (λvx vi=>∃ j acc:Nat,vx=.int .u64 (acc:Int)/\vi=.int .i64 ((j:Int)+2)/\j<=16/\Hid (acc<16 ^ j/\J5 0 (s.drop 2)=J5 acc (s.drop (j+2)))) (λ_ vi=>18-(intOf vi).toNat)
     case atStart=>exact ⟨0,0,rfl,rfl,by omega,by simp,rfl⟩
     case round =>
      obtain ⟨j,acc,rfl,rfl,hj,hh⟩:=hrel
      by_cases hlt:j<16
      . have hki:(j:Int)+2<(s.length:Int):=by omega
        have hkn:j+2<s.length:=by omega
        have hix:(Instr.index 9 (.string (S s)) (.int .i64 ((j:Int)+2))).run Tryz.prog w=.ok (.int .u8 ((s.getD (j+2) 0).toNat:Int)) w:=by
         have:=Jg s (j+2) w hkn
         simpa using this
        have hdrop:s.drop (j+2)=s[j+2]'hkn::s.drop (j+2+1):=List.drop_eq_getElem_cons hkn;have hget:s.getD (j+2) 0=s[j+2]'hkn:=by simp [List.getD,List.getElem?_eq_getElem hkn]
        have h15:=p16 hh.o.1 (by omega);have hdec:=hh.o.2;rw [hdrop] at hdec
        simp only [J5] at hdec
        rw [hget] at hix;generalize s[j+2]'hkn=y at hix hdec;have KN:=Hm (snib_c y w)
        cases hdv:nib y with
       |none =>
         rw [hdv] at hdec;rw [nibI_none hdv] at KN;have HN:=Hm (HM.o.trans hdec);clear hdec hdrop hget hh hdv hkn
         go_wp2_with fail
         refine KN.o.mono ?_
         rintro e w1 ⟨rfl,rfl⟩
         go_wp2
         go_ret2
         exact ⟨rfl,0,by rw [HN.o];rfl,λh=>by rw [HN.o] at h;cases h⟩
       |some d =>
         rw [hdv] at hdec;rw [nibI_some hdv] at KN;have hd:=(nib_some hdv).1;have HH:Hid (acc*16+d<16 ^ (j+1)/\J5 0 (s.drop 2)=J5 (acc*16+d) (s.drop (j+1+2))):=⟨by have:=hh.o.1;rw [Nat.pow_succ];omega,by rw [hdec]⟩;clear hdec hdrop hget hh hdv hkn;have w2:IntKind.u64.wrap (d:Int)=(d:Int):=by rw [IntKind.wrap_u64];omega
         have w3:IntKind.u64.wrap (16*(acc:Int))=16*(acc:Int):=by rw [IntKind.wrap_u64];omega
         have w4:IntKind.u64.wrap (16*(acc:Int)+(d:Int))=16*(acc:Int)+(d:Int):=by rw [IntKind.wrap_u64];omega
         have w5:IntKind.i64.wrap ((j:Int)+2+1)=(j:Int)+2+1:=by rw [IntKind.wrap_i64];omega
         go_wp2_with fail
         refine KN.o.mono ?_
         rintro e w1 ⟨rfl,rfl⟩
         go_wp2
         exact ⟨⟨j+1,acc*16+d,(by first|rfl|(congr 1;omega)|congr 1),(by first|rfl|(congr 1;omega)|congr 1),by omega,HH⟩,by simp [intOf];omega⟩
      . have ej:j=16:=by omega
        subst ej;have hdec:=hh.o.2;rw [show s.drop (16+2)=[] from List.drop_of_length_le (by omega)] at hdec;have HN:Hid (Xp 16 s=some acc):=by show _=_;rw [HM.o,hdec];rfl
        have hki:¬ ((16:Nat):Int)+2<(s.length:Int):=by omega
        clear hdec hh
        go_wp2
        go_ret2
        exact ⟨rfl,(acc:Int),by rw [HN.o];rfl,λ_=>⟨acc,HN.o,rfl⟩⟩
   . have i2:(((S s).extract 0 2).toList==[48,120])=false:=by
       rw [S_ext,List.drop_zero,ByteArray.toList_eq,QO];simpa using h2
     have HN:Hid (Xp 16 s=none):=by show _=_;unfold Xp;rw [if_neg (λh=>h2 h.2)]
     clear h2
     go_enter Tryz.func100,Tryz.ntmps100
     go_wp2
     go_ret2
     exact ⟨rfl,0,by rw [HN.o];rfl,λh=>by rw [HN.o] at h;cases h⟩
 . have i1:¬ (s.length:Int)=18:=by omega
   have HN:Hid (Xp 16 s=none):=by show _=_;unfold Xp;rw [if_neg (λh=>h1 h.1)]
   clear h1
   go_enter Tryz.func100,Tryz.ntmps100
   go_wp2
   go_ret2
   exact ⟨rfl,0,by rw [HN.o];rfl,λh=>by rw [HN.o] at h;cases h⟩
end Go.Proofs.YtipfjdogokanbaaGreatDoor.Yz
