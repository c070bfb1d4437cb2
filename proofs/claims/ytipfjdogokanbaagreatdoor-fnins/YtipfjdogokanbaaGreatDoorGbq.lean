import Derived.Test.YtipfjdogokanbaaGreatDoorGaj
import Derived.Lib.Atoi
import Derived.Test.YtipfjdogokanbaaGreatDoorGaa
import Derived.Lib.AtoiErr
import Derived.Test.YtipfjdogokanbaaGreatDoorGai
set_option linter.all false
set_option maxHeartbeats 400000000
set_option maxRecDepth 100000
set_option linter.all false
namespace Go.Proofs.YtipfjdogokanbaaGreatDoor.Yz
open Go.RowKit Go.Sort
theorem QE (acc:Nat)(c:UInt8)(r:Wd):Lib.decFrom acc (c::r)=(Lib.digitVal c).bind λd=>Lib.decFrom (acc*10+d) r:=by
 simp only [Lib.decFrom]
 cases Lib.digitVal c<;>rfl
theorem Gx:∀ (l:Wd) (acc:Nat) (b:UInt8),Lib.decFrom acc (l++[b])=(Lib.decFrom acc l).bind λn=>(Lib.digitVal b).map λd=>n*10+d
|[],acc,b=>by
  rw [List.nil_append,QE]
  cases Lib.digitVal b<;>simp [Lib.decFrom]
|c::l,acc,b=>by
  rw [List.cons_append,QE,QE]
  cases h:Lib.digitVal c with
 |none=>rfl
 |some d=>exact Gx l (acc*10+d) b
theorem digit_of (d:Nat)(h:d<10):Lib.digitVal (UInt8.ofNat (48+d))=some d:=by
 have:∀ i:Fin 10,Lib.digitVal (UInt8.ofNat (48+i.val))=some i.val:=by decide
 exact this ⟨d,h⟩
theorem digit_back {b:UInt8}{d:Nat}(h:Lib.digitVal b=some d):b=UInt8.ofNat (48+d)/\d<10:=by
 obtain ⟨h1,h2,h3⟩:=Lib.digitVal_eq h
 refine ⟨?_,by omega⟩
 rw [show 48+d=b.toNat by omega]
 simp
theorem XO (u:Nat):Lib.decFrom 0 (Lib.decDigits u)=some u:=by
 induction u using Nat.strongRecOn with
|_ u ih =>
  rw [Lib.decDigits]
  split
  . rename_i h
    rw [QE,digit_of u h];simp [Lib.decFrom]
  . rename_i h
    rw [Gx,ih (u / 10) (by omega),digit_of (u%10) (by omega)]
    simp;omega
theorem decFrom_ge:∀ (l:Wd) (acc n:Nat),Lib.decFrom acc l=some n->acc<=n
|[],acc,n,h=>by simp [Lib.decFrom] at h;omega
|c::l,acc,n,h=>by
  rw [QE] at h
  cases hd:Lib.digitVal c with
 |none=>rw [hd] at h;cases h
 |some d =>
   rw [hd] at h
   have:=decFrom_ge l (acc*10+d) n h
   omega
theorem dec_pos {c:UInt8}{r:Wd}{n:Nat}(h:Lib.decFrom 0 (c::r)=some n)(hc:c≠48):1<=n:=by
 rw [QE] at h
 cases hd:Lib.digitVal c with
|none=>rw [hd] at h;cases h
|some d =>
  rw [hd] at h;have h1:=decFrom_ge r (0*10+d) n h;obtain ⟨e,h2⟩:=digit_back hd
  have:d≠0:=by rintro rfl;exact hc e
  omega
theorem dec_canon (l:Wd):∀ (n:Nat),Lib.decFrom 0 l=some n->l≠[]->(l.length=1\/l.head?≠some 48)->Lib.decDigits n=l:=by
 induction h:l.length using Nat.strongRecOn generalizing l with
|_ k ih =>
  subst h
  intro n hn hne hc
  obtain ⟨l',b,rfl⟩:∃ l' b,l=l'++[b]:=⟨l.dropLast,l.getLast hne,(List.dropLast_concat_getLast hne).symm⟩;rw [Gx] at hn
  cases hd:Lib.digitVal b with
 |none=>rw [hd] at hn;cases hp:Lib.decFrom 0 l'<;>rw [hp] at hn<;>cases hn
 |some d =>
   obtain ⟨eb,hd10⟩:=digit_back hd
   cases hp:Lib.decFrom 0 l' with
  |none=>rw [hp] at hn;cases hn
  |some m =>
    rw [hp,hd] at hn
    simp at hn
    cases l' with
   |nil =>
     simp [Lib.decFrom] at hp
     subst hp;rw [<- hn,Lib.decDigits,dif_pos (by omega),eb];simp
   |cons c r =>
     have hc':c≠48:=by
      rcases hc with hc|hc
      . simp at hc
      . intro e;subst e;simp at hc
     have hm:=dec_pos hp hc'
     rw [<- hn,Lib.decDigits,dif_neg (by omega),show (m*10+d) / 10=m by omega,show (m*10+d)%10=d by omega,<- eb,
      ih (c::r).length (by simp) (c::r) rfl m hp (by simp) (.inr (by simpa using hc'))]
theorem XY (u:Nat):Lib.decDigits u≠[]:=by
 rw [Lib.decDigits]
 split<;>simp
theorem decD_head (u:Nat):(Lib.decDigits u).length=1\/(Lib.decDigits u).head?≠some 48:=by
 induction u using Nat.strongRecOn with
|_ u ih =>
  rw [Lib.decDigits]
  split
  . exact .inl rfl
  . rename_i h
    right
    have hh:(Lib.decDigits (u / 10)++[UInt8.ofNat (48+u%10)]).head?=(Lib.decDigits (u / 10)).head?:=by
     cases hd:Lib.decDigits (u / 10) with
    |nil=>exact absurd hd (XY _)
    |cons a b=>rfl
    rw [hh]
    rcases ih (u / 10) (by omega) with h1|h1
    . intro e
      cases hd:Lib.decDigits (u / 10) with
     |nil=>exact XY _ hd
     |cons a b =>
       rw [hd] at h1 e
       simp at h1 e
       subst h1 e
       have:=XO (u / 10)
       rw [hd] at this;have e0:Lib.decFrom 0 [48]=some 0:=by decide
       rw [e0] at this
       simp at this
       omega
    . exact h1
theorem parseM_ok (mx:Nat)(hx:mx<=18446744073709551615):∀ (l:Wd) (acc n:Nat),Lib.decFrom acc l=some n->n<=mx->Lib.parseUintM mx acc l=.ok n
|[],acc,n,h,hn=>by simp [Lib.decFrom] at h;subst h;rfl
|c::l,acc,n,h,hn=>by
  rw [QE] at h
  cases hd:Lib.digitVal c with
 |none=>rw [hd] at h;cases h
 |some d =>
   rw [hd] at h;have h1:=decFrom_ge l (acc*10+d) n h;have h2:=parseM_ok mx hx l (acc*10+d) n h hn;obtain ⟨k1,k2,k3⟩:=Lib.digitVal_eq hd;rw [Lib.parseUintM,if_pos ⟨k1,k2⟩,if_neg (by omega),<- k3,if_neg (by omega)]
   exact h2
theorem okP_itoa (v:Int)(h0:-9223372036854775808<=v)(h1:v<=9223372036854775807):okP (Lib.itoa v)=some v:=by
 have key:Lib.parseIntB 64 (Lib.itoa v)=.ok v:=by
  by_cases hn:v<0
  . have hp:Lib.parseUintB 64 (Lib.decDigits v.natAbs)=.ok v.natAbs:=by
      unfold Lib.parseUintB;rw [if_neg (XY _)]
      exact parseM_ok _ (by decide) _ _ _ (XO _) (by omega)
    unfold Lib.itoa;rw [if_pos hn];unfold Lib.parseIntB
    simp only [show (45:UInt8).toNat=45 from rfl,or_true,if_true,hp]
    rw [if_neg (by simp),if_neg (by simp;omega)]
    congr 1
    omega
  . have hp:Lib.parseUintB 64 (Lib.decDigits v.toNat)=.ok v.toNat:=by
      unfold Lib.parseUintB;rw [if_neg (XY _)]
      exact parseM_ok _ (by decide) _ _ _ (XO _) (by omega)
    unfold Lib.itoa;rw [if_neg hn];have hd:=XO v.toNat
    cases he:Lib.decDigits v.toNat with
   |nil=>exact absurd he (XY _)
   |cons c r =>
     rw [he] at hp hd;rw [QE] at hd
     cases hc:Lib.digitVal c with
    |none=>rw [hc] at hd;cases hd
    |some d =>
      obtain ⟨k1,k2,k3⟩:=Lib.digitVal_eq hc;unfold Lib.parseIntB
      simp only [show ¬ c.toNat=43 by omega,show ¬ c.toNat=45 by omega,or_self,if_false]
      rw [hp]
      show (if ¬False/\2 ^ (64-1)<=v.toNat then Lib.NumEnd.range else if False/\2 ^ (64-1)<v.toNat then Lib.NumEnd.range else Lib.NumEnd.ok (v.toNat:Int))=_
      rw [if_neg (by simp;omega),if_neg (by simp)]
      congr 1
      omega
 simp [okP,key]
theorem nm_iff (lo hi:Int)(s:Wd)(v:Int)(h0:-9223372036854775808<=lo)(h1:hi<=9223372036854775807):Nm lo hi s v ↔ (Lib.itoa v=s/\lo<=v/\v<=hi):=by
 constructor
 . rintro ⟨ha,hb⟩;unfold okN at ha;rw [hb] at ha
   simp at ha
   exact ⟨ha.2.2,ha.1,ha.2.1⟩
 . rintro ⟨rfl,ha,hb⟩
   have:=okP_itoa v (by omega) (by omega)
   exact ⟨by unfold okN;rw [this];simp [ha,hb],this⟩
def Qp (most:Nat)(sg:Bool)(s:Wd):Option Int :=
 let neg:=sg&&(decide (1<s.length)&&(s.head?==some 45))
 let d:=if neg then s.tail else s
 if d.length<1\/most<d.length\/(d.head?=some 48/\(1<d.length\/neg=true)) then none
 else match Lib.decFrom 0 d with
 |none=>none
 |some u=>if neg then (if u<=9223372036854775808 then some (-(u:Int)) else none) else (if u<=9223372036854775807 then some (u:Int) else none)
theorem numM_some {most:Nat}{sg:Bool}{s:Wd}{v:Int}(h:Qp most sg s=some v):Lib.itoa v=s/\-9223372036854775808<=v/\v<=9223372036854775807/\(sg=false->0<=v):=by
 unfold Qp at h
 simp only at h
 cases hneg:(sg&&(decide (1<s.length)&&(s.head?==some 45))) with
|true =>
  simp only [hneg,if_true] at h
  split at h
  . cases h
  . rename_i hc
    cases hu:Lib.decFrom 0 s.tail with
   |none=>rw [hu] at h;cases h
   |some u =>
     rw [hu] at h
     by_cases hle:u<=9223372036854775808
     . simp only [hle,if_true,Option.some.injEq] at h
       subst h
       simp at hneg
       obtain ⟨rfl,h1,h2⟩:=hneg
       . cases s with
        |nil=>simp at h2
        |cons c r =>
          simp at h2;subst h2
          simp only [List.tail_cons] at hu hc
          have hne:r≠[]:=by rintro rfl;simp at h1
          have e:=dec_canon r u hu hne (by
           by_cases hh:r.head?=some 48
           . exact absurd (.inr (.inr ⟨hh,.inr trivial⟩)) hc
           . exact .inr hh)
          have hu1:1<=u:=by
           cases r with
          |nil=>exact absurd rfl hne
          |cons c r=>exact dec_pos hu (by rintro rfl;exact hc (.inr (.inr ⟨rfl,.inr trivial⟩)))
          refine ⟨?_,by omega,by omega,λh=>by cases h⟩
          rw [Lib.itoa,if_pos (by omega),show (-(u:Int)).natAbs=u by omega,e]
     . simp [hle] at h
|false =>
  simp only [hneg,Bool.false_eq_true,if_false] at h
  split at h
  . cases h
  . rename_i hc
    cases hu:Lib.decFrom 0 s with
   |none=>rw [hu] at h;cases h
   |some u =>
     rw [hu] at h
     by_cases hle:u<=9223372036854775807
     . simp only [hle,if_true,Option.some.injEq] at h
       subst h;have hne:s≠[]:=by rintro rfl;simp at hc
       have e:=dec_canon s u hu hne (by
        by_cases hh:s.head?=some 48
        . left
          have hp:=List.length_pos_iff.2 hne
          simp [hh] at hc
          omega
        . exact .inr hh)
       refine ⟨?_,by omega,by omega,λ_=>by omega⟩
       rw [Lib.itoa,if_neg (by omega),show ((u:Int)).toNat=u by omega,e]
     . simp [hle] at h
theorem nDigits_le:∀ (k u:Nat),u<10 ^ (k+1)->Lib.nDigits u<=k+1
|0,u,h=>by rw [Lib.nDigits_small (by simpa using h)];omega
|k+1,u,h=>by
  by_cases h10:u<10
  . rw [Lib.nDigits_small h10];omega
  . rw [Lib.nDigits_big h10]
    have:=nDigits_le k (u / 10) (by rw [Nat.pow_succ] at h;omega)
    omega
theorem decD_head_digit (u:Nat):(Lib.decDigits u).head?≠some 45:=by
 have hd:=XO u
 cases he:Lib.decDigits u with
|nil=>simp
|cons c r =>
  rw [he,QE] at hd
  simp
  rintro rfl
  have:Lib.digitVal 45=none:=by decide
  rw [this] at hd;cases hd
theorem numM_itoa {most:Nat}{sg:Bool}{v:Int}(h0:-9223372036854775808<=v)(h1:v<=9223372036854775807)(hs:sg=false->0<=v)(hm:v.natAbs<10 ^ most)(hm1:1<=most):Qp most sg (Lib.itoa v)=some v:=by
 have hlen:(Lib.decDigits v.natAbs).length<=most:=by
  rw [Lib.decDigits_length];obtain ⟨m,rfl⟩:∃ m,most=m+1:=⟨most-1,by omega⟩
  exact nDigits_le m _ hm
 by_cases hn:v<0
 . have hsg:sg=true:=by cases sg with|true=>rfl|false=>have:=hs rfl;omega
   subst hsg;have e:Lib.itoa v=45::Lib.decDigits v.natAbs:=by rw [Lib.itoa,if_pos hn]
   rw [e];unfold Qp;have hne:=XY v.natAbs;have hl:0<(Lib.decDigits v.natAbs).length:=List.length_pos_iff.2 hne;have hd:=XO v.natAbs
   have hh:(Lib.decDigits v.natAbs).head?≠some 48:=by
    rcases decD_head v.natAbs with hk|hk
    . intro e2
      cases he:Lib.decDigits v.natAbs with
     |nil=>exact hne he
     |cons a b =>
       rw [he] at hk e2 hd
       simp at hk e2
       subst hk e2;have e0:Lib.decFrom 0 [48]=some 0:=by decide
       rw [e0] at hd
       simp at hd;omega
    . exact hk
   have hneg:(true&&(decide (1<(45::Lib.decDigits v.natAbs).length)&&((45::Lib.decDigits v.natAbs).head?==some 45)))=true:=by simp;exact hl
   simp only [hneg,if_true,List.tail_cons,hd]
   rw [if_neg (by rintro (h | h | h); · omega
                  . omega
                  . exact hh h.1),if_pos (by omega)]
   congr 1;omega
 . have e:Lib.itoa v=Lib.decDigits v.natAbs:=by rw [Lib.itoa,if_neg hn,show v.toNat=v.natAbs by omega]
   rw [e];unfold Qp;have hne:=XY v.natAbs;have hl:0<(Lib.decDigits v.natAbs).length:=List.length_pos_iff.2 hne;have hd:=XO v.natAbs
   have hneg:(sg&&(decide (1<(Lib.decDigits v.natAbs).length)&&((Lib.decDigits v.natAbs).head?==some 45)))=false:=by
    have:=decD_head_digit v.natAbs
    simp [this]
   simp only [hneg,Bool.false_eq_true,if_false,hd]
   rw [if_neg (by
    rintro (h|h|⟨h,h2|h2⟩)
    . omega
    . omega
    . rcases decD_head v.natAbs with hk|hk
      . omega
      . exact hk h
    . cases h2),if_pos (by omega)]
   congr 1;omega
end Go.Proofs.YtipfjdogokanbaaGreatDoor.Yz
set_option linter.all false
namespace Go.Proofs.YtipfjdogokanbaaGreatDoor.Yz
open Go.RowKit Go.Sort
attribute [-go_sem] run_index_string
theorem Jg (l:Wd)(k:Nat)(w:World)(h:k<l.length):(Instr.index 9 (.string (S l)) (.int .i64 (k:Int))).run Tryz.prog w=.ok (.int .u8 ((l.getD k 0).toNat:Int)) w:=by
 rw [run_index_string (w:=w) (t:=9) (s:=S l) (k:=.i64) (i:=(k:Int)) Tryz.underlying9,dif_pos ⟨by omega,by rw [Qn];omega⟩]
 congr 4
 simp [S,List.getD,h]
 rfl
theorem S_index0 (c:UInt8)(r:Wd)(w:World):(Instr.index 9 (.string (S (c::r))) (.int .i64 0)).run Tryz.prog w=.ok (.int .u8 (c.toNat:Int)) w:=Jg (c::r) 0 w (by simp)
def Jj (most:Nat)(neg:Bool)(d:Wd):Option Int :=
 if d.length<1\/most<d.length\/(d.head?=some 48/\(1<d.length\/neg=true)) then none
 else match Lib.decFrom 0 d with
 |none=>none
 |some u=>if neg then (if u<=9223372036854775808 then some (-(u:Int)) else none) else (if u<=9223372036854775807 then some (u:Int) else none)
def NuP (o:Option Int)(w:World)(e:Ending)(w':World):Prop:=w=w'/\∃ x:Int,e=.returned (.tuple #[.int .i64 x,.bool o.isSome])/\∀ v,o=some v->x=v
theorem QP {w:World}{o:Option Int}(h:o=none):NuP o w (.returned (.tuple #[.int .i64 0,.bool false])) w:=⟨rfl,0,by rw [h];rfl,λv e=>by rw [h] at e;cases e⟩
theorem u8_ne {c d:UInt8}(h:c≠d):((c.toNat:Int)==(d.toNat:Int))=false:=by
 simp
 intro e
 exact h (UInt8.toNat_inj.1 (by omega))
def NumC (most:Nat)(neg:Bool)(d:Wd):Prop:=¬ (d.length<1\/most<d.length\/(d.head?=some 48/\(1<d.length\/neg=true)))
theorem num_end {most:Nat}{neg:Bool}{d:Wd}{u:Nat}(h:NumC most neg d)(hd:Lib.decFrom 0 d=some u):Jj most neg d=if neg then (if u<=9223372036854775808 then some (-(u:Int)) else none) else (if u<=9223372036854775807 then some (u:Int) else none):=by
 unfold Jj;rw [if_neg h,hd]
theorem num_no {most:Nat}{neg:Bool}{d:Wd}(hd:Lib.decFrom 0 d=none):Jj most neg d=none:=by
 unfold Jj;rw [hd];split<;>rfl
theorem p18 {k acc:Nat}(h:acc<10 ^ k)(hk:k<=18):acc<1000000000000000000:=Nat.lt_of_lt_of_le h (Nat.le_trans (Nat.pow_le_pow_right (by omega) hk) (by decide))
theorem p19 {k acc:Nat}(h:acc<10 ^ k)(hk:k<=19):acc<10000000000000000000:=Nat.lt_of_lt_of_le h (Nat.le_trans (Nat.pow_le_pow_right (by omega) hk) (by decide))
theorem sn1 (most:Nat)(s:Wd)(w:World)(hm:most<=19)(hl:s.length<=1099511627776) :
    Calls Tryz.prog 136 #[.string (S s),.int .i64 (most:Int),.bool false] w (NuP (Jj most false s) w):=by
 have hz:(S s).size=s.length:=Qn _
 by_cases h0:s.length<1
 . have HN:=Hm (show Jj most false s=none by unfold Jj;exact if_pos (.inl h0));have i1:(s.length:Int)<1:=by omega
   go_enter Tryz.func136,Tryz.ntmps136
   go_wp2
   go_ret2
   exact QP HN.o
 by_cases h1:most<s.length
 . have HN:=Hm (show Jj most false s=none by unfold Jj;exact if_pos (.inr (.inl h1)));have i1:¬ (s.length:Int)<1:=by omega
   have i2:(most:Int)<(s.length:Int):=by omega
   go_enter Tryz.func136,Tryz.ntmps136
   go_wp2
   go_ret2
   exact QP HN.o
 have i1:¬ (s.length:Int)<1:=by omega
 have i2:¬ (most:Int)<(s.length:Int):=by omega
 obtain ⟨c,r,hD⟩:∃ c r,s=c::r:=by
  cases s with
 |nil=>simp at h0
 |cons c r=>exact ⟨c,r,rfl⟩
 have hi0:=S_index0 c r w;rw [<- hD] at hi0;have hhd:s.head?=some c:=by rw [hD];rfl
 have HD:=Hm hD;clear hD
 by_cases hc:c=48
 . subst hc
   by_cases hlen:1<s.length
   . have HN:=Hm (show Jj most false s=none by unfold Jj;exact if_pos (.inr (.inr ⟨hhd,.inl hlen⟩)));have i3:(1:Int)<(s.length:Int):=by omega
     go_enter Tryz.func136,Tryz.ntmps136
     go_wp2
     go_ret2
     exact QP HN.o
   . have i3:¬ (1:Int)<(s.length:Int):=by omega
     have HC:=Hm (show NumC most false s by rintro (h|h|⟨_,h|h⟩)<;>first|omega|cases h)
     go_enter Tryz.func136,Tryz.ntmps136
     go_upto_region 9 with fail
     go_loop [10,11] (λvx vi=>∃ k acc:Nat,vx=.int .u64 (acc:Int)/\vi=.int .i64 (k:Int)/\k<=s.length/\Hid (acc<10 ^ k/\Lib.decFrom 0 s=Lib.decFrom acc (s.drop k))) (λ_ vi=>s.length-(intOf vi).toNat)
     case atStart=>exact ⟨0,0,rfl,rfl,by omega,by simp,rfl⟩
     case round =>
      obtain ⟨k,acc,rfl,rfl,hk,hh⟩:=hrel
      by_cases hkn:k<s.length
      . have hki:(k:Int)<(s.length:Int):=by omega
        have hix:=Jg s k w hkn;have hdrop:s.drop k=s[k]'hkn::s.drop (k+1):=List.drop_eq_getElem_cons hkn;have hget:s.getD k 0=s[k]'hkn:=by simp [List.getD,List.getElem?_eq_getElem hkn]
        have h18:=p18 hh.o.1 (by omega);have hdec:=hh.o.2;rw [hdrop,QE] at hdec;rw [hget] at hix;generalize s[k]'hkn=y at hix hdec;have hy:=y.toNat_lt
        cases hdv:Lib.digitVal y with
       |none =>
         rw [hdv] at hdec;have HN:=Hm (num_no (most:=most) (neg:=false) hdec);have hbad:=Lib.digitVal_none hdv;clear hdec hdrop hget hh hdv;generalize y.toNat=yn at *
         by_cases h48:yn<48
         . have i1:(yn:Int)<48:=by omega
           go_wp2
           go_ret2
           exact QP HN.o
         . have i1:¬ (yn:Int)<48:=by omega
           have i2:(57:Int)<(yn:Int):=by omega
           go_wp2
           go_ret2
           exact QP HN.o
       |some d =>
         rw [hdv] at hdec;obtain ⟨e1,e2,e3⟩:=Lib.digitVal_eq hdv;have HH:Hid (acc*10+d<10 ^ (k+1)/\Lib.decFrom 0 s=Lib.decFrom (acc*10+d) (s.drop (k+1))):=⟨by have:=hh.o.1;rw [Nat.pow_succ];omega,hdec⟩;clear hdec hdrop hget hh hdv;generalize y.toNat=yn at *;have i1:¬ (yn:Int)<48:=by omega
         have i2:¬ (57:Int)<(yn:Int):=by omega
         have w1:IntKind.u8.wrap ((yn:Int)-48)=(d:Int):=by rw [IntKind.wrap_u8];omega
         have w2:IntKind.u64.wrap (d:Int)=(d:Int):=by rw [IntKind.wrap_u64];omega
         have w3:IntKind.u64.wrap (10*(acc:Int))=10*(acc:Int):=by rw [IntKind.wrap_u64];omega
         have w4:IntKind.u64.wrap (10*(acc:Int)+(d:Int))=10*(acc:Int)+(d:Int):=by rw [IntKind.wrap_u64];omega
         have w5:IntKind.i64.wrap ((k:Int)+1)=(k:Int)+1:=by rw [IntKind.wrap_i64];omega
         go_wp2
         exact ⟨⟨k+1,acc*10+d,(by congr 1;omega),(by first|rfl|(congr 1;omega)),by omega,HH⟩,by simp [intOf];omega⟩
      . have ek:k=s.length:=by omega
        subst ek;have hdec:=hh.o.2;rw [List.drop_of_length_le (Nat.le_refl _)] at hdec;have h19:=p19 hh.o.1 (by omega);have HE:=Hm (num_end (neg:=false) HC.o (show Lib.decFrom 0 s=some acc from hdec));have hki:¬ (s.length:Int)<(s.length:Int):=by omega
        clear hdec hh hkn
        by_cases hle:acc<=9223372036854775807
        . have i1:(acc:Int)<=9223372036854775807:=by omega
          have w1:IntKind.i64.wrap (acc:Int)=(acc:Int):=by rw [IntKind.wrap_i64];omega
          go_wp2
          go_ret2
          have hb:(Jj most false s).isSome=true:=by rw [HE.o];simp [hle]
          exact ⟨rfl,(acc:Int),by rw [hb];rfl,λv hv=>by rw [HE.o] at hv;simp [hle] at hv;rw [<- hv]⟩
        . have i1:¬ (acc:Int)<=9223372036854775807:=by omega
          go_wp2
          go_ret2
          have hb:(Jj most false s).isSome=false:=by rw [HE.o];simp [hle]
          rw [NuP,hb]
          exact ⟨rfl,_,rfl,λv hv=>by rw [HE.o] at hv;simp [hle] at hv⟩
 . have h3:((c.toNat:Int)==48)=false:=u8_ne hc
   have HC:=Hm (show NumC most false s by
    rintro (h|h|⟨h,_⟩)
    . omega
    . omega
    . rw [hhd] at h;exact hc (by simpa using h))
   go_enter Tryz.func136,Tryz.ntmps136
   go_upto_region 9 with fail
   go_loop [10,11] (λvx vi=>∃ k acc:Nat,vx=.int .u64 (acc:Int)/\vi=.int .i64 (k:Int)/\k<=s.length/\Hid (acc<10 ^ k/\Lib.decFrom 0 s=Lib.decFrom acc (s.drop k))) (λ_ vi=>s.length-(intOf vi).toNat)
   case atStart=>exact ⟨0,0,rfl,rfl,by omega,by simp,rfl⟩
   case round =>
    obtain ⟨k,acc,rfl,rfl,hk,hh⟩:=hrel
    by_cases hkn:k<s.length
    . have hki:(k:Int)<(s.length:Int):=by omega
      have hix:=Jg s k w hkn;have hdrop:s.drop k=s[k]'hkn::s.drop (k+1):=List.drop_eq_getElem_cons hkn;have hget:s.getD k 0=s[k]'hkn:=by simp [List.getD,List.getElem?_eq_getElem hkn]
      have h18:=p18 hh.o.1 (by omega);have hdec:=hh.o.2;rw [hdrop,QE] at hdec;rw [hget] at hix;generalize s[k]'hkn=y at hix hdec;have hy:=y.toNat_lt
      cases hdv:Lib.digitVal y with
     |none =>
       rw [hdv] at hdec;have HN:=Hm (num_no (most:=most) (neg:=false) hdec);have hbad:=Lib.digitVal_none hdv;clear hdec hdrop hget hh hdv;generalize y.toNat=yn at *
       by_cases h48:yn<48
       . have i1:(yn:Int)<48:=by omega
         go_wp2
         go_ret2
         exact QP HN.o
       . have i1:¬ (yn:Int)<48:=by omega
         have i2:(57:Int)<(yn:Int):=by omega
         go_wp2
         go_ret2
         exact QP HN.o
     |some d =>
       rw [hdv] at hdec;obtain ⟨e1,e2,e3⟩:=Lib.digitVal_eq hdv;have HH:Hid (acc*10+d<10 ^ (k+1)/\Lib.decFrom 0 s=Lib.decFrom (acc*10+d) (s.drop (k+1))):=⟨by have:=hh.o.1;rw [Nat.pow_succ];omega,hdec⟩;clear hdec hdrop hget hh hdv;generalize y.toNat=yn at *;have i1:¬ (yn:Int)<48:=by omega
       have i2:¬ (57:Int)<(yn:Int):=by omega
       have w1:IntKind.u8.wrap ((yn:Int)-48)=(d:Int):=by rw [IntKind.wrap_u8];omega
       have w2:IntKind.u64.wrap (d:Int)=(d:Int):=by rw [IntKind.wrap_u64];omega
       have w3:IntKind.u64.wrap (10*(acc:Int))=10*(acc:Int):=by rw [IntKind.wrap_u64];omega
       have w4:IntKind.u64.wrap (10*(acc:Int)+(d:Int))=10*(acc:Int)+(d:Int):=by rw [IntKind.wrap_u64];omega
       have w5:IntKind.i64.wrap ((k:Int)+1)=(k:Int)+1:=by rw [IntKind.wrap_i64];omega
       go_wp2
       exact ⟨⟨k+1,acc*10+d,(by congr 1;omega),(by first|rfl|(congr 1;omega)),by omega,HH⟩,by simp [intOf];omega⟩
    . have ek:k=s.length:=by omega
      subst ek;have hdec:=hh.o.2;rw [List.drop_of_length_le (Nat.le_refl _)] at hdec;have h19:=p19 hh.o.1 (by omega);have HE:=Hm (num_end (neg:=false) HC.o (show Lib.decFrom 0 s=some acc from hdec));have hki:¬ (s.length:Int)<(s.length:Int):=by omega
      clear hdec hh hkn
      by_cases hle:acc<=9223372036854775807
      . have i1:(acc:Int)<=9223372036854775807:=by omega
        have w1:IntKind.i64.wrap (acc:Int)=(acc:Int):=by rw [IntKind.wrap_i64];omega
        go_wp2
        go_ret2
        have hb:(Jj most false s).isSome=true:=by rw [HE.o];simp [hle]
        exact ⟨rfl,(acc:Int),by rw [hb];rfl,λv hv=>by rw [HE.o] at hv;simp [hle] at hv;rw [<- hv]⟩
      . have i1:¬ (acc:Int)<=9223372036854775807:=by omega
        go_wp2
        go_ret2
        have hb:(Jj most false s).isSome=false:=by rw [HE.o];simp [hle]
        rw [NuP,hb]
        exact ⟨rfl,_,rfl,λv hv=>by rw [HE.o] at hv;simp [hle] at hv⟩
theorem sn2 (most:Nat)(s:Wd)(w:World)(hm:most<=19)(hl:s.length<=1099511627776)(hw:s.length<=1) :
    Calls Tryz.prog 136 #[.string (S s),.int .i64 (most:Int),.bool true] w (NuP (Jj most false s) w):=by
 have hz:(S s).size=s.length:=Qn _;have hw1:¬ (1:Int)<(s.length:Int):=by omega
 by_cases h0:s.length<1
 . have HN:=Hm (show Jj most false s=none by unfold Jj;exact if_pos (.inl h0));have i1:(s.length:Int)<1:=by omega
   go_enter Tryz.func136,Tryz.ntmps136
   go_wp2
   go_ret2
   exact QP HN.o
 by_cases h1:most<s.length
 . have HN:=Hm (show Jj most false s=none by unfold Jj;exact if_pos (.inr (.inl h1)));have i1:¬ (s.length:Int)<1:=by omega
   have i2:(most:Int)<(s.length:Int):=by omega
   go_enter Tryz.func136,Tryz.ntmps136
   go_wp2
   go_ret2
   exact QP HN.o
 have i1:¬ (s.length:Int)<1:=by omega
 have i2:¬ (most:Int)<(s.length:Int):=by omega
 obtain ⟨c,r,hD⟩:∃ c r,s=c::r:=by
  cases s with
 |nil=>simp at h0
 |cons c r=>exact ⟨c,r,rfl⟩
 have hi0:=S_index0 c r w;rw [<- hD] at hi0;have hhd:s.head?=some c:=by rw [hD];rfl
 have HD:=Hm hD;clear hD
 by_cases hc:c=48
 . subst hc
   by_cases hlen:1<s.length
   . omega
   . have i3:¬ (1:Int)<(s.length:Int):=by omega
     have HC:=Hm (show NumC most false s by rintro (h|h|⟨_,h|h⟩)<;>first|omega|cases h)
     go_enter Tryz.func136,Tryz.ntmps136
     go_upto_region 9 with fail
     go_loop [10,11] (λvx vi=>∃ k acc:Nat,vx=.int .u64 (acc:Int)/\vi=.int .i64 (k:Int)/\k<=s.length/\Hid (acc<10 ^ k/\Lib.decFrom 0 s=Lib.decFrom acc (s.drop k))) (λ_ vi=>s.length-(intOf vi).toNat)
     case atStart=>exact ⟨0,0,rfl,rfl,by omega,by simp,rfl⟩
     case round =>
      obtain ⟨k,acc,rfl,rfl,hk,hh⟩:=hrel
      by_cases hkn:k<s.length
      . have hki:(k:Int)<(s.length:Int):=by omega
        have hix:=Jg s k w hkn;have hdrop:s.drop k=s[k]'hkn::s.drop (k+1):=List.drop_eq_getElem_cons hkn;have hget:s.getD k 0=s[k]'hkn:=by simp [List.getD,List.getElem?_eq_getElem hkn]
        have h18:=p18 hh.o.1 (by omega);have hdec:=hh.o.2;rw [hdrop,QE] at hdec;rw [hget] at hix;generalize s[k]'hkn=y at hix hdec;have hy:=y.toNat_lt
        cases hdv:Lib.digitVal y with
       |none =>
         rw [hdv] at hdec;have HN:=Hm (num_no (most:=most) (neg:=false) hdec);have hbad:=Lib.digitVal_none hdv;clear hdec hdrop hget hh hdv;generalize y.toNat=yn at *
         by_cases h48:yn<48
         . have i1:(yn:Int)<48:=by omega
           go_wp2
           go_ret2
           exact QP HN.o
         . have i1:¬ (yn:Int)<48:=by omega
           have i2:(57:Int)<(yn:Int):=by omega
           go_wp2
           go_ret2
           exact QP HN.o
       |some d =>
         rw [hdv] at hdec;obtain ⟨e1,e2,e3⟩:=Lib.digitVal_eq hdv;have HH:Hid (acc*10+d<10 ^ (k+1)/\Lib.decFrom 0 s=Lib.decFrom (acc*10+d) (s.drop (k+1))):=⟨by have:=hh.o.1;rw [Nat.pow_succ];omega,hdec⟩;clear hdec hdrop hget hh hdv;generalize y.toNat=yn at *;have i1:¬ (yn:Int)<48:=by omega
         have i2:¬ (57:Int)<(yn:Int):=by omega
         have w1:IntKind.u8.wrap ((yn:Int)-48)=(d:Int):=by rw [IntKind.wrap_u8];omega
         have w2:IntKind.u64.wrap (d:Int)=(d:Int):=by rw [IntKind.wrap_u64];omega
         have w3:IntKind.u64.wrap (10*(acc:Int))=10*(acc:Int):=by rw [IntKind.wrap_u64];omega
         have w4:IntKind.u64.wrap (10*(acc:Int)+(d:Int))=10*(acc:Int)+(d:Int):=by rw [IntKind.wrap_u64];omega
         have w5:IntKind.i64.wrap ((k:Int)+1)=(k:Int)+1:=by rw [IntKind.wrap_i64];omega
         go_wp2
         exact ⟨⟨k+1,acc*10+d,(by congr 1;omega),(by first|rfl|(congr 1;omega)),by omega,HH⟩,by simp [intOf];omega⟩
      . have ek:k=s.length:=by omega
        subst ek;have hdec:=hh.o.2;rw [List.drop_of_length_le (Nat.le_refl _)] at hdec;have h19:=p19 hh.o.1 (by omega);have HE:=Hm (num_end (neg:=false) HC.o (show Lib.decFrom 0 s=some acc from hdec));have hki:¬ (s.length:Int)<(s.length:Int):=by omega
        clear hdec hh hkn
        by_cases hle:acc<=9223372036854775807
        . have i1:(acc:Int)<=9223372036854775807:=by omega
          have w1:IntKind.i64.wrap (acc:Int)=(acc:Int):=by rw [IntKind.wrap_i64];omega
          go_wp2
          go_ret2
          have hb:(Jj most false s).isSome=true:=by rw [HE.o];simp [hle]
          exact ⟨rfl,(acc:Int),by rw [hb];rfl,λv hv=>by rw [HE.o] at hv;simp [hle] at hv;rw [<- hv]⟩
        . have i1:¬ (acc:Int)<=9223372036854775807:=by omega
          go_wp2
          go_ret2
          have hb:(Jj most false s).isSome=false:=by rw [HE.o];simp [hle]
          rw [NuP,hb]
          exact ⟨rfl,_,rfl,λv hv=>by rw [HE.o] at hv;simp [hle] at hv⟩
 . have h3:((c.toNat:Int)==48)=false:=u8_ne hc
   have HC:=Hm (show NumC most false s by
    rintro (h|h|⟨h,_⟩)
    . omega
    . omega
    . rw [hhd] at h;exact hc (by simpa using h))
   go_enter Tryz.func136,Tryz.ntmps136
   go_upto_region 9 with fail
   go_loop [10,11] (λvx vi=>∃ k acc:Nat,vx=.int .u64 (acc:Int)/\vi=.int .i64 (k:Int)/\k<=s.length/\Hid (acc<10 ^ k/\Lib.decFrom 0 s=Lib.decFrom acc (s.drop k))) (λ_ vi=>s.length-(intOf vi).toNat)
   case atStart=>exact ⟨0,0,rfl,rfl,by omega,by simp,rfl⟩
   case round =>
    obtain ⟨k,acc,rfl,rfl,hk,hh⟩:=hrel
    by_cases hkn:k<s.length
    . have hki:(k:Int)<(s.length:Int):=by omega
      have hix:=Jg s k w hkn;have hdrop:s.drop k=s[k]'hkn::s.drop (k+1):=List.drop_eq_getElem_cons hkn;have hget:s.getD k 0=s[k]'hkn:=by simp [List.getD,List.getElem?_eq_getElem hkn]
      have h18:=p18 hh.o.1 (by omega);have hdec:=hh.o.2;rw [hdrop,QE] at hdec;rw [hget] at hix;generalize s[k]'hkn=y at hix hdec;have hy:=y.toNat_lt
      cases hdv:Lib.digitVal y with
     |none =>
       rw [hdv] at hdec;have HN:=Hm (num_no (most:=most) (neg:=false) hdec);have hbad:=Lib.digitVal_none hdv;clear hdec hdrop hget hh hdv;generalize y.toNat=yn at *
       by_cases h48:yn<48
       . have i1:(yn:Int)<48:=by omega
         go_wp2
         go_ret2
         exact QP HN.o
       . have i1:¬ (yn:Int)<48:=by omega
         have i2:(57:Int)<(yn:Int):=by omega
         go_wp2
         go_ret2
         exact QP HN.o
     |some d =>
       rw [hdv] at hdec;obtain ⟨e1,e2,e3⟩:=Lib.digitVal_eq hdv;have HH:Hid (acc*10+d<10 ^ (k+1)/\Lib.decFrom 0 s=Lib.decFrom (acc*10+d) (s.drop (k+1))):=⟨by have:=hh.o.1;rw [Nat.pow_succ];omega,hdec⟩;clear hdec hdrop hget hh hdv;generalize y.toNat=yn at *;have i1:¬ (yn:Int)<48:=by omega
       have i2:¬ (57:Int)<(yn:Int):=by omega
       have w1:IntKind.u8.wrap ((yn:Int)-48)=(d:Int):=by rw [IntKind.wrap_u8];omega
       have w2:IntKind.u64.wrap (d:Int)=(d:Int):=by rw [IntKind.wrap_u64];omega
       have w3:IntKind.u64.wrap (10*(acc:Int))=10*(acc:Int):=by rw [IntKind.wrap_u64];omega
       have w4:IntKind.u64.wrap (10*(acc:Int)+(d:Int))=10*(acc:Int)+(d:Int):=by rw [IntKind.wrap_u64];omega
       have w5:IntKind.i64.wrap ((k:Int)+1)=(k:Int)+1:=by rw [IntKind.wrap_i64];omega
       go_wp2
       exact ⟨⟨k+1,acc*10+d,(by congr 1;omega),(by first|rfl|(congr 1;omega)),by omega,HH⟩,by simp [intOf];omega⟩
    . have ek:k=s.length:=by omega
      subst ek;have hdec:=hh.o.2;rw [List.drop_of_length_le (Nat.le_refl _)] at hdec;have h19:=p19 hh.o.1 (by omega);have HE:=Hm (num_end (neg:=false) HC.o (show Lib.decFrom 0 s=some acc from hdec));have hki:¬ (s.length:Int)<(s.length:Int):=by omega
      clear hdec hh hkn
      by_cases hle:acc<=9223372036854775807
      . have i1:(acc:Int)<=9223372036854775807:=by omega
        have w1:IntKind.i64.wrap (acc:Int)=(acc:Int):=by rw [IntKind.wrap_i64];omega
        go_wp2
        go_ret2
        have hb:(Jj most false s).isSome=true:=by rw [HE.o];simp [hle]
        exact ⟨rfl,(acc:Int),by rw [hb];rfl,λv hv=>by rw [HE.o] at hv;simp [hle] at hv;rw [<- hv]⟩
      . have i1:¬ (acc:Int)<=9223372036854775807:=by omega
        go_wp2
        go_ret2
        have hb:(Jj most false s).isSome=false:=by rw [HE.o];simp [hle]
        rw [NuP,hb]
        exact ⟨rfl,_,rfl,λv hv=>by rw [HE.o] at hv;simp [hle] at hv⟩
theorem sn3 (most:Nat)(s:Wd)(w:World)(hm:most<=19)(hl:s.length<=1099511627776)(a:UInt8)(q:Wd)(e3:s=a::q)(hw:1<s.length)(ha:a≠45) :
    Calls Tryz.prog 136 #[.string (S s),.int .i64 (most:Int),.bool true] w (NuP (Jj most false s) w):=by
 have hz:(S s).size=s.length:=Qn _;have hw1:(1:Int)<(s.length:Int):=by omega
 have ha1:((a.toNat:Int)==45)=false:=u8_ne ha;have hi0:=S_index0 a q w;rw [<- e3] at hi0;have HE3:=Hm e3;clear e3
 by_cases h0:s.length<1
 . omega
 by_cases h1:most<s.length
 . have HN:=Hm (show Jj most false s=none by unfold Jj;exact if_pos (.inr (.inl h1)));have i1:¬ (s.length:Int)<1:=by omega
   have i2:(most:Int)<(s.length:Int):=by omega
   go_enter Tryz.func136,Tryz.ntmps136
   go_wp2
   go_ret2
   exact QP HN.o
 have i1:¬ (s.length:Int)<1:=by omega
 have i2:¬ (most:Int)<(s.length:Int):=by omega
 obtain ⟨c,r,hD⟩:∃ c r,s=c::r:=by
  cases s with
 |nil=>simp at h0
 |cons c r=>exact ⟨c,r,rfl⟩
 have e3:=HE3.o;rw [e3] at hD
 cases hD
 have hhd:s.head?=some a:=by rw [e3];rfl
 have HD:=Hm e3;clear e3
 by_cases hc:a=48
 . subst hc
   by_cases hlen:1<s.length
   . have HN:=Hm (show Jj most false s=none by unfold Jj;exact if_pos (.inr (.inr ⟨hhd,.inl hlen⟩)))
     go_enter Tryz.func136,Tryz.ntmps136
     go_wp2
     go_ret2
     exact QP HN.o
   . omega
 . have h3:((a.toNat:Int)==48)=false:=u8_ne hc
   have HC:=Hm (show NumC most false s by
    rintro (h|h|⟨h,_⟩)
    . omega
    . omega
    . rw [hhd] at h;exact hc (by simpa using h))
   go_enter Tryz.func136,Tryz.ntmps136
   go_upto_region 9 with fail
   go_loop [10,11] (λvx vi=>∃ k acc:Nat,vx=.int .u64 (acc:Int)/\vi=.int .i64 (k:Int)/\k<=s.length/\Hid (acc<10 ^ k/\Lib.decFrom 0 s=Lib.decFrom acc (s.drop k))) (λ_ vi=>s.length-(intOf vi).toNat)
   case atStart=>exact ⟨0,0,rfl,rfl,by omega,by simp,rfl⟩
   case round =>
    obtain ⟨k,acc,rfl,rfl,hk,hh⟩:=hrel
    by_cases hkn:k<s.length
    . have hki:(k:Int)<(s.length:Int):=by omega
      have hix:=Jg s k w hkn;have hdrop:s.drop k=s[k]'hkn::s.drop (k+1):=List.drop_eq_getElem_cons hkn;have hget:s.getD k 0=s[k]'hkn:=by simp [List.getD,List.getElem?_eq_getElem hkn]
      have h18:=p18 hh.o.1 (by omega);have hdec:=hh.o.2;rw [hdrop,QE] at hdec;rw [hget] at hix;generalize s[k]'hkn=y at hix hdec;have hy:=y.toNat_lt
      cases hdv:Lib.digitVal y with
     |none =>
       rw [hdv] at hdec;have HN:=Hm (num_no (most:=most) (neg:=false) hdec);have hbad:=Lib.digitVal_none hdv;clear hdec hdrop hget hh hdv;generalize y.toNat=yn at *
       by_cases h48:yn<48
       . have i1:(yn:Int)<48:=by omega
         go_wp2
         go_ret2
         exact QP HN.o
       . have i1:¬ (yn:Int)<48:=by omega
         have i2:(57:Int)<(yn:Int):=by omega
         go_wp2
         go_ret2
         exact QP HN.o
     |some d =>
       rw [hdv] at hdec;obtain ⟨e1,e2,e3⟩:=Lib.digitVal_eq hdv;have HH:Hid (acc*10+d<10 ^ (k+1)/\Lib.decFrom 0 s=Lib.decFrom (acc*10+d) (s.drop (k+1))):=⟨by have:=hh.o.1;rw [Nat.pow_succ];omega,hdec⟩;clear hdec hdrop hget hh hdv;generalize y.toNat=yn at *;have i1:¬ (yn:Int)<48:=by omega
       have i2:¬ (57:Int)<(yn:Int):=by omega
       have w1:IntKind.u8.wrap ((yn:Int)-48)=(d:Int):=by rw [IntKind.wrap_u8];omega
       have w2:IntKind.u64.wrap (d:Int)=(d:Int):=by rw [IntKind.wrap_u64];omega
       have w3:IntKind.u64.wrap (10*(acc:Int))=10*(acc:Int):=by rw [IntKind.wrap_u64];omega
       have w4:IntKind.u64.wrap (10*(acc:Int)+(d:Int))=10*(acc:Int)+(d:Int):=by rw [IntKind.wrap_u64];omega
       have w5:IntKind.i64.wrap ((k:Int)+1)=(k:Int)+1:=by rw [IntKind.wrap_i64];omega
       go_wp2
       exact ⟨⟨k+1,acc*10+d,(by congr 1;omega),(by first|rfl|(congr 1;omega)),by omega,HH⟩,by simp [intOf];omega⟩
    . have ek:k=s.length:=by omega
      subst ek;have hdec:=hh.o.2;rw [List.drop_of_length_le (Nat.le_refl _)] at hdec;have h19:=p19 hh.o.1 (by omega);have HE:=Hm (num_end (neg:=false) HC.o (show Lib.decFrom 0 s=some acc from hdec));have hki:¬ (s.length:Int)<(s.length:Int):=by omega
      clear hdec hh hkn
      by_cases hle:acc<=9223372036854775807
      . have i1:(acc:Int)<=9223372036854775807:=by omega
        have w1:IntKind.i64.wrap (acc:Int)=(acc:Int):=by rw [IntKind.wrap_i64];omega
        go_wp2
        go_ret2
        have hb:(Jj most false s).isSome=true:=by rw [HE.o];simp [hle]
        exact ⟨rfl,(acc:Int),by rw [hb];rfl,λv hv=>by rw [HE.o] at hv;simp [hle] at hv;rw [<- hv]⟩
      . have i1:¬ (acc:Int)<=9223372036854775807:=by omega
        go_wp2
        go_ret2
        have hb:(Jj most false s).isSome=false:=by rw [HE.o];simp [hle]
        rw [NuP,hb]
        exact ⟨rfl,_,rfl,λv hv=>by rw [HE.o] at hv;simp [hle] at hv⟩
theorem sn4 (most:Nat)(s:Wd)(w:World)(hm:most<=19)(hl:(45::s).length<=1099511627776)(hw:s≠[]) :
    Calls Tryz.prog 136 #[.string (S (45::s)),.int .i64 (most:Int),.bool true] w (NuP (Jj most true s) w):=by
 have hz:(S s).size=s.length:=Qn _;have hz':(S (45::s)).size=s.length+1:=by rw [Qn];rfl
 have hw1:(1:Int)<(s.length:Int)+1:=by have:=List.length_pos_iff.2 hw;omega
 have hia:(Instr.index 9 (.string (S (45::s))) (.int .i64 0)).run Tryz.prog w=.ok (.int .u8 45) w:=S_index0 45 s w;have hxx:(S (45::s)).extract 1 (s.length+1)=S s:=by rw [show s.length+1=(45::s).length from rfl,GC (45::s) 1 _ rfl];rfl
 by_cases h0:s.length<1
 . have HN:=Hm (show Jj most true s=none by unfold Jj;exact if_pos (.inl h0));have i1:(s.length:Int)<1:=by omega
   go_enter Tryz.func136,Tryz.ntmps136
   go_wp2
   go_ret2
   exact QP HN.o
 by_cases h1:most<s.length
 . have HN:=Hm (show Jj most true s=none by unfold Jj;exact if_pos (.inr (.inl h1)));have i1:¬ (s.length:Int)<1:=by omega
   have i2:(most:Int)<(s.length:Int):=by omega
   go_enter Tryz.func136,Tryz.ntmps136
   go_wp2
   go_ret2
   exact QP HN.o
 have i1:¬ (s.length:Int)<1:=by omega
 have i2:¬ (most:Int)<(s.length:Int):=by omega
 obtain ⟨c,r,hD⟩:∃ c r,s=c::r:=by
  cases s with
 |nil=>simp at h0
 |cons c r=>exact ⟨c,r,rfl⟩
 have hi0:=S_index0 c r w;rw [<- hD] at hi0;have hhd:s.head?=some c:=by rw [hD];rfl
 have HD:=Hm hD;clear hD
 by_cases hc:c=48
 . subst hc
   by_cases hlen:1<s.length
   . have HN:=Hm (show Jj most true s=none by unfold Jj;exact if_pos (.inr (.inr ⟨hhd,.inl hlen⟩)));have i3:(1:Int)<(s.length:Int):=by omega
     go_enter Tryz.func136,Tryz.ntmps136
     go_wp2
     go_ret2
     exact QP HN.o
   . have HN:=Hm (show Jj most true s=none by unfold Jj;exact if_pos (.inr (.inr ⟨hhd,.inr rfl⟩)));have i3:¬ (1:Int)<(s.length:Int):=by omega
     go_enter Tryz.func136,Tryz.ntmps136
     go_wp2
     go_ret2
     exact QP HN.o
 . have h3:((c.toNat:Int)==48)=false:=u8_ne hc
   have HC:=Hm (show NumC most true s by
    rintro (h|h|⟨h,_⟩)
    . omega
    . omega
    . rw [hhd] at h;exact hc (by simpa using h))
   go_enter Tryz.func136,Tryz.ntmps136
   go_upto_region 9 with fail
   go_loop [10,11] (λvx vi=>∃ k acc:Nat,vx=.int .u64 (acc:Int)/\vi=.int .i64 (k:Int)/\k<=s.length/\Hid (acc<10 ^ k/\Lib.decFrom 0 s=Lib.decFrom acc (s.drop k))) (λ_ vi=>s.length-(intOf vi).toNat)
   case atStart=>exact ⟨0,0,rfl,rfl,by omega,by simp,rfl⟩
   case round =>
    obtain ⟨k,acc,rfl,rfl,hk,hh⟩:=hrel
    by_cases hkn:k<s.length
    . have hki:(k:Int)<(s.length:Int):=by omega
      have hix:=Jg s k w hkn;have hdrop:s.drop k=s[k]'hkn::s.drop (k+1):=List.drop_eq_getElem_cons hkn;have hget:s.getD k 0=s[k]'hkn:=by simp [List.getD,List.getElem?_eq_getElem hkn]
      have h18:=p18 hh.o.1 (by omega);have hdec:=hh.o.2;rw [hdrop,QE] at hdec;rw [hget] at hix;generalize s[k]'hkn=y at hix hdec;have hy:=y.toNat_lt
      cases hdv:Lib.digitVal y with
     |none =>
       rw [hdv] at hdec;have HN:=Hm (num_no (most:=most) (neg:=true) hdec);have hbad:=Lib.digitVal_none hdv;clear hdec hdrop hget hh hdv;generalize y.toNat=yn at *
       by_cases h48:yn<48
       . have i1:(yn:Int)<48:=by omega
         go_wp2
         go_ret2
         exact QP HN.o
       . have i1:¬ (yn:Int)<48:=by omega
         have i2:(57:Int)<(yn:Int):=by omega
         go_wp2
         go_ret2
         exact QP HN.o
     |some d =>
       rw [hdv] at hdec;obtain ⟨e1,e2,e3⟩:=Lib.digitVal_eq hdv;have HH:Hid (acc*10+d<10 ^ (k+1)/\Lib.decFrom 0 s=Lib.decFrom (acc*10+d) (s.drop (k+1))):=⟨by have:=hh.o.1;rw [Nat.pow_succ];omega,hdec⟩;clear hdec hdrop hget hh hdv;generalize y.toNat=yn at *;have i1:¬ (yn:Int)<48:=by omega
       have i2:¬ (57:Int)<(yn:Int):=by omega
       have w1:IntKind.u8.wrap ((yn:Int)-48)=(d:Int):=by rw [IntKind.wrap_u8];omega
       have w2:IntKind.u64.wrap (d:Int)=(d:Int):=by rw [IntKind.wrap_u64];omega
       have w3:IntKind.u64.wrap (10*(acc:Int))=10*(acc:Int):=by rw [IntKind.wrap_u64];omega
       have w4:IntKind.u64.wrap (10*(acc:Int)+(d:Int))=10*(acc:Int)+(d:Int):=by rw [IntKind.wrap_u64];omega
       have w5:IntKind.i64.wrap ((k:Int)+1)=(k:Int)+1:=by rw [IntKind.wrap_i64];omega
       go_wp2
       exact ⟨⟨k+1,acc*10+d,(by congr 1;omega),(by first|rfl|(congr 1;omega)),by omega,HH⟩,by simp [intOf];omega⟩
    . have ek:k=s.length:=by omega
      subst ek;have hdec:=hh.o.2;rw [List.drop_of_length_le (Nat.le_refl _)] at hdec;have h19:=p19 hh.o.1 (by omega);have HE:=Hm (num_end (neg:=true) HC.o (show Lib.decFrom 0 s=some acc from hdec));have hki:¬ (s.length:Int)<(s.length:Int):=by omega
      clear hdec hh hkn
      by_cases hle:acc<=9223372036854775808
      . have i1:(acc:Int)<=9223372036854775808:=by omega
        have w1:IntKind.i64.wrap (IntKind.u64.wrap (-(acc:Int)))=-(acc:Int):=by rw [IntKind.wrap_i64,IntKind.wrap_u64];omega
        go_wp2
        go_ret2
        have hb:(Jj most true s).isSome=true:=by rw [HE.o];simp [hle]
        exact ⟨rfl,-(acc:Int),by rw [hb];rfl,λv hv=>by rw [HE.o] at hv;simp [hle] at hv;rw [<- hv]⟩
      . have i1:¬ (acc:Int)<=9223372036854775808:=by omega
        go_wp2
        go_ret2
        have hb:(Jj most true s).isSome=false:=by rw [HE.o];simp [hle]
        rw [NuP,hb]
        exact ⟨rfl,_,rfl,λv hv=>by rw [HE.o] at hv;simp [hle] at hv⟩
theorem snum_c (most:Nat)(sg:Bool)(s:Wd)(w:World)(hm:most<=19)(hl:s.length<=1099511627776) :
    Calls Tryz.prog 136 #[.string (S s),.int .i64 (most:Int),.bool sg] w (NuP (Qp most sg s) w):=by
 cases sg with
|false=>exact sn1 most s w hm hl
|true =>
  by_cases h1:s.length<=1
  . have e:Qp most true s=Jj most false s:=by
      have:(true&&(decide (1<s.length)&&(s.head?==some 45)))=false:=by simp;omega
      unfold Qp Jj;simp only [this];rfl
    rw [e];exact sn2 most s w hm hl h1
  . cases s with
   |nil=>simp at h1
   |cons a q =>
     by_cases ha:a=45
     . subst ha;have hq:q≠[]:=by rintro rfl;simp at h1
       have e:Qp most true (45::q)=Jj most true q:=by
        have:(true&&(decide (1<(45::q).length)&&((45::q).head?==some 45)))=true:=by simp;exact List.length_pos_iff.2 hq
        unfold Qp Jj;simp only [this];rfl
       rw [e];exact sn4 most q w hm hl hq
     . have e:Qp most true (a::q)=Jj most false (a::q):=by
         have:(true&&(decide (1<(a::q).length)&&((a::q).head?==some 45)))=false:=by simp [ha]
         unfold Qp Jj;simp only [this];rfl
       rw [e];exact sn3 most (a::q) w hm hl a q rfl (by omega) ha
end Go.Proofs.YtipfjdogokanbaaGreatDoor.Yz
