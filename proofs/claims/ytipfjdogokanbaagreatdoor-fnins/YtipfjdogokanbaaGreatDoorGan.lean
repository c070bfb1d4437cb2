import Derived.Test.YtipfjdogokanbaaGreatDoorGaa
import Derived.Test.YtipfjdogokanbaaGreatDoorGam
import Derived.WalkSmall
import Derived.Deep.CutRange
import Derived.Deep.RegionWith
import Derived.Laws.Bits64b
import Derived.Lib.BitFns
import Derived.Lib.Walk
import Derived.Lib.Small
import Derived.Laws.Externs
import Derived.Lib.QuietBelow
import Derived.ChangeKeysEq
set_option linter.all false
set_option maxHeartbeats 400000000
set_option maxRecDepth 100000
set_option linter.all false
namespace Go.Proofs.YtipfjdogokanbaaGreatDoor.L3
open Go.RowKit
theorem mod_next (x k:Nat):x%4294967296 ^ (k+1)=x%4294967296 ^ k+4294967296 ^ k*(x / 4294967296 ^ k%4294967296):=by
 rw [Nat.pow_succ,Nat.mod_mul]
theorem put_next (V K y:Nat):V+K*(y%4294967296)+y / 4294967296*(K*4294967296)=V+K*y:=by
 have:=left_step 0 0 0 y 0 K (by omega) y
 have e:=Nat.mod_add_div y 4294967296
 have e2:y / 4294967296*(K*4294967296)=K*(4294967296*(y / 4294967296)):=by
  rw [Nat.mul_comm K 4294967296,Nat.mul_left_comm,<- Nat.mul_assoc,Nat.mul_comm K]
 rw [e2,Nat.add_assoc,<- Nat.mul_add,e]
theorem add_step {V c K x y p q k:Nat}(hK:K=4294967296 ^ k)(h:V+c*K=x%K+y%K)(hp:p=x / K%4294967296)(hq:q=y / K%4294967296) :
    V+K*((p+q+c)%4294967296)+(p+q+c) / 4294967296*(K*4294967296)=x%4294967296 ^ (k+1)+y%4294967296 ^ (k+1):=by
 rw [put_next,mod_next,mod_next,<- hK,<- hp,<- hq,Nat.mul_add,Nat.mul_add,Nat.mul_comm K c]
 omega
theorem add_end {V c x y n:Nat}(hx:x<4294967296 ^ n)(hy:y<4294967296 ^ n)(h:V+c*4294967296 ^ (n+1)=x%4294967296 ^ (n+1)+y%4294967296 ^ (n+1)):c=0:=by
 by_cases hc:c=0
 . exact hc
 . have h1:=Nat.mul_le_mul_right (4294967296 ^ (n+1)) (show 1<=c by omega);have h2:=Nat.mod_le x (4294967296 ^ (n+1));have h3:=Nat.mod_le y (4294967296 ^ (n+1));rw [Nat.pow_succ] at *
   omega
theorem addN_any (v u:Value)(x y:Nat)(w:World)(hx:bl x<=10000)(hy:bl y<=10000)(hX:SN w v x)(hY:SN w u y) :
    Calls Tryz.prog 176 #[v,u] w λe w'=>(∃ r,e=.returned r/\SN w' r (x+y))/\Below w.heap.size w w':=by
 obtain ⟨i0,hi,hz0,hz1,hz2⟩:=info_parts info22;have sx:=Gh (x:=x) (by omega);have sy:=Gh (x:=y) (by omega);have KX:=λwr k hk (hb:Below w.heap.size w wr)=>Hm (at_nat v x k wr (by omega) (hX.below hb) hk);have KY:=λwr k hk (hb:Below w.heap.size w wr)=>Hm (at_nat u y k wr (by omega) (hY.below hb) hk);have LX:=Hm (dg_lt x);have LY:=Hm (dg_lt y);obtain ⟨a,ca,rfl,hX⟩:=hX;obtain ⟨b,cb,rfl,hY⟩:=hY;clear hX hY hx hy;generalize (dg x).length=la at *;generalize (dg y).length=lb at *
 go_enter Tryz.func176,Tryz.ntmps176
 go_wp2
 go_loopw [5,6,7] (λv cv iv wr=>∃ (k c:Nat) (pre:List Nat),iv=.int .i64 (k:Int)/\cv=.int .u64 (c:Int)/\c<=1/\pre.length=k/\k<=max la lb+1/\Hid (AllD pre)/\Hid (vl pre+c*4294967296 ^ k=x%4294967296 ^ k+y%4294967296 ^ k)/\wr.ownsRow w.heap.size 23 1 v pre.length (UN pre)/\Below w.heap.size w wr) (λ_ _ iv _=>max la lb+2-(intOf iv).toNat)
 case atStart=>exact ⟨0,0,[],rfl,rfl,by omega,rfl,by omega,λd hd=>by simp at hd,by show _=_;simp [vl,Nat.mod_one],World.ownsRow_lit w #[] 0 (Nat.le_refl _) (Nat.zero_le _) rfl,(Below.refl _ _).alloc (Nat.le_refl _) _⟩
 case round =>
  obtain ⟨k,c,pre,rfl,rfl,hc,rfl,hk,HA,HQ,hown,hbel⟩:=hrel;have hsz:=hbel.size;have KXk:=KX wr pre.length (by omega) hbel;have KYk:=KY wr pre.length (by omega) hbel;have HS:=Hm (add_step rfl HQ.o rfl rfl);have hp:x / 4294967296 ^ pre.length%4294967296<4294967296:=Nat.mod_lt _ (by decide);have hq:y / 4294967296 ^ pre.length%4294967296<4294967296:=Nat.mod_lt _ (by decide)
  have HZ:pre.length=max la lb+1->c=0:=λe=>by
   have h:=HQ.o;rw [e] at h
   exact add_end (n:=max la lb) (Nat.lt_of_lt_of_le LX.o (Nat.pow_le_pow_right (by decide) (by omega))) (Nat.lt_of_lt_of_le LY.o (Nat.pow_le_pow_right (by decide) (by omega))) h
  have HEND:la<=pre.length->lb<=pre.length->c=0->Hid (vl pre=x+y):=λh1 h2 h3=>by
   have h:=HQ.o;rw [h3,Nat.mod_eq_of_lt (Nat.lt_of_lt_of_le LX.o (Nat.pow_le_pow_right (by decide) h1)),Nat.mod_eq_of_lt (Nat.lt_of_lt_of_le LY.o (Nat.pow_le_pow_right (by decide) h2))] at h
   show _=_
   omega
  generalize x / 4294967296 ^ pre.length%4294967296=p at *;generalize y / 4294967296 ^ pre.length%4294967296=q at *;clear KX KY HQ LX LY
  by_cases h1:pre.length<la
  . have t1:(pre.length:Int)<(la:Int):=by omega
    clear HZ HEND
    go_wp2_with fail
    refine KXk.o.mono ?_
    rintro e w1 ⟨rfl,rfl⟩
    go_wp2_with fail
    refine KYk.o.mono ?_
    rintro e w1 ⟨rfl,rfl⟩;have E1:Hid (((p:Int)+q+c)%4294967296=(((p+q+c)%4294967296:Nat):Int)):=by show _=_;omega
    go_wp2_with (first|(at_builtin;refine wpList_append_own _ rfl _ _ 196 rfl w.heap.size 23 i0 (.int .u64 0) 1 8 Tryz.underlying196 hi hz0 hz1 hz2 rfl (by decide) _ _ _ rfl (hown.alloc _) ⟨wr.heap.size,0,none⟩ 1 1 [.int .u64 (((p:Int)+q+c)%4294967296)] rfl rfl (cell_one_new _ _ _) (XV _) (by unfold maxLen;omega) (by omega) (by simp;omega) ?_;intro v' w1 hown' hgrow hnn))
    have hbel':=QJ hown hbel hsz hgrow;rw [E1.o] at hown';have hown2:=Q0 hown';clear hown' hgrow hown hbel hsz hnn
    go_wp2
    go_roundw
    case rel =>
     refine ⟨pre.length+1,(p+q+c) / 4294967296,pre++[(p+q+c)%4294967296],by go_num,by go_num,by omega,by simp,by omega,Gj HA.o (Nat.mod_lt _ (by decide)),?_,hown2,hbel'⟩
     show _=_
     rw [vl_one]
     have:=HS.o
     rw [Nat.pow_succ]
     exact this
    case measure =>
     simp [intOf];omega
  . have t1:¬ (pre.length:Int)<(la:Int):=by omega
    by_cases h2:pre.length<lb
    . have t2:(pre.length:Int)<(lb:Int):=by omega
      clear HZ HEND
      go_wp2_with fail
      refine KXk.o.mono ?_
      rintro e w1 ⟨rfl,rfl⟩
      go_wp2_with fail
      refine KYk.o.mono ?_
      rintro e w1 ⟨rfl,rfl⟩;have E1:Hid (((p:Int)+q+c)%4294967296=(((p+q+c)%4294967296:Nat):Int)):=by show _=_;omega
      go_wp2_with (first|(at_builtin;refine wpList_append_own _ rfl _ _ 196 rfl w.heap.size 23 i0 (.int .u64 0) 1 8 Tryz.underlying196 hi hz0 hz1 hz2 rfl (by decide) _ _ _ rfl (hown.alloc _) ⟨wr.heap.size,0,none⟩ 1 1 [.int .u64 (((p:Int)+q+c)%4294967296)] rfl rfl (cell_one_new _ _ _) (XV _) (by unfold maxLen;omega) (by omega) (by simp;omega) ?_;intro v' w1 hown' hgrow hnn))
      have hbel':=QJ hown hbel hsz hgrow;rw [E1.o] at hown';have hown2:=Q0 hown';clear hown' hgrow hown hbel hsz hnn
      go_wp2
      go_roundw
      case rel =>
       refine ⟨pre.length+1,(p+q+c) / 4294967296,pre++[(p+q+c)%4294967296],by go_num,by go_num,by omega,by simp,by omega,Gj HA.o (Nat.mod_lt _ (by decide)),?_,hown2,hbel'⟩
       show _=_
       rw [vl_one]
       have:=HS.o
       rw [Nat.pow_succ]
       exact this
      case measure =>
       simp [intOf];omega
    . have t2:¬ (pre.length:Int)<(lb:Int):=by omega
      by_cases h3:c=0
      . subst h3;have HE:=HEND (by omega) (by omega) rfl;have KT:=Hm (trim_own wr (x+y) (by omega) hown HA.o HE.o);have HB:=Hm hbel;clear HEND HZ HE hown hbel HS KXk KYk
        go_wp2_with fail
        refine KT.o.mono ?_
        rintro e w1 ⟨⟨r,rfl,hr⟩,rfl⟩
        go_wp2
        go_ret
        exact ⟨⟨r,rfl,hr⟩,HB.o⟩
      . have HK2:Hid (pre.length<=max la lb):=by
          by_cases e:pre.length=max la lb+1
          . exact absurd (HZ e) h3
          . show _<=_;omega
        obtain rfl:c=1:=by omega
        clear HZ HEND h1 h2 h3
        go_wp2_with fail
        refine KXk.o.mono ?_
        rintro e w1 ⟨rfl,rfl⟩
        go_wp2_with fail
        refine KYk.o.mono ?_
        rintro e w1 ⟨rfl,rfl⟩;have E1:Hid (((p:Int)+q+1)%4294967296=(((p+q+1)%4294967296:Nat):Int)):=by show _=_;omega
        go_wp2_with (first|(at_builtin;refine wpList_append_own _ rfl _ _ 196 rfl w.heap.size 23 i0 (.int .u64 0) 1 8 Tryz.underlying196 hi hz0 hz1 hz2 rfl (by decide) _ _ _ rfl (hown.alloc _) ⟨wr.heap.size,0,none⟩ 1 1 [.int .u64 (((p:Int)+q+1)%4294967296)] rfl rfl (cell_one_new _ _ _) (XV _) (by unfold maxLen;omega) (by omega) (by simp;omega) ?_;intro v' w1 hown' hgrow hnn))
        have hbel':=QJ hown hbel hsz hgrow;rw [E1.o] at hown';have hown2:=Q0 hown';clear hown' hgrow hown hbel hsz hnn
        go_wp2
        go_roundw
        case rel =>
         have hk2:=HK2.o
         refine ⟨pre.length+1,(p+q+1) / 4294967296,pre++[(p+q+1)%4294967296],by go_num,by go_num,by omega,by simp,by omega,Gj HA.o (Nat.mod_lt _ (by decide)),?_,hown2,hbel'⟩
         show _=_
         rw [vl_one]
         have:=HS.o
         rw [Nat.pow_succ]
         exact this
        case measure =>
         have hk2:=HK2.o
         simp [intOf];omega
end Go.Proofs.YtipfjdogokanbaaGreatDoor.L3
set_option linter.all false
namespace Go.Proofs.YtipfjdogokanbaaGreatDoor.L3
open Go.RowKit
theorem P2_nat (k:Nat):P2 (k:Int)=((2 ^ k:Nat):Int):=by unfold P2;simp
theorem pow_nat (n:Nat)(w:World)(h1:n<=63) :
    Calls Tryz.prog 101 #[.int .i64 (n:Int)] w λe w'=>e=.returned (.int .u64 ((2 ^ n:Nat):Int))/\w'=w:=by
 have h:=Qm n w (by omega) (by omega);rw [P2_nat] at h
 exact h.mono λe w' h=>⟨h.1,h.2.symm⟩
theorem left_next (x i q r V c d y:Nat)(h:V+c*4294967296 ^ (q+i)=x%4294967296 ^ i*2 ^ (32*q+r))(hd:d=x / 4294967296 ^ i%4294967296)(hy:y=d*2 ^ r+c) :
    V+4294967296 ^ (q+i)*(y%4294967296)+y / 4294967296*4294967296 ^ (q+i+1)=x%4294967296 ^ (i+1)*2 ^ (32*q+r):=by
 rw [Nat.pow_succ,put_next,mod_next,<- hd,Nat.add_mul,hy,Nat.mul_add]
 have e:4294967296 ^ (q+i)*(d*2 ^ r)=4294967296 ^ i*d*2 ^ (32*q+r):=by
  rw [Nat.pow_add,Nat.pow_add 2,<- pow32];generalize 4294967296 ^ q=Q;generalize 4294967296 ^ i=I;generalize 2 ^ r=R;rw [Nat.mul_comm Q I,Nat.mul_assoc,Nat.mul_assoc]
  congr 1
  rw [Nat.mul_left_comm]
 rw [e,Nat.mul_comm (4294967296 ^ (q+i)) c]
 omega
theorem left_any (v:Value)(x n q r:Nat)(w:World)(hn:n<=5000)(hnq:n=32*q+r)(hr:r<32)(hx:bl x<=5000)(hX:SN w v x) :
    Calls Tryz.prog 173 #[v,.int .i64 (n:Int)] w λe w'=>(∃ u,e=.returned u/\SN w' u (x*2 ^ n))/\Below w.heap.size w w':=by
 obtain ⟨i0,hi,hz0,hz1,hz2⟩:=info_parts info22;have sx:=Gh (x:=x) (by omega);obtain ⟨a,ca,rfl,hX⟩:=hX;have LX:=Hm (dg_lt x)
 have HC:Hid (∀ (wr:World) (i:Nat),i<(dg x).length->Below w.heap.size w wr->∃ b off,a=some ⟨b,off,none⟩/\wr.cell? ⟨b,off+i,none⟩=some (.int .u64 ((x / 4294967296 ^ i%4294967296:Nat):Int))):=by
  intro wr i hi' hb
  rcases hX.below hb with h|⟨b,off,e,hc⟩
  . rw [h] at hi';simp at hi'
  . exact ⟨b,off,e,by rw [hc i hi',dg_get]⟩
 have eq1:(n:Int) / 32=(q:Int):=by omega
 have er1:(n:Int)%32=(r:Int):=by omega
 have eq2:n / 32=q:=by omega
 have HN:=Hm hnq;have hq5:q<=200:=by omega
 have hpr:(2:Nat) ^ r<=2147483648:=Xn (show r<=31 by omega);have hpp:=Nat.two_pow_pos r;have KP:=λw=>Hm (pow_nat r w (by omega));generalize hP:2 ^ r=P at hpr hpp KP;clear hX hx hnq;generalize (dg x).length=L at *
 go_enter Tryz.func173,Tryz.ntmps173
 go_wp2
 go_loopw [5,6] (λv iv wr=>∃ k:Nat,k<=q/\iv=.int .i64 (k:Int)/\wr.ownsRow w.heap.size 23 1 v (List.replicate k 0).length (UN (List.replicate k 0))/\Below w.heap.size w wr) (λ_ iv _=>q-(intOf iv).toNat)
 case atStart=>exact ⟨0,by omega,rfl,World.ownsRow_lit w #[] 0 (Nat.le_refl _) (Nat.zero_le _) rfl,(Below.refl _ _).alloc (Nat.le_refl _) _⟩
 case round =>
  obtain ⟨k,hk,rfl,hown,hbel⟩:=hrel;have hsz:=hbel.size
  by_cases hlt:k<q
  . have t1:(k:Int)<(q:Int):=by omega
    have hlen:(List.replicate k 0).length=k:=by simp
    rw [hlen] at hown
    go_wp2_with (first|(at_builtin;refine wpList_append_own _ rfl _ _ 196 rfl w.heap.size 23 i0 (.int .u64 0) 1 8 Tryz.underlying196 hi hz0 hz1 hz2 rfl (by decide) _ _ _ rfl (hown.alloc _) ⟨wr.heap.size,0,none⟩ 1 1 [.int .u64 (0)] rfl rfl (cell_one_new _ _ _) (XV _) (by unfold maxLen;omega) (by omega) (by simp;omega) ?_;intro v' w1 hown' hgrow hnn))
    have hbel':=QJ hown hbel hsz hgrow
    have hown2:w1.ownsRow w.heap.size 23 1 v' (List.replicate (k+1) 0).length (UN (List.replicate (k+1) 0)):=by
     rw [List.replicate_succ',List.length_append,hlen]
     simpa using hown'
    clear hown' hgrow hown hbel hsz hnn
    go_wp2
    go_roundw
    case rel=>exact ⟨k+1,by omega,by go_num,hown2,hbel'⟩
    case measure=>simp [intOf];omega
  . have t1:¬ (k:Int)<(q:Int):=by omega
    obtain rfl:k=q:=by omega
    go_wp2
    go_loopw [5,7,8] (λv cv iv wr=>∃ (i c:Nat) (pre:List Nat),iv=.int .i64 (i:Int)/\cv=.int .u64 (c:Int)/\c<P/\i<=L/\pre.length=k+i/\Hid (AllD pre)/\Hid (vl pre+c*4294967296 ^ (k+i)=x%4294967296 ^ i*2 ^ (32*k+r))/\wr.ownsRow w.heap.size 23 1 v pre.length (UN pre)/\Below w.heap.size w wr) (λ_ _ iv _=>L-(intOf iv).toNat)
    case atStart=>exact ⟨0,0,_,rfl,rfl,hpp,Nat.zero_le _,by simp,allD_zeros k,by show _=_;simp [vl_zeros,Nat.mod_one],hown,hbel⟩
    case round =>
     clear hown hbel hsz;obtain ⟨i,c,pre,rfl,rfl,hc,hi',hl,HA,HQ,hown,hbel⟩:=hrel;have hsz:=hbel.size
     by_cases hlt:i<L
     . have t2:(i:Int)<(L:Int):=by omega
       obtain ⟨b,off,rfl,hcell⟩:=HC.o wr i hlt hbel;have HS:=λy hy=>Hm (left_next x i k r (vl pre) c _ y HQ.o rfl hy);have hd:x / 4294967296 ^ i%4294967296<4294967296:=Nat.mod_lt _ (by decide);generalize x / 4294967296 ^ i%4294967296=d at *;have hm1:d*P<=4294967295*P:=Nat.mul_le_mul_right P (by omega);obtain ⟨y,hy⟩:∃ y:Nat,y=d*P+c:=⟨_,rfl⟩;have hy1:y<4294967296*P:=by omega
       have HS:=HS y (by rw [hP];exact hy);have EY:(d:Int)*(P:Int)+(c:Int)=(y:Int):=by rw [hy];simp
       have EM:IntKind.u64.wrap ((d:Int)*(P:Int))=(d:Int)*(P:Int):=by
        have e:((d*P:Nat):Int)=(d:Int)*(P:Int):=by simp
        rw [IntKind.wrap_u64,<- e];omega
       have EW:IntKind.u64.wrap (y:Int)=(y:Int):=by rw [IntKind.wrap_u64];omega
       have HY:=Hm hy;clear hy
       go_upto_region 10 with fail
       go_quiet ((go_at_call 101;refine Calls.quiet_of_same (KP _).o))
       have hownq:(wr.drewN nq).ownsRow w.heap.size 23 1 u5 pre.length (UN pre):=hown;have hbelq:Below w.heap.size w (wr.drewN nq):=below_drewN hbel nq;clear hown hbel hsz hcell;generalize wr.drewN nq=wq at *;have hsz:=hbelq.size;have E1:Hid ((y:Int)%4294967296=((y%4294967296:Nat):Int)):=by show _=_;omega
       go_wp2_with (first|(at_builtin;refine wpList_append_own _ rfl _ _ 196 rfl w.heap.size 23 i0 (.int .u64 0) 1 8 Tryz.underlying196 hi hz0 hz1 hz2 rfl (by decide) _ _ _ rfl (hownq.alloc _) ⟨wq.heap.size,0,none⟩ 1 1 [.int .u64 ((y:Int)%4294967296)] rfl rfl (cell_one_new _ _ _) (XV _) (by unfold maxLen;omega) (by omega) (by simp;omega) ?_;intro v' w1 hown' hgrow hnn))
       have hbel':=QJ hownq hbelq hsz hgrow;rw [E1.o] at hown';have hown2:=Q0 hown';clear hown' hgrow hownq hbelq hsz hnn
       go_wp2
       go_roundw
       case rel =>
        have hy:=HY.o
        refine ⟨i+1,y / 4294967296,pre++[y%4294967296],by go_num,by go_num,?_,by omega,by simp;omega,Gj HA.o (Nat.mod_lt _ (by decide)),?_,hown2,hbel'⟩
        . rw [Nat.div_lt_iff_lt_mul (by decide),Nat.mul_comm];exact hy1
        . show _=_
          rw [vl_one,hl]
          have:=HS.o
          rw [<- Nat.add_assoc]
          exact this
       case measure=>simp [intOf];omega
     . have t2:¬ (i:Int)<(L:Int):=by omega
       obtain rfl:i=L:=by omega
       have HV:Hid (vl (pre++[c])=x*2 ^ n):=by
        show _=_
        have h:=HQ.o;rw [Nat.mod_eq_of_lt LX.o,<- HN.o] at h;rw [vl_one,hl,Nat.mul_comm _ c]
        exact h
       have HA2:=Hm (Gj (d:=c) HA.o (by omega))
       go_wp2_with (first|(at_builtin;refine wpList_append_own _ rfl _ _ 196 rfl w.heap.size 23 i0 (.int .u64 0) 1 8 Tryz.underlying196 hi hz0 hz1 hz2 rfl (by decide) _ _ _ rfl (hown.alloc _) ⟨wr.heap.size,0,none⟩ 1 1 [.int .u64 ((c:Int))] rfl rfl (cell_one_new _ _ _) (XV _) (by unfold maxLen;omega) (by omega) (by simp;omega) ?_;intro v' w1 hown' hgrow hnn))
       have hbel':=QJ hown hbel hsz hgrow;have hown2:=Q0 hown';have KT:=Hm (trim_own w1 (x*2 ^ n) (by simp;omega) hown2 HA2.o HV.o);have HB:=Hm hbel';clear hown' hgrow hown hbel hsz hnn hown2 hbel'
       go_wp2_with fail
       refine KT.o.mono ?_
       rintro e w2 ⟨⟨u,rfl,hu⟩,rfl⟩
       go_wp2
       go_ret
       exact ⟨⟨u,rfl,hu⟩,HB.o⟩
end Go.Proofs.YtipfjdogokanbaaGreatDoor.L3
set_option linter.all false
namespace Go.Proofs.YtipfjdogokanbaaGreatDoor.L3
open Go.RowKit
theorem right_dig (Y r P R:Nat)(hP:P=2 ^ r)(hR:R=2 ^ (32-r))(hr:r<32) :
    (Y%4294967296 / P+Y / 4294967296%4294967296%P*R)%4294967296=Y / P%4294967296/\Y%4294967296 / P+Y / 4294967296%4294967296%P*R<8589934592:=by
 have hPR:P*R=4294967296:=by rw [hP,hR,<- Nat.pow_add];rw [show r+(32-r)=32 by omega]
 have hp:0<P:=by rw [hP];exact Nat.two_pow_pos r
 have e1:Y / 4294967296%4294967296%P=Y / 4294967296%P:=by
  rw [<- hPR,Nat.mod_mul_right_mod]
 rw [e1];have hY:Y=Y%4294967296+4294967296*(Y / 4294967296):=(Nat.mod_add_div Y 4294967296).symm;have hlo:Y%4294967296<4294967296:=Nat.mod_lt _ (by decide);generalize Y%4294967296=lo at *;generalize Y / 4294967296=h at *
 have h1:Y / P=lo / P+R*h:=by
  rw [hY,<- hPR,Nat.mul_assoc,Nat.add_mul_div_left _ _ hp]
 have h2:=Nat.mod_add_div h P
 have h3:lo / P+R*h=(lo / P+h%P*R)+4294967296*(h / P):=by
  rw [<- hPR];have e:R*h=R*(h%P)+R*(P*(h / P)):=by rw [<- Nat.mul_add,h2]
  have e2:P*R*(h / P)=R*(P*(h / P)):=by rw [Nat.mul_comm P R,Nat.mul_assoc]
  rw [e,e2,Nat.mul_comm R (h%P)];omega
 have hq1:lo / P<R:=by rw [Nat.div_lt_iff_lt_mul hp,Nat.mul_comm,hPR];exact hlo
 have hq2:h%P<P:=Nat.mod_lt _ hp;have hq3:=Nat.mul_le_mul_right R (show h%P+1<=P by omega);rw [Nat.add_mul,hPR] at hq3
 refine ⟨?_,by omega⟩
 rw [h1,h3,Nat.add_mul_mod_self_left]
theorem right_at (x n q r j:Nat)(hn:n=32*q+r):x / 4294967296 ^ (q+j) / 2 ^ r=x / 2 ^ n / 4294967296 ^ j:=by
 rw [Nat.div_div_eq_div_mul,Nat.div_div_eq_div_mul,hn,Nat.pow_add,Nat.pow_add,<- pow32]
 congr 1
 generalize 4294967296 ^ q=Q;generalize 4294967296 ^ j=J;generalize 2 ^ r=R;rw [Nat.mul_assoc,Nat.mul_assoc,Nat.mul_comm J R]
theorem lost_next (x k:Nat):(decide (x%4294967296 ^ k≠0) || decide (x / 4294967296 ^ k%4294967296≠0))=decide (x%4294967296 ^ (k+1)≠0):=by
 rw [mod_next,Bool.eq_iff_iff];have hK:0<4294967296 ^ k:=Nat.pow_pos (by decide);generalize x / 4294967296 ^ k%4294967296=d;generalize x%4294967296 ^ k=m;generalize 4294967296 ^ k=K at *
 simp only [Bool.or_eq_true,decide_eq_true_eq]
 by_cases hd:d=0
 . subst hd;simp
 . have:0<K*d:=Nat.mul_pos hK (by omega)
   constructor
   . intro _;omega
   . intro _;right;exact hd
theorem lost_end (x n q r L k:Nat)(hn:n=32*q+r)(hL:x<4294967296 ^ L)(hk:k=min q L) :
    (decide (x%4294967296 ^ k≠0) || decide (x / 4294967296 ^ q%4294967296%2 ^ r≠0))=decide (x%2 ^ n≠0)\/32<=r:=by
 by_cases hr:32<=r
 . exact .inr hr
 left
 have e0:x%4294967296 ^ k=x%4294967296 ^ q:=by
  by_cases hq:q<=L
  . rw [hk,Nat.min_eq_left hq]
  . rw [hk,Nat.min_eq_right (by omega),Nat.mod_eq_of_lt hL,Nat.mod_eq_of_lt (Nat.lt_of_lt_of_le hL (Nat.pow_le_pow_right (by decide) (by omega)))]
 have e1:x / 4294967296 ^ q%4294967296%2 ^ r=x / 4294967296 ^ q%2 ^ r:=by
  have:4294967296=2 ^ r*2 ^ (32-r):=by rw [<- Nat.pow_add,show r+(32-r)=32 by omega]
  rw [this,<- this]
  conv=>lhs;rw [show (4294967296:Nat)=2 ^ r*2 ^ (32-r) from this]
  rw [Nat.mod_mul_right_mod,<- this]
 have e2:x%2 ^ n=x%4294967296 ^ q+4294967296 ^ q*(x / 4294967296 ^ q%2 ^ r):=by
  rw [hn,Nat.pow_add,<- pow32,Nat.mod_mul]
 rw [e0,e1,e2,Bool.eq_iff_iff];have hK:0<4294967296 ^ q:=Nat.pow_pos (by decide);generalize x / 4294967296 ^ q%2 ^ r=d;generalize x%4294967296 ^ q=m;generalize 4294967296 ^ q=K at *
 simp only [Bool.or_eq_true,decide_eq_true_eq]
 by_cases hd:d=0
 . subst hd;simp
 . have:0<K*d:=Nat.mul_pos hK (by omega)
   constructor
   . intro _;omega
   . intro _;right;exact hd
theorem right_any (v:Value)(x n q r:Nat)(w:World)(hn:n<=5000)(hnq:n=32*q+r)(hr:r<32)(hx:bl x<=5000)(hX:SN w v x) :
    Calls Tryz.prog 174 #[v,.int .i64 (n:Int)] w λe w'=>(∃ u,e=.returned (.tuple #[u,.bool (decide (x%2 ^ n≠0))])/\SN w' u (x / 2 ^ n))/\Below w.heap.size w w':=by
 obtain ⟨i0,hi,hz0,hz1,hz2⟩:=info_parts info22;have sx:=Gh (x:=x) (by omega);have KA:=λwr k hk (hb:Below w.heap.size w wr)=>Hm (at_nat v x k wr (by omega) (hX.below hb) hk);obtain ⟨a,ca,rfl,hX⟩:=hX;have LX:=Hm (dg_lt x)
 have HC:Hid (∀ (wr:World) (i:Nat),i<(dg x).length->Below w.heap.size w wr->∃ b off,a=some ⟨b,off,none⟩/\wr.cell? ⟨b,off+i,none⟩=some (.int .u64 ((x / 4294967296 ^ i%4294967296:Nat):Int))):=by
  intro wr i hi' hb
  rcases hX.below hb with h|⟨b,off,e,hc⟩
  . rw [h] at hi';simp at hi'
  . exact ⟨b,off,e,by rw [hc i hi',dg_get]⟩
 have eq1:(n:Int) / 32=(q:Int):=by omega
 have er1:(n:Int)%32=(r:Int):=by omega
 have HN:=Hm hnq;have hq5:q<=200:=by omega
 have hpr:(2:Nat) ^ r<=2147483648:=Xn (show r<=31 by omega);have hpp:=Nat.two_pow_pos r;have hRr:(2:Nat) ^ (32-r)<=4294967296:=Xn (show 32-r<=32 by omega);have hRp:=Nat.two_pow_pos (32-r);have KP:=λw=>Hm (pow_nat r w (by omega));have KR:=λw=>Hm (pow_nat (32-r) w (by omega));have e32:((32-r:Nat):Int)=32-(r:Int):=by omega
 obtain ⟨r2,hr2⟩:∃ r2:Int,32-(r:Int)=r2:=⟨_,rfl⟩;rw [e32,hr2] at KR;generalize hP:2 ^ r=P at hpr hpp KP;generalize hR:2 ^ (32-r)=R at hRr hRp KR;clear hX hx hnq e32;generalize (dg x).length=L at *;have HW0:Hid (Below w.heap.size w w):=Below.refl _ _
 go_enter Tryz.func174,Tryz.ntmps174
 go_wp2
 go_loop [6,7] (λlv iv=>∃ k:Nat,k<=q/\k<=L/\iv=.int .i64 (k:Int)/\∃ b:Bool,lv=.bool b/\Hid (b=decide (x%4294967296 ^ k≠0))) (λ_ iv=>q-(intOf iv).toNat)
 case atStart=>exact ⟨0,by omega,by omega,rfl,false,rfl,by show _=_;simp [Nat.mod_one]⟩
 case round =>
  obtain ⟨k,hkq,hkL,rfl,b0,rfl,HB0⟩:=hrel
  by_cases hlt:k<q/\k<L
  . obtain ⟨h1,h2⟩:=hlt;have t1:(k:Int)<(q:Int):=by omega
    have t2:(k:Int)<(L:Int):=by omega
    obtain ⟨b,off,rfl,hcell⟩:=HC.o w k h2 HW0.o;have HL:=Hm (lost_next x k);generalize x / 4294967296 ^ k%4294967296=d at *;clear KA HC KP KR
    cases b0
    . obtain ⟨z,hz⟩:∃ z:Bool,((d:Int) != 0)=z:=⟨_,rfl⟩
      go_wp2
      go_round
      case rel =>
       refine ⟨k+1,by omega,by omega,by go_num,_,rfl,?_⟩
       show _=_
       rw [<- HL.o,<- HB0.o,Bool.false_or]
       first|(rw [<- hz,Bool.eq_iff_iff];simp;try omega)|(rw [Bool.eq_iff_iff];simp;try omega)
      case measure=>simp [intOf];omega
    . go_wp2
      go_round
      case rel =>
       refine ⟨k+1,by omega,by omega,by go_num,_,rfl,?_⟩
       show _=_
       rw [<- HL.o,<- HB0.o,Bool.true_or]
      case measure=>simp [intOf];omega
  . have hkm:k=min q L:=by omega
    have HEnd:=Hm ((lost_end x n q r L k HN.o LX.o hkm).resolve_right (by omega));rw [<- HB0.o] at HEnd;have KAq:=KA w q (by omega) HW0.o;rw [hP] at HEnd;have hlt2:¬ k<q\/¬ k<L:=by omega
    clear hkm hlt;clear HB0;generalize x / 4294967296 ^ q%4294967296=dq at *;obtain ⟨lw,hlw⟩:∃ lw:Nat,lw=dq%P:=⟨_,rfl⟩
    by_cases h1:k<q
    . obtain rfl:L=k:=by omega
      have t1:(L:Int)<(q:Int):=by omega
      have EL:(dq:Int)%(P:Int)=(lw:Int):=by rw [hlw];simp
      have HLW:=Hm hlw;clear hlw
      go_wp2_with fail
      refine KAq.o.mono ?_
      rintro e w1 ⟨rfl,rfl⟩
      go_wp2_with fail
      refine ((KP _).o.mono λe w' h=>⟨h.1,h.2.symm⟩:Calls Tryz.prog 101 _ _ λe w'=>e=_/\_=w').mono ?_
      rintro e w1 ⟨rfl,rfl⟩
      go_wp2
      go_loopw [9,10] (λv iv wr=>∃ (m:Nat) (pre:List Nat),iv=.int .i64 (m:Int)/\q<=m/\m<=max q L/\pre.length+q=m/\Hid (AllD pre)/\Hid (vl pre=x / 2 ^ n%4294967296 ^ pre.length)/\wr.ownsRow w.heap.size 23 1 v pre.length (UN pre)/\Below w.heap.size w wr) (λ_ iv _=>max q L-(intOf iv).toNat)
      case atStart=>exact ⟨q,[],rfl,Nat.le_refl _,by omega,by simp,λd hd=>by simp at hd,by show _=_;simp [vl,Nat.mod_one],World.ownsRow_lit w #[] 0 (Nat.le_refl _) (Nat.zero_le _) rfl,(Below.refl _ _).alloc (Nat.le_refl _) _⟩
      case round =>
       obtain ⟨m,pre,rfl,hqm,hmL,hl,HA,HQ,hown,hbel⟩:=hrel;have hsz:=hbel.size
       by_cases hlt:m<L
       . exfalso;omega
       . have t2:¬ (m:Int)<(L:Int):=by omega
         have HV:Hid (vl pre=x / 2 ^ n):=by
          show _=_
          rw [HQ.o,Nat.mod_eq_of_lt];rw [Nat.div_lt_iff_lt_mul (Nat.two_pow_pos n)];have h1:x<4294967296 ^ (pre.length+q):=Nat.lt_of_lt_of_le LX.o (Nat.pow_le_pow_right (by decide) (by omega))
          have h2:4294967296 ^ (pre.length+q)<=4294967296 ^ pre.length*2 ^ n:=by
           rw [Nat.pow_add,pow32 q]
           exact Nat.mul_le_mul_left _ (Xn (by have:=HN.o;omega))
          omega
         have KT:=Hm (trim_own wr (x / 2 ^ n) (by omega) hown HA.o HV.o);have HB:=Hm hbel;clear hown hbel hsz KA HC KP KR
         cases b0
         . obtain ⟨z,hz⟩:∃ z:Bool,((lw:Int) != 0)=z:=⟨_,rfl⟩
           go_wp2_with fail
           refine KT.o.mono ?_
           rintro e w2 ⟨⟨u,rfl,hu⟩,rfl⟩
           go_wp2
           go_ret2
           refine ⟨⟨u,?_,hu⟩,HB.o⟩
           rw [<- HEnd.o,Bool.false_or]
           refine congrArg (λb=>Ending.returned (Value.tuple #[u,Value.bool b])) ?_
           have h9:=HLW.o;rw [<- h9]
           first|(rw [<- hz,Bool.eq_iff_iff];simp;try omega)|(rw [Bool.eq_iff_iff];simp;try omega)
         . go_wp2_with fail
           refine KT.o.mono ?_
           rintro e w2 ⟨⟨u,rfl,hu⟩,rfl⟩
           go_wp2
           go_ret2
           refine ⟨⟨u,?_,hu⟩,HB.o⟩
           rw [<- HEnd.o,Bool.true_or]
           rfl
    . obtain rfl:q=k:=by omega
      have EL:(dq:Int)%(P:Int)=(lw:Int):=by rw [hlw];simp
      have HLW:=Hm hlw;clear hlw
      go_wp2_with fail
      refine KAq.o.mono ?_
      rintro e w1 ⟨rfl,rfl⟩
      go_wp2_with fail
      refine ((KP _).o.mono λe w' h=>⟨h.1,h.2.symm⟩:Calls Tryz.prog 101 _ _ λe w'=>e=_/\_=w').mono ?_
      rintro e w1 ⟨rfl,rfl⟩
      go_wp2
      go_loopw [9,10] (λv iv wr=>∃ (m:Nat) (pre:List Nat),iv=.int .i64 (m:Int)/\q<=m/\m<=max q L/\pre.length+q=m/\Hid (AllD pre)/\Hid (vl pre=x / 2 ^ n%4294967296 ^ pre.length)/\wr.ownsRow w.heap.size 23 1 v pre.length (UN pre)/\Below w.heap.size w wr) (λ_ iv _=>max q L-(intOf iv).toNat)
      case atStart=>exact ⟨q,[],rfl,Nat.le_refl _,by omega,by simp,λd hd=>by simp at hd,by show _=_;simp [vl,Nat.mod_one],World.ownsRow_lit w #[] 0 (Nat.le_refl _) (Nat.zero_le _) rfl,(Below.refl _ _).alloc (Nat.le_refl _) _⟩
      case round =>
       obtain ⟨m,pre,rfl,hqm,hmL,hl,HA,HQ,hown,hbel⟩:=hrel;have hsz:=hbel.size
       by_cases hlt:m<L
       . have t2:(m:Int)<(L:Int):=by omega
         obtain ⟨b,off,rfl,hcell⟩:=HC.o wr m hlt hbel
         have KA1:∀ k,Hid (Calls Tryz.prog 175 #[.slice (some ⟨b,off,none⟩) L ca,.int .i64 ((m:Int)+1)] (wr.drewN k) λe w'=>e=.returned (.int .u64 ((x / 4294967296 ^ (m+1)%4294967296:Nat):Int))/\w'=wr.drewN k):=λk=>by
          have h:=(KA (wr.drewN k) (m+1) (by omega) (below_drewN hbel k)).o;have e:((m+1:Nat):Int)=(m:Int)+1:=by omega
          rw [e] at h
          exact h.mono λe w' h=>⟨h.1,h.2.symm⟩
         have hdig:=right_dig (x / 4294967296 ^ m) r P R hP.symm hR.symm hr;have e1:x / 4294967296 ^ m / 4294967296=x / 4294967296 ^ (m+1):=by rw [Nat.pow_succ,Nat.div_div_eq_div_mul]
         have e2:x / 4294967296 ^ m / P=x / 2 ^ n / 4294967296 ^ pre.length:=by
          rw [<- hP,<- right_at x n q r pre.length HN.o,Nat.add_comm,hl]
         rw [e1,e2] at hdig;obtain ⟨hdig,hbd⟩:=hdig;have HD:=Hm hdig;clear e1 e2 hdig KA;have hd0:x / 4294967296 ^ m%4294967296<4294967296:=Nat.mod_lt _ (by decide);have hd1:x / 4294967296 ^ (m+1)%4294967296<4294967296:=Nat.mod_lt _ (by decide);generalize x / 4294967296 ^ m%4294967296=d0 at *;generalize x / 4294967296 ^ (m+1)%4294967296=d1 at *;obtain ⟨y,hy⟩:∃ y:Nat,y=d0 / P+d1%P*R:=⟨_,rfl⟩;rw [<- hy] at HD hbd;have EY:(d0:Int) / (P:Int)+(d1:Int)%(P:Int)*(R:Int)=(y:Int):=by rw [hy];simp
         have EM:IntKind.u64.wrap ((d1:Int)%(P:Int)*(R:Int))=(d1:Int)%(P:Int)*(R:Int):=by
          obtain ⟨z,hz⟩:∃ z:Nat,z=d1%P*R:=⟨_,rfl⟩;have e:(z:Int)=(d1:Int)%(P:Int)*(R:Int):=by rw [hz];simp
          have hzl:z<=y:=by rw [hy,hz];exact Nat.le_add_left _ _
          rw [IntKind.wrap_u64,<- e];omega
         have ED:IntKind.u64.wrap ((d0:Int) / (P:Int))=(d0:Int) / (P:Int):=by
          obtain ⟨z,hz⟩:∃ z:Nat,z=d0 / P:=⟨_,rfl⟩;have e:(z:Int)=(d0:Int) / (P:Int):=by rw [hz];simp
          have hzl:z<=d0:=by rw [hz];exact Nat.div_le_self _ _
          rw [IntKind.wrap_u64,<- e];omega
         have EW:IntKind.u64.wrap (y:Int)=(y:Int):=by rw [IntKind.wrap_u64];omega
         clear hy
         go_upto_region 11 with fail
         go_quiet ((first|(go_at_call_of 101 (Value.int IntKind.i64 (r:Int));refine Calls.quiet_of_same (KP _).o)|(go_at_call_of 101 (Value.int IntKind.i64 r2);refine Calls.quiet_of_same (KR _).o)|(go_at_call 175;refine Calls.quiet_of_same (KA1 _).o)))
         have hownq:(wr.drewN nq).ownsRow w.heap.size 23 1 u9 pre.length (UN pre):=hown;have hbelq:Below w.heap.size w (wr.drewN nq):=below_drewN hbel nq;clear hown hbel hsz hcell KA1 hP hR EY EM EW ED hr2 KR KP HC HEnd EL er1 eq1;generalize wr.drewN nq=wq at *;have hsz:=hbelq.size;have E1:Hid ((y:Int)%4294967296=((y%4294967296:Nat):Int)):=by show _=_;omega
         go_wp2_with (first|(at_builtin;refine wpList_append_own _ rfl _ _ 196 rfl w.heap.size 23 i0 (.int .u64 0) 1 8 Tryz.underlying196 hi hz0 hz1 hz2 rfl (by decide) _ _ _ rfl (hownq.alloc _) ⟨wq.heap.size,0,none⟩ 1 1 [.int .u64 ((y:Int)%4294967296)] rfl rfl (cell_one_new _ _ _) (XV _) (by unfold maxLen;omega) (by omega) (by simp;omega) ?_;intro v' w1 hown' hgrow hnn))
         have hbel':=QJ hownq hbelq hsz hgrow;rw [E1.o] at hown';have hown2:=Q0 hown';clear hown' hgrow hownq hbelq hsz hnn
         go_wp2
         go_roundw
         case rel =>
          refine ⟨m+1,pre++[y%4294967296],by go_num,by omega,by omega,by simp;omega,Gj HA.o (Nat.mod_lt _ (by decide)),?_,hown2,hbel'⟩
          show _=_
          rw [vl_one,List.length_append,List.length_singleton,mod_next,<- HQ.o,<- HD.o]
         case measure=>simp [intOf];omega
       . have t2:¬ (m:Int)<(L:Int):=by omega
         have HV:Hid (vl pre=x / 2 ^ n):=by
          show _=_
          rw [HQ.o,Nat.mod_eq_of_lt];rw [Nat.div_lt_iff_lt_mul (Nat.two_pow_pos n)];have h1:x<4294967296 ^ (pre.length+q):=Nat.lt_of_lt_of_le LX.o (Nat.pow_le_pow_right (by decide) (by omega))
          have h2:4294967296 ^ (pre.length+q)<=4294967296 ^ pre.length*2 ^ n:=by
           rw [Nat.pow_add,pow32 q]
           exact Nat.mul_le_mul_left _ (Xn (by have:=HN.o;omega))
          omega
         have KT:=Hm (trim_own wr (x / 2 ^ n) (by omega) hown HA.o HV.o);have HB:=Hm hbel;clear hown hbel hsz KA HC KP KR
         cases b0
         . obtain ⟨z,hz⟩:∃ z:Bool,((lw:Int) != 0)=z:=⟨_,rfl⟩
           go_wp2_with fail
           refine KT.o.mono ?_
           rintro e w2 ⟨⟨u,rfl,hu⟩,rfl⟩
           go_wp2
           go_ret2
           refine ⟨⟨u,?_,hu⟩,HB.o⟩
           rw [<- HEnd.o,Bool.false_or]
           refine congrArg (λb=>Ending.returned (Value.tuple #[u,Value.bool b])) ?_
           have h9:=HLW.o;rw [<- h9]
           first|(rw [<- hz,Bool.eq_iff_iff];simp;try omega)|(rw [Bool.eq_iff_iff];simp;try omega)
         . go_wp2_with fail
           refine KT.o.mono ?_
           rintro e w2 ⟨⟨u,rfl,hu⟩,rfl⟩
           go_wp2
           go_ret2
           refine ⟨⟨u,?_,hu⟩,HB.o⟩
           rw [<- HEnd.o,Bool.true_or]
           rfl
end Go.Proofs.YtipfjdogokanbaaGreatDoor.L3
set_option linter.all false
namespace Go.Proofs.YtipfjdogokanbaaGreatDoor.L3
open Go.RowKit
abbrev WV (lo hi:Int):Value:=.agg #[.int .u64 lo,.int .u64 hi]
abbrev W2 (s:Nat):Value:=WV ((s%18446744073709551616:Nat):Int) ((s / 18446744073709551616:Nat):Int)
end Go.Proofs.YtipfjdogokanbaaGreatDoor.L3
set_option linter.all false
namespace Go.Proofs.YtipfjdogokanbaaGreatDoor.L3
open Go.RowKit
end Go.Proofs.YtipfjdogokanbaaGreatDoor.L3
set_option linter.all false
namespace Go.Proofs.YtipfjdogokanbaaGreatDoor.L3
open Go.RowKit Go.Sort
end Go.Proofs.YtipfjdogokanbaaGreatDoor.L3
set_option linter.all false
namespace Go.Proofs.YtipfjdogokanbaaGreatDoor.L3
open Go.RowKit Go.Sort
def goes (mode:Int)(g half below odd:Bool):Bool :=
 if mode=1 then !g&&(half || below) else if mode=2 then g&&(half || below) else if mode=0 then half&&(below || odd) else false
end Go.Proofs.YtipfjdogokanbaaGreatDoor.L3
set_option linter.all false
namespace Go.Proofs.YtipfjdogokanbaaGreatDoor.L3
open Go.RowKit Go.Sort
end Go.Proofs.YtipfjdogokanbaaGreatDoor.L3
set_option linter.all false
namespace Go.Proofs.YtipfjdogokanbaaGreatDoor.L3
open Go.RowKit Go.Sort
abbrev FSn:Value:=.agg #[.int .i64 24,.int .i64 8,.int .i64 (-149)]
abbrev FSw:Value:=.agg #[.int .i64 53,.int .i64 11,.int .i64 (-1074)]
abbrev SV (k:Int)(g:Bool)(sv:Value)(x:Int):Value:=.agg #[.int .i64 k,.bool g,sv,.int .i64 x]
def C3 (w:World)(g:Nat)(a b c:Value):Prop :=
 (w.cell? ⟨g,0,none⟩=some a/\w.cell? ⟨g,1,none⟩=some b/\w.cell? ⟨g,2,none⟩=some c)
theorem c3_new {w:World}{a b c:Value}{t:TypeId}:C3 (w.alloc (.cells #[a,b,c] t)) w.heap.size a b c :=
 ⟨Qi rfl rfl,Qi rfl rfl,Qi rfl rfl⟩
theorem C3.keep {w w1:World}{g:Nat}{a b c:Value}(h:C3 w g a b c)(hb:Below w.heap.size w w1):C3 w1 g a b c:=by
 obtain ⟨h0,h1,h2⟩:=h
 exact ⟨keepB h0 hb,keepB h1 hb,keepB h2 hb⟩
theorem C3.past {w:World}{o:Obj}{g:Nat}{a b c:Value}(h:C3 w g a b c):C3 (w.alloc o) g a b c :=
 h.keep ((Below.refl _ _).alloc (Nat.le_refl _) _)
theorem pow_8 (w:World):Calls Tryz.prog 101 #[.int .i64 8] w λe w'=>e=.returned (.int .u64 256)/\w'=w:=by
 have h:=Qm 8 w (by omega) (by omega);rw [show P2 8=256 by decide] at h
 exact h.mono λe w' h=>⟨h.1,h.2.symm⟩
theorem pow_9 (w:World):Calls Tryz.prog 101 #[.int .i64 9] w λe w'=>e=.returned (.int .u64 512)/\w'=w:=by
 have h:=Qm 9 w (by omega) (by omega);rw [show P2 9=512 by decide] at h
 exact h.mono λe w' h=>⟨h.1,h.2.symm⟩
theorem pow_11 (w:World):Calls Tryz.prog 101 #[.int .i64 11] w λe w'=>e=.returned (.int .u64 2048)/\w'=w:=by
 have h:=Qm 11 w (by omega) (by omega);rw [show P2 11=2048 by decide] at h
 exact h.mono λe w' h=>⟨h.1,h.2.symm⟩
theorem pow_12 (w:World):Calls Tryz.prog 101 #[.int .i64 12] w λe w'=>e=.returned (.int .u64 4096)/\w'=w:=by
 have h:=Qm 12 w (by omega) (by omega);rw [show P2 12=4096 by decide] at h
 exact h.mono λe w' h=>⟨h.1,h.2.symm⟩
theorem pow_22 (w:World):Calls Tryz.prog 101 #[.int .i64 22] w λe w'=>e=.returned (.int .u64 4194304)/\w'=w:=by
 have h:=Qm 22 w (by omega) (by omega);rw [show P2 22=4194304 by decide] at h
 exact h.mono λe w' h=>⟨h.1,h.2.symm⟩
theorem pow_23 (w:World):Calls Tryz.prog 101 #[.int .i64 23] w λe w'=>e=.returned (.int .u64 8388608)/\w'=w:=by
 have h:=Qm 23 w (by omega) (by omega);rw [show P2 23=8388608 by decide] at h
 exact h.mono λe w' h=>⟨h.1,h.2.symm⟩
theorem pow_24 (w:World):Calls Tryz.prog 101 #[.int .i64 24] w λe w'=>e=.returned (.int .u64 16777216)/\w'=w:=by
 have h:=Qm 24 w (by omega) (by omega);rw [show P2 24=16777216 by decide] at h
 exact h.mono λe w' h=>⟨h.1,h.2.symm⟩
theorem pow_31 (w:World):Calls Tryz.prog 101 #[.int .i64 31] w λe w'=>e=.returned (.int .u64 2147483648)/\w'=w:=by
 have h:=Qm 31 w (by omega) (by omega);rw [show P2 31=2147483648 by decide] at h
 exact h.mono λe w' h=>⟨h.1,h.2.symm⟩
theorem pow_51 (w:World):Calls Tryz.prog 101 #[.int .i64 51] w λe w'=>e=.returned (.int .u64 2251799813685248)/\w'=w:=by
 have h:=Qm 51 w (by omega) (by omega);rw [show P2 51=2251799813685248 by decide] at h
 exact h.mono λe w' h=>⟨h.1,h.2.symm⟩
theorem pow_52 (w:World):Calls Tryz.prog 101 #[.int .i64 52] w λe w'=>e=.returned (.int .u64 4503599627370496)/\w'=w:=by
 have h:=Qm 52 w (by omega) (by omega);rw [show P2 52=4503599627370496 by decide] at h
 exact h.mono λe w' h=>⟨h.1,h.2.symm⟩
theorem pow_53 (w:World):Calls Tryz.prog 101 #[.int .i64 53] w λe w'=>e=.returned (.int .u64 9007199254740992)/\w'=w:=by
 have h:=Qm 53 w (by omega) (by omega);rw [show P2 53=9007199254740992 by decide] at h
 exact h.mono λe w' h=>⟨h.1,h.2.symm⟩
theorem pow_63 (w:World):Calls Tryz.prog 101 #[.int .i64 63] w λe w'=>e=.returned (.int .u64 9223372036854775808)/\w'=w:=by
 have h:=Qm 63 w (by omega) (by omega);rw [show P2 63=9223372036854775808 by decide] at h
 exact h.mono λe w' h=>⟨h.1,h.2.symm⟩
theorem sign_n_t (w:World):Calls Tryz.prog 178 #[FSn,.bool true] w λe w'=>e=.returned (.int .u64 2147483648)/\Below w.heap.size w w':=by
 go_enter Tryz.func178,Tryz.ntmps178
 go_wp2_with (first|(go_at_call_of 101 (Value.int IntKind.i64 31);refine ((pow_31 _).mono λe w' h=>(⟨h.1,h.2.symm⟩:e=_/\_=w')).mono ?_;rintro e w' ⟨rfl,rfl⟩))
 go_ret
 exact ⟨rfl,by repeat (first|exact Below.refl _ _|refine Below.setCell ?_ (by first|(simp;done)|(simp;omega)|omega) _|refine Below.alloc ?_ (by first|(simp;done)|(simp;omega)) _|refine Below.drew ?_|refine below_drewN ?_ _)⟩
theorem sign_n_f (w:World):Calls Tryz.prog 178 #[FSn,.bool false] w λe w'=>e=.returned (.int .u64 0)/\Below w.heap.size w w':=by
 go_enter Tryz.func178,Tryz.ntmps178
 go_wp2
 go_ret
 exact ⟨rfl,by repeat (first|exact Below.refl _ _|refine Below.setCell ?_ (by first|(simp;done)|(simp;omega)|omega) _|refine Below.alloc ?_ (by first|(simp;done)|(simp;omega)) _|refine Below.drew ?_|refine below_drewN ?_ _)⟩
def sg_n (g:Bool):Int:=if g then 2147483648 else 0
theorem sign_n (g:Bool)(w:World):Calls Tryz.prog 178 #[FSn,.bool g] w λe w'=>e=.returned (.int .u64 (sg_n g))/\Below w.heap.size w w':=by
 cases g
 . exact sign_n_f w
 . exact sign_n_t w
theorem sg_n_bd (g:Bool):0<=sg_n g/\sg_n g<=2147483648:=by cases g<;>decide
theorem nan_n (w:World):Calls Tryz.prog 138 #[FSn] w λe w'=>e=.returned (.int .u64 2143289344)/\Below w.heap.size w w':=by
 go_enter Tryz.func138,Tryz.ntmps138
 go_wp2
 go_quiet ((first|(go_at_call_of 101 (Value.int IntKind.i64 9);refine Calls.quiet_of_same (pow_9 _))|(go_at_call_of 101 (Value.int IntKind.i64 22);refine Calls.quiet_of_same (pow_22 _))))
 go_wp2
 go_ret
 exact ⟨rfl,by repeat (first|exact Below.refl _ _|refine Below.setCell ?_ (by first|(simp;done)|(simp;omega)|omega) _|refine Below.alloc ?_ (by first|(simp;done)|(simp;omega)) _|refine Below.drew ?_|refine below_drewN ?_ _)⟩
theorem inf_n (g:Bool)(w:World):Calls Tryz.prog 179 #[FSn,.bool g] w λe w'=>e=.returned (.int .u64 (sg_n g+2139095040))/\Below w.heap.size w w':=by
 obtain ⟨hs0,hs1⟩:=sg_n_bd g;have KS:=λw=>Hm (sign_n g w);generalize sg_n g=S at *
 go_enter Tryz.func179,Tryz.ntmps179
 go_upto_region 1 with fail
 refine Qj (λwc=>C3 wc w.heap.size (.int .i64 24) (.int .i64 8) (.int .i64 (-149))/\Below w.heap.size w wc) ⟨c3_new,(Below.refl _ _).alloc (Nat.le_refl _) _⟩ ?_
 rintro w4 ⟨⟨q0,q1,q2⟩,hw4⟩;have kq0:=cell_regrown q0;have kq1:=cell_regrown q1;have kq2:=cell_regrown q2;have n1:IntKind.i64.wrap 23=23:=by decide
 have n2:IntKind.u64.wrap 255=255:=by decide
 have n3:IntKind.u64.wrap 2139095040=2139095040:=by decide
 have eW:IntKind.u64.wrap (S+2139095040)=S+2139095040:=by rw [IntKind.wrap_u64];omega
 have cS:∀ d os,Calls Tryz.prog 178 #[FSn,.bool g] (grow (redrawn w4 d) os) λe w''=>e=.returned (.int .u64 S)/\∃ p:Regrown,w''=grow (redrawn w4 p.d) p.os:=λd os=>Calls.regrown_of (KS _).o;have cP1:∀ d os,Calls Tryz.prog 101 #[.int .i64 8] (grow (redrawn w4 d) os) λe w''=>e=.returned (.int .u64 256)/\∃ p:Regrown,w''=grow (redrawn w4 p.d) p.os:=λd os=>Calls.regrown_of ((pow_8 _).mono λe w' h=>⟨h.1,by rw [h.2];exact Below.refl _ _⟩);have cP2:∀ d os,Calls Tryz.prog 101 #[.int .i64 23] (grow (redrawn w4 d) os) λe w''=>e=.returned (.int .u64 8388608)/\∃ p:Regrown,w''=grow (redrawn w4 p.d) p.os:=λd os=>Calls.regrown_of ((pow_23 _).mono λe w' h=>⟨h.1,by rw [h.2];exact Below.refl _ _⟩);have HW:=Hm hw4;clear hw4 KS
 refine wp_region_quiet_below (by kernel_rfl) (by kernel_rfl) ?_
 repeat (quiet_step ((first|(go_at_call 178;exact cS _ _)|(go_at_call_of 101 (Value.int IntKind.i64 8);exact cP1 _ _)|(go_at_call_of 101 (Value.int IntKind.i64 23);exact cP2 _ _))))
 refine wpQuiet_nil ?_
 intro _ hw'
 obtain ⟨⟨dq,osq⟩,hw''⟩:=hw';subst hw'';have hw5:=HW.o.trans ((below_regrown w4 dq osq).mono HW.o.size)
 show Exit.then _ _ Exit.normal _ (grow (redrawn w4 dq) osq)
 go_wp2
 go_ret
 exact ⟨rfl,hw5⟩
theorem sign_w_t (w:World):Calls Tryz.prog 178 #[FSw,.bool true] w λe w'=>e=.returned (.int .u64 9223372036854775808)/\Below w.heap.size w w':=by
 go_enter Tryz.func178,Tryz.ntmps178
 go_wp2_with (first|(go_at_call_of 101 (Value.int IntKind.i64 63);refine ((pow_63 _).mono λe w' h=>(⟨h.1,h.2.symm⟩:e=_/\_=w')).mono ?_;rintro e w' ⟨rfl,rfl⟩))
 go_ret
 exact ⟨rfl,by repeat (first|exact Below.refl _ _|refine Below.setCell ?_ (by first|(simp;done)|(simp;omega)|omega) _|refine Below.alloc ?_ (by first|(simp;done)|(simp;omega)) _|refine Below.drew ?_|refine below_drewN ?_ _)⟩
theorem sign_w_f (w:World):Calls Tryz.prog 178 #[FSw,.bool false] w λe w'=>e=.returned (.int .u64 0)/\Below w.heap.size w w':=by
 go_enter Tryz.func178,Tryz.ntmps178
 go_wp2
 go_ret
 exact ⟨rfl,by repeat (first|exact Below.refl _ _|refine Below.setCell ?_ (by first|(simp;done)|(simp;omega)|omega) _|refine Below.alloc ?_ (by first|(simp;done)|(simp;omega)) _|refine Below.drew ?_|refine below_drewN ?_ _)⟩
def sg_w (g:Bool):Int:=if g then 9223372036854775808 else 0
theorem sign_w (g:Bool)(w:World):Calls Tryz.prog 178 #[FSw,.bool g] w λe w'=>e=.returned (.int .u64 (sg_w g))/\Below w.heap.size w w':=by
 cases g
 . exact sign_w_f w
 . exact sign_w_t w
theorem sg_w_bd (g:Bool):0<=sg_w g/\sg_w g<=9223372036854775808:=by cases g<;>decide
theorem nan_w (w:World):Calls Tryz.prog 138 #[FSw] w λe w'=>e=.returned (.int .u64 9221120237041090560)/\Below w.heap.size w w':=by
 go_enter Tryz.func138,Tryz.ntmps138
 go_wp2
 go_quiet ((first|(go_at_call_of 101 (Value.int IntKind.i64 12);refine Calls.quiet_of_same (pow_12 _))|(go_at_call_of 101 (Value.int IntKind.i64 51);refine Calls.quiet_of_same (pow_51 _))))
 go_wp2
 go_ret
 exact ⟨rfl,by repeat (first|exact Below.refl _ _|refine Below.setCell ?_ (by first|(simp;done)|(simp;omega)|omega) _|refine Below.alloc ?_ (by first|(simp;done)|(simp;omega)) _|refine Below.drew ?_|refine below_drewN ?_ _)⟩
theorem inf_w (g:Bool)(w:World):Calls Tryz.prog 179 #[FSw,.bool g] w λe w'=>e=.returned (.int .u64 (sg_w g+9218868437227405312))/\Below w.heap.size w w':=by
 obtain ⟨hs0,hs1⟩:=sg_w_bd g;have KS:=λw=>Hm (sign_w g w);generalize sg_w g=S at *
 go_enter Tryz.func179,Tryz.ntmps179
 go_upto_region 1 with fail
 refine Qj (λwc=>C3 wc w.heap.size (.int .i64 53) (.int .i64 11) (.int .i64 (-1074))/\Below w.heap.size w wc) ⟨c3_new,(Below.refl _ _).alloc (Nat.le_refl _) _⟩ ?_
 rintro w4 ⟨⟨q0,q1,q2⟩,hw4⟩;have kq0:=cell_regrown q0;have kq1:=cell_regrown q1;have kq2:=cell_regrown q2;have n1:IntKind.i64.wrap 52=52:=by decide
 have n2:IntKind.u64.wrap 2047=2047:=by decide
 have n3:IntKind.u64.wrap 9218868437227405312=9218868437227405312:=by decide
 have eW:IntKind.u64.wrap (S+9218868437227405312)=S+9218868437227405312:=by rw [IntKind.wrap_u64];omega
 have cS:∀ d os,Calls Tryz.prog 178 #[FSw,.bool g] (grow (redrawn w4 d) os) λe w''=>e=.returned (.int .u64 S)/\∃ p:Regrown,w''=grow (redrawn w4 p.d) p.os:=λd os=>Calls.regrown_of (KS _).o;have cP1:∀ d os,Calls Tryz.prog 101 #[.int .i64 11] (grow (redrawn w4 d) os) λe w''=>e=.returned (.int .u64 2048)/\∃ p:Regrown,w''=grow (redrawn w4 p.d) p.os:=λd os=>Calls.regrown_of ((pow_11 _).mono λe w' h=>⟨h.1,by rw [h.2];exact Below.refl _ _⟩);have cP2:∀ d os,Calls Tryz.prog 101 #[.int .i64 52] (grow (redrawn w4 d) os) λe w''=>e=.returned (.int .u64 4503599627370496)/\∃ p:Regrown,w''=grow (redrawn w4 p.d) p.os:=λd os=>Calls.regrown_of ((pow_52 _).mono λe w' h=>⟨h.1,by rw [h.2];exact Below.refl _ _⟩);have HW:=Hm hw4;clear hw4 KS
 refine wp_region_quiet_below (by kernel_rfl) (by kernel_rfl) ?_
 repeat (quiet_step ((first|(go_at_call 178;exact cS _ _)|(go_at_call_of 101 (Value.int IntKind.i64 11);exact cP1 _ _)|(go_at_call_of 101 (Value.int IntKind.i64 52);exact cP2 _ _))))
 refine wpQuiet_nil ?_
 intro _ hw'
 obtain ⟨⟨dq,osq⟩,hw''⟩:=hw';subst hw'';have hw5:=HW.o.trans ((below_regrown w4 dq osq).mono HW.o.size)
 show Exit.then _ _ Exit.normal _ (grow (redrawn w4 dq) osq)
 go_wp2
 go_ret
 exact ⟨rfl,hw5⟩
end Go.Proofs.YtipfjdogokanbaaGreatDoor.L3
