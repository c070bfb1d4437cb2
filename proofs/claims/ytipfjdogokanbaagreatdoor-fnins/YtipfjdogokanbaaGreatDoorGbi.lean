import Derived.Test.YtipfjdogokanbaaGreatDoorGaa
import Derived.Test.YtipfjdogokanbaaGreatDoorGbe
set_option linter.all false
set_option maxHeartbeats 400000000
set_option maxRecDepth 100000
set_option linter.all false
namespace Go.Proofs.YtipfjdogokanbaaGreatDoor.Ed
open Go.RowKit Go.Sort
theorem lebU_sc (s:Nat)(ba:Option Addr)(bc:BC)(bs:List Int)(p:Nat)(w:World)(h:Sr w s ba bc bs p 0 0)(hA:Qt bs)(hl:bs.length<=1099511627776) :
    Calls Tryz.prog 92 #[.pointer (some ⟨s,0,none⟩),.int .i64 32,.bool false] w (SpP (Qp false 32 bs p) (λv=>.int .u64 v) isU w s ba bc bs):=by
 have HS:=Hm h;have HA:=Hm hA;clear h hA
 go_enter Tryz.func92,Tryz.ntmps92
 go_wp2_with fail
 go_loopw [7,9] (λx i wr=>∃ (k:Nat) (v:Int),i=.int .i64 (k:Int)/\x=.int .u64 v/\0<=v/\v<=18446744073709551615/\w.grownBy wr (some s)/\((k<=4/\v<By.P2 (7*(k:Int))/\Sv false bs p 32 k v/\Sr wr s ba bc bs (p+k) 0 0)\/(k=5/\∃ er a p',er≠0/\Qp false 32 bs p=.bad er a/\Sr wr s ba bc bs p' er a))) (λ_ i _=>6-(intOf i).toNat)
 case atStart=>exact ⟨0,0,rfl,rfl,by omega,by omega,World.grownBy.refl _ _,.inl ⟨by omega,by decide,rfl,HS.o⟩⟩
 case round =>
  obtain ⟨k,v,rfl,rfl,hv0,hv1,hg,hst⟩:=hrel;have HG:=Hm hg;clear hg HS
  rcases hst with ⟨hk,hvk,hsv,hs⟩|⟨hk,er,a,p',hne,hM,hs⟩
  . have hki:(k:Int)<=4:=by omega
    have c3:=hs.c3;have HSV:=Hm hsv;have HVK:=Hm hvk;have KT:=Hm (Xe s ba bc bs (p+k) wr hs hl);clear hsv hs hvk
    by_cases hpk:bs.length<=p+k
    . have HM:=Hm (sv_short HSV.o (by omega) hpk);have htm:Qy bs (p+k)=.bad 2 bs.length:=by unfold Qy;rw [if_pos hpk]
      rw [htm] at KT;have hq1:IntKind.u64.wrap v=v:=by rw [IntKind.wrap_u64];omega
      clear htm HSV
      go_wp2_with (first
       |(go_at_call 36;refine (KT.o).mono ?_;rintro e w1 ⟨hg1,u,p',rfl,rfl,hs1⟩;have HS1:=Hm hs1;have HG1:=Hm (Qa HG.o hg1);have e3:=hs1.c3;clear hg1 hs1)
       | (go_at_call 101;refine (By.Qm _ _ (by omega) (by omega)).mono ?_;rintro e w3 ⟨rfl,rfl⟩))
      go_ret
      refine ⟨HG1.o,?_⟩
      rw [HM.o]
      exact ⟨_,_,rfl,⟨_,rfl,by omega,by omega⟩,HS1.o⟩
    . have htm:Qy bs (p+k)=.ok (bs.getD (p+k) 0) (p+k+1):=by unfold Qy;rw [if_neg hpk]
      rw [htm] at KT;have hyb:=HA.o (p+k);have hpk':p+k<bs.length:=by omega
      have XM:=Hm (λh1 h2=>sv_more HSV.o hpk' h1 h2);have XL:=Hm (λh2 h3=>sv_long HSV.o (by omega) hpk' h2 h3);have XB:=Hm (λh2 h3 h4=>sv_bits HSV.o (by omega) hpk' h2 h3 h4);have XE:=Hm (λh2 h3=>sv_end HSV.o (by omega) hpk' h2 h3);have XS:=Hm (By.Jy v (bs.getD (p+k) 0) k hv0 HVK.o);clear htm HSV;generalize bs.getD (p+k) 0=y at *;obtain ⟨hy0,hy1⟩:=hyb;have KR:=Hm (λW=>By.rest_any false y (32-7*(k:Int)) W hy0 hy1 (by omega) (by omega));have ec:((p+k+1:Nat):Int)=(p:Int)+k+1:=by omega
      have HP:=Hm (By.Q7 (7*(k:Int)))
      by_cases hkl:k=4
      . have hkn:((k:Int)==4)=true:=by simp;omega
        have hkge:4<=(k:Int):=by omega
        have HKL:=Hm hkl;clear hkl
        by_cases hge:128<=y
        . have HM:=Hm (XL.o (by omega) hge);clear XM XL XB XE XS
          go_wp2_with (first
           |(go_at_call 36;refine (KT.o).mono ?_;rintro e w1 ⟨hg1,rfl,hs1⟩;have HS1:=Hm hs1;have HG1:=Hm (Qa HG.o hg1);have e1:=hs1.c1;have e3:=hs1.c3;have KF:=Hm (QY s ba bc bs (p+k+1) 7 ((p+k+1:Nat):Int) w1 hs1);clear hg1 hs1)
           |(go_at_call 128;refine (KR.o _).mono ?_;rintro e w2 ⟨rfl,rfl⟩)
           |(go_at_call 101;refine (By.Qm _ _ (by omega) (by omega)).mono ?_;rintro e w3 ⟨rfl,rfl⟩)
           | (go_at_call 38;refine (KF.o).mono ?_;rintro e w4 ⟨rfl,hs4,hg4⟩;have HS4:=Hm hs4;have HG4:=Hm (Qa HG1.o hg4);clear hs4 hg4))
          go_roundw
          case rel=>exact ⟨k+1,_,by go_num,rfl,(XD _).1,(XD _).2,HG4.o,.inr ⟨by have:=HKL.o;omega,7,_,_,by decide,HM.o,by have:=HS4.o;simpa using this⟩⟩
          case measure=>simp [intOf];have:=HKL.o;omega
        . have hlt:y<128:=by omega
          cases hok:By.rok false y (32-7*(k:Int))
          . have HM:=Hm (XB.o (by omega) hlt hok);rw [hok] at KR;clear XM XL XB XE XS hok
            go_wp2_with (first
             |(go_at_call 36;refine (KT.o).mono ?_;rintro e w1 ⟨hg1,rfl,hs1⟩;have HS1:=Hm hs1;have HG1:=Hm (Qa HG.o hg1);have e1:=hs1.c1;have e3:=hs1.c3;have KF:=Hm (QY s ba bc bs (p+k+1) 7 ((p+k+1:Nat):Int) w1 hs1);clear hg1 hs1)
             |(go_at_call 128;refine (KR.o _).mono ?_;rintro e w2 ⟨rfl,rfl⟩)
             |(go_at_call 101;refine (By.Qm _ _ (by omega) (by omega)).mono ?_;rintro e w3 ⟨rfl,rfl⟩)
             | (go_at_call 38;refine (KF.o).mono ?_;rintro e w4 ⟨rfl,hs4,hg4⟩;have HS4:=Hm hs4;have HG4:=Hm (Qa HG1.o hg4);clear hs4 hg4))
            go_ret
            refine ⟨HG4.o,?_⟩
            rw [HM.o]
            exact ⟨_,_,rfl,⟨_,rfl,XD _⟩,by have:=HS4.o;simpa using this⟩
          . have HM:=Hm (XE.o hlt (λ_=>hok));rw [hok] at KR;clear XM XL XB XE hok;have HV:Hid (IntKind.u64.wrap (v+IntKind.u64.wrap (y%128*By.P2 (7*(k:Int))))=By.fin false (v+y%128*By.P2 (7*(k:Int))) y k):=by show _=_;simp only [By.fin,Bool.false_eq_true,false_and,if_false];exact By.val1 (by omega)
            go_wp2_with (first
             |(go_at_call 36;refine (KT.o).mono ?_;rintro e w1 ⟨hg1,rfl,hs1⟩;have HS1:=Hm hs1;have HG1:=Hm (Qa HG.o hg1);have e1:=hs1.c1;have e3:=hs1.c3;have KF:=Hm (QY s ba bc bs (p+k+1) 7 ((p+k+1:Nat):Int) w1 hs1);clear hg1 hs1)
             |(go_at_call 128;refine (KR.o _).mono ?_;rintro e w2 ⟨rfl,rfl⟩)
             |(go_at_call 101;refine (By.Qm _ _ (by omega) (by omega)).mono ?_;rintro e w3 ⟨rfl,rfl⟩)
             | (go_at_call 38;refine (KF.o).mono ?_;rintro e w4 ⟨rfl,hs4,hg4⟩;have HS4:=Hm hs4;have HG4:=Hm (Qa HG1.o hg4);clear hs4 hg4))
            go_ret
            refine ⟨HG1.o,?_⟩
            rw [HM.o]
            exact ⟨by rw [HV.o];rfl,HS1.o⟩
      . have hkl':(k:Int)<4:=by omega
        have hkn:((k:Int)==4)=false:=by simp;omega
        by_cases hge:128<=y
        . have HSV1:=Hm (XM.o (by omega) (by omega) hge);have HXS:=Hm XS.o
          have hw1:Hid (IntKind.u64.wrap (v+IntKind.u64.wrap (y%128*By.P2 (7*(k:Int))))=v+y%128*By.P2 (7*(k:Int))):=by
           have h1:=XS.o;have h2:=By.Gl (n:=7*((k+1:Nat):Int)) (by omega);have h3:=By.mul_bd (y%128) (By.P2 (7*(k:Int))) (by omega) (by omega) HP.o
           show _=_
           rw [IntKind.wrap_u64,IntKind.wrap_u64];omega
          clear XM XL XB XE XS
          go_wp2_with (first
           |(go_at_call 36;refine (KT.o).mono ?_;rintro e w1 ⟨hg1,rfl,hs1⟩;have HS1:=Hm hs1;have HG1:=Hm (Qa HG.o hg1);have e1:=hs1.c1;have e3:=hs1.c3;have KF:=Hm (QY s ba bc bs (p+k+1) 7 ((p+k+1:Nat):Int) w1 hs1);clear hg1 hs1)
           |(go_at_call 128;refine (KR.o _).mono ?_;rintro e w2 ⟨rfl,rfl⟩)
           |(go_at_call 101;refine (By.Qm _ _ (by omega) (by omega)).mono ?_;rintro e w3 ⟨rfl,rfl⟩)
           | (go_at_call 38;refine (KF.o).mono ?_;rintro e w4 ⟨rfl,hs4,hg4⟩;have HS4:=Hm hs4;have HG4:=Hm (Qa HG1.o hg4);clear hs4 hg4))
          go_roundw
          case rel=>exact ⟨k+1,_,by go_num,rfl,by rw [hw1.o];exact HXS.o.1,by rw [hw1.o];have:=HXS.o.2;have h2:=By.Gl (n:=7*((k+1:Nat):Int)) (by omega);omega,HG1.o,.inl ⟨by omega,by rw [hw1.o];exact HXS.o.2,by rw [hw1.o];exact HSV1.o,HS1.o⟩⟩
          case measure=>simp [intOf];omega
        . have hlt:y<128:=by omega
          have HM:=Hm (XE.o hlt (λh=>by omega));clear XM XL XB XE;have HV:Hid (IntKind.u64.wrap (v+IntKind.u64.wrap (y%128*By.P2 (7*(k:Int))))=By.fin false (v+y%128*By.P2 (7*(k:Int))) y k):=by show _=_;simp only [By.fin,Bool.false_eq_true,false_and,if_false];exact By.val1 (by omega)
          go_wp2_with (first
           |(go_at_call 36;refine (KT.o).mono ?_;rintro e w1 ⟨hg1,rfl,hs1⟩;have HS1:=Hm hs1;have HG1:=Hm (Qa HG.o hg1);have e1:=hs1.c1;have e3:=hs1.c3;have KF:=Hm (QY s ba bc bs (p+k+1) 7 ((p+k+1:Nat):Int) w1 hs1);clear hg1 hs1)
           |(go_at_call 128;refine (KR.o _).mono ?_;rintro e w2 ⟨rfl,rfl⟩)
           |(go_at_call 101;refine (By.Qm _ _ (by omega) (by omega)).mono ?_;rintro e w3 ⟨rfl,rfl⟩)
           | (go_at_call 38;refine (KF.o).mono ?_;rintro e w4 ⟨rfl,hs4,hg4⟩;have HS4:=Hm hs4;have HG4:=Hm (Qa HG1.o hg4);clear hs4 hg4))
          go_ret
          refine ⟨HG1.o,?_⟩
          rw [HM.o]
          exact ⟨by rw [HV.o];rfl,HS1.o⟩
  . have hk2:¬ (k:Int)<=4:=by omega
    clear hk;have c3:=hs.c3;have HM:=Hm hM;have HS1:=Hm hs;clear hs hM
    go_wp2_with fail
    go_ret
    refine ⟨HG.o,?_⟩
    rw [HM.o]
    exact ⟨_,_,rfl,⟨_,rfl,hv0,hv1⟩,HS1.o⟩
end Go.Proofs.YtipfjdogokanbaaGreatDoor.Ed
namespace Go.Proofs.YtipfjdogokanbaaGreatDoor.Ed
open Go.RowKit Go.Sort
theorem lebS_sc (s:Nat)(ba:Option Addr)(bc:BC)(bs:List Int)(p:Nat)(w:World)(h:Sr w s ba bc bs p 0 0)(hA:Qt bs)(hl:bs.length<=1099511627776) :
    Calls Tryz.prog 92 #[.pointer (some ⟨s,0,none⟩),.int .i64 32,.bool true] w (SpP (Qp true 32 bs p) (λv=>.int .u64 v) isU w s ba bc bs):=by
 have HS:=Hm h;have HA:=Hm hA;clear h hA
 go_enter Tryz.func92,Tryz.ntmps92
 go_wp2_with fail
 go_loopw [7,9] (λx i wr=>∃ (k:Nat) (v:Int),i=.int .i64 (k:Int)/\x=.int .u64 v/\0<=v/\v<=18446744073709551615/\w.grownBy wr (some s)/\((k<=4/\v<By.P2 (7*(k:Int))/\Sv true bs p 32 k v/\Sr wr s ba bc bs (p+k) 0 0)\/(k=5/\∃ er a p',er≠0/\Qp true 32 bs p=.bad er a/\Sr wr s ba bc bs p' er a))) (λ_ i _=>6-(intOf i).toNat)
 case atStart=>exact ⟨0,0,rfl,rfl,by omega,by omega,World.grownBy.refl _ _,.inl ⟨by omega,by decide,rfl,HS.o⟩⟩
 case round =>
  obtain ⟨k,v,rfl,rfl,hv0,hv1,hg,hst⟩:=hrel;have HG:=Hm hg;clear hg HS
  rcases hst with ⟨hk,hvk,hsv,hs⟩|⟨hk,er,a,p',hne,hM,hs⟩
  . have hki:(k:Int)<=4:=by omega
    have c3:=hs.c3;have HSV:=Hm hsv;have HVK:=Hm hvk;have KT:=Hm (Xe s ba bc bs (p+k) wr hs hl);clear hsv hs hvk
    by_cases hpk:bs.length<=p+k
    . have HM:=Hm (sv_short HSV.o (by omega) hpk);have htm:Qy bs (p+k)=.bad 2 bs.length:=by unfold Qy;rw [if_pos hpk]
      rw [htm] at KT;have hq1:IntKind.u64.wrap v=v:=by rw [IntKind.wrap_u64];omega
      clear htm HSV
      go_wp2_with (first
       |(go_at_call 36;refine (KT.o).mono ?_;rintro e w1 ⟨hg1,u,p',rfl,rfl,hs1⟩;have HS1:=Hm hs1;have HG1:=Hm (Qa HG.o hg1);have e3:=hs1.c3;clear hg1 hs1)
       | (go_at_call 101;refine (By.Qm _ _ (by omega) (by omega)).mono ?_;rintro e w3 ⟨rfl,rfl⟩))
      go_ret
      refine ⟨HG1.o,?_⟩
      rw [HM.o]
      exact ⟨_,_,rfl,⟨_,rfl,by omega,by omega⟩,HS1.o⟩
    . have htm:Qy bs (p+k)=.ok (bs.getD (p+k) 0) (p+k+1):=by unfold Qy;rw [if_neg hpk]
      rw [htm] at KT;have hyb:=HA.o (p+k);have hpk':p+k<bs.length:=by omega
      have XM:=Hm (λh1 h2=>sv_more HSV.o hpk' h1 h2);have XL:=Hm (λh2 h3=>sv_long HSV.o (by omega) hpk' h2 h3);have XB:=Hm (λh2 h3 h4=>sv_bits HSV.o (by omega) hpk' h2 h3 h4);have XE:=Hm (λh2 h3=>sv_end HSV.o (by omega) hpk' h2 h3);have XS:=Hm (By.Jy v (bs.getD (p+k) 0) k hv0 HVK.o);clear htm HSV;generalize bs.getD (p+k) 0=y at *;obtain ⟨hy0,hy1⟩:=hyb;have KR:=Hm (λW=>By.rest_any true y (32-7*(k:Int)) W hy0 hy1 (by omega) (by omega));have ec:((p+k+1:Nat):Int)=(p:Int)+k+1:=by omega
      have HP:=Hm (By.Q7 (7*(k:Int)))
      by_cases hkl:k=4
      . have hkn:((k:Int)==4)=true:=by simp;omega
        have hkge:4<=(k:Int):=by omega
        have HKL:=Hm hkl;clear hkl
        by_cases hge:128<=y
        . have HM:=Hm (XL.o (by omega) hge);clear XM XL XB XE XS
          go_wp2_with (first
           |(go_at_call 36;refine (KT.o).mono ?_;rintro e w1 ⟨hg1,rfl,hs1⟩;have HS1:=Hm hs1;have HG1:=Hm (Qa HG.o hg1);have e1:=hs1.c1;have e3:=hs1.c3;have KF:=Hm (QY s ba bc bs (p+k+1) 7 ((p+k+1:Nat):Int) w1 hs1);clear hg1 hs1)
           |(go_at_call 128;refine (KR.o _).mono ?_;rintro e w2 ⟨rfl,rfl⟩)
           |(go_at_call 101;refine (By.Qm _ _ (by omega) (by omega)).mono ?_;rintro e w3 ⟨rfl,rfl⟩)
           | (go_at_call 38;refine (KF.o).mono ?_;rintro e w4 ⟨rfl,hs4,hg4⟩;have HS4:=Hm hs4;have HG4:=Hm (Qa HG1.o hg4);clear hs4 hg4))
          go_roundw
          case rel=>exact ⟨k+1,_,by go_num,rfl,(XD _).1,(XD _).2,HG4.o,.inr ⟨by have:=HKL.o;omega,7,_,_,by decide,HM.o,by have:=HS4.o;simpa using this⟩⟩
          case measure=>simp [intOf];have:=HKL.o;omega
        . have hlt:y<128:=by omega
          cases hok:By.rok true y (32-7*(k:Int))
          . have HM:=Hm (XB.o (by omega) hlt hok);rw [hok] at KR;clear XM XL XB XE XS hok
            by_cases h64:64<=y
            . skip
              go_wp2_with (first
               |(go_at_call 36;refine (KT.o).mono ?_;rintro e w1 ⟨hg1,rfl,hs1⟩;have HS1:=Hm hs1;have HG1:=Hm (Qa HG.o hg1);have e1:=hs1.c1;have e3:=hs1.c3;have KF:=Hm (QY s ba bc bs (p+k+1) 7 ((p+k+1:Nat):Int) w1 hs1);clear hg1 hs1)
               |(go_at_call 128;refine (KR.o _).mono ?_;rintro e w2 ⟨rfl,rfl⟩)
               |(go_at_call 101;refine (By.Qm _ _ (by omega) (by omega)).mono ?_;rintro e w3 ⟨rfl,rfl⟩)
               | (go_at_call 38;refine (KF.o).mono ?_;rintro e w4 ⟨rfl,hs4,hg4⟩;have HS4:=Hm hs4;have HG4:=Hm (Qa HG1.o hg4);clear hs4 hg4))
              go_ret
              refine ⟨HG4.o,?_⟩
              rw [HM.o]
              exact ⟨_,_,rfl,⟨_,rfl,XD _⟩,by have:=HS4.o;simpa using this⟩
            . have h64':y<64:=by omega
              skip
              go_wp2_with (first
               |(go_at_call 36;refine (KT.o).mono ?_;rintro e w1 ⟨hg1,rfl,hs1⟩;have HS1:=Hm hs1;have HG1:=Hm (Qa HG.o hg1);have e1:=hs1.c1;have e3:=hs1.c3;have KF:=Hm (QY s ba bc bs (p+k+1) 7 ((p+k+1:Nat):Int) w1 hs1);clear hg1 hs1)
               |(go_at_call 128;refine (KR.o _).mono ?_;rintro e w2 ⟨rfl,rfl⟩)
               |(go_at_call 101;refine (By.Qm _ _ (by omega) (by omega)).mono ?_;rintro e w3 ⟨rfl,rfl⟩)
               | (go_at_call 38;refine (KF.o).mono ?_;rintro e w4 ⟨rfl,hs4,hg4⟩;have HS4:=Hm hs4;have HG4:=Hm (Qa HG1.o hg4);clear hs4 hg4))
              go_ret
              refine ⟨HG4.o,?_⟩
              rw [HM.o]
              exact ⟨_,_,rfl,⟨_,rfl,XD _⟩,by have:=HS4.o;simpa using this⟩
          . have HM:=Hm (XE.o hlt (λ_=>hok));rw [hok] at KR;clear XM XL XB XE hok
            by_cases h64:64<=y
            . have HV:Hid (IntKind.u64.wrap (IntKind.u64.wrap (v+IntKind.u64.wrap (y%128*By.P2 (7*(k:Int))))-By.P2 (7*(k:Int)+7))=By.fin true (v+y%128*By.P2 (7*(k:Int))) y k):=by show _=_;simp only [By.fin,true_and,h64,if_true];exact By.val2 (by omega)
              go_wp2_with (first
               |(go_at_call 36;refine (KT.o).mono ?_;rintro e w1 ⟨hg1,rfl,hs1⟩;have HS1:=Hm hs1;have HG1:=Hm (Qa HG.o hg1);have e1:=hs1.c1;have e3:=hs1.c3;have KF:=Hm (QY s ba bc bs (p+k+1) 7 ((p+k+1:Nat):Int) w1 hs1);clear hg1 hs1)
               |(go_at_call 128;refine (KR.o _).mono ?_;rintro e w2 ⟨rfl,rfl⟩)
               |(go_at_call 101;refine (By.Qm _ _ (by omega) (by omega)).mono ?_;rintro e w3 ⟨rfl,rfl⟩)
               | (go_at_call 38;refine (KF.o).mono ?_;rintro e w4 ⟨rfl,hs4,hg4⟩;have HS4:=Hm hs4;have HG4:=Hm (Qa HG1.o hg4);clear hs4 hg4))
              go_ret
              refine ⟨HG1.o,?_⟩
              rw [HM.o]
              exact ⟨by rw [HV.o];rfl,HS1.o⟩
            . have h64':y<64:=by omega
              have HV:Hid (IntKind.u64.wrap (v+IntKind.u64.wrap (y%128*By.P2 (7*(k:Int))))=By.fin true (v+y%128*By.P2 (7*(k:Int))) y k):=by show _=_;simp only [By.fin,true_and,h64,if_false];exact By.val1 (by omega)
              go_wp2_with (first
               |(go_at_call 36;refine (KT.o).mono ?_;rintro e w1 ⟨hg1,rfl,hs1⟩;have HS1:=Hm hs1;have HG1:=Hm (Qa HG.o hg1);have e1:=hs1.c1;have e3:=hs1.c3;have KF:=Hm (QY s ba bc bs (p+k+1) 7 ((p+k+1:Nat):Int) w1 hs1);clear hg1 hs1)
               |(go_at_call 128;refine (KR.o _).mono ?_;rintro e w2 ⟨rfl,rfl⟩)
               |(go_at_call 101;refine (By.Qm _ _ (by omega) (by omega)).mono ?_;rintro e w3 ⟨rfl,rfl⟩)
               | (go_at_call 38;refine (KF.o).mono ?_;rintro e w4 ⟨rfl,hs4,hg4⟩;have HS4:=Hm hs4;have HG4:=Hm (Qa HG1.o hg4);clear hs4 hg4))
              go_ret
              refine ⟨HG1.o,?_⟩
              rw [HM.o]
              exact ⟨by rw [HV.o];rfl,HS1.o⟩
      . have hkl':(k:Int)<4:=by omega
        have hkn:((k:Int)==4)=false:=by simp;omega
        by_cases hge:128<=y
        . have HSV1:=Hm (XM.o (by omega) (by omega) hge);have HXS:=Hm XS.o
          have hw1:Hid (IntKind.u64.wrap (v+IntKind.u64.wrap (y%128*By.P2 (7*(k:Int))))=v+y%128*By.P2 (7*(k:Int))):=by
           have h1:=XS.o;have h2:=By.Gl (n:=7*((k+1:Nat):Int)) (by omega);have h3:=By.mul_bd (y%128) (By.P2 (7*(k:Int))) (by omega) (by omega) HP.o
           show _=_
           rw [IntKind.wrap_u64,IntKind.wrap_u64];omega
          clear XM XL XB XE XS
          go_wp2_with (first
           |(go_at_call 36;refine (KT.o).mono ?_;rintro e w1 ⟨hg1,rfl,hs1⟩;have HS1:=Hm hs1;have HG1:=Hm (Qa HG.o hg1);have e1:=hs1.c1;have e3:=hs1.c3;have KF:=Hm (QY s ba bc bs (p+k+1) 7 ((p+k+1:Nat):Int) w1 hs1);clear hg1 hs1)
           |(go_at_call 128;refine (KR.o _).mono ?_;rintro e w2 ⟨rfl,rfl⟩)
           |(go_at_call 101;refine (By.Qm _ _ (by omega) (by omega)).mono ?_;rintro e w3 ⟨rfl,rfl⟩)
           | (go_at_call 38;refine (KF.o).mono ?_;rintro e w4 ⟨rfl,hs4,hg4⟩;have HS4:=Hm hs4;have HG4:=Hm (Qa HG1.o hg4);clear hs4 hg4))
          go_roundw
          case rel=>exact ⟨k+1,_,by go_num,rfl,by rw [hw1.o];exact HXS.o.1,by rw [hw1.o];have:=HXS.o.2;have h2:=By.Gl (n:=7*((k+1:Nat):Int)) (by omega);omega,HG1.o,.inl ⟨by omega,by rw [hw1.o];exact HXS.o.2,by rw [hw1.o];exact HSV1.o,HS1.o⟩⟩
          case measure=>simp [intOf];omega
        . have hlt:y<128:=by omega
          have HM:=Hm (XE.o hlt (λh=>by omega));clear XM XL XB XE
          by_cases h64:64<=y
          . have HV:Hid (IntKind.u64.wrap (IntKind.u64.wrap (v+IntKind.u64.wrap (y%128*By.P2 (7*(k:Int))))-By.P2 (7*(k:Int)+7))=By.fin true (v+y%128*By.P2 (7*(k:Int))) y k):=by show _=_;simp only [By.fin,true_and,h64,if_true];exact By.val2 (by omega)
            go_wp2_with (first
             |(go_at_call 36;refine (KT.o).mono ?_;rintro e w1 ⟨hg1,rfl,hs1⟩;have HS1:=Hm hs1;have HG1:=Hm (Qa HG.o hg1);have e1:=hs1.c1;have e3:=hs1.c3;have KF:=Hm (QY s ba bc bs (p+k+1) 7 ((p+k+1:Nat):Int) w1 hs1);clear hg1 hs1)
             |(go_at_call 128;refine (KR.o _).mono ?_;rintro e w2 ⟨rfl,rfl⟩)
             |(go_at_call 101;refine (By.Qm _ _ (by omega) (by omega)).mono ?_;rintro e w3 ⟨rfl,rfl⟩)
             | (go_at_call 38;refine (KF.o).mono ?_;rintro e w4 ⟨rfl,hs4,hg4⟩;have HS4:=Hm hs4;have HG4:=Hm (Qa HG1.o hg4);clear hs4 hg4))
            go_ret
            refine ⟨HG1.o,?_⟩
            rw [HM.o]
            exact ⟨by rw [HV.o];rfl,HS1.o⟩
          . have h64':y<64:=by omega
            have HV:Hid (IntKind.u64.wrap (v+IntKind.u64.wrap (y%128*By.P2 (7*(k:Int))))=By.fin true (v+y%128*By.P2 (7*(k:Int))) y k):=by show _=_;simp only [By.fin,true_and,h64,if_false];exact By.val1 (by omega)
            go_wp2_with (first
             |(go_at_call 36;refine (KT.o).mono ?_;rintro e w1 ⟨hg1,rfl,hs1⟩;have HS1:=Hm hs1;have HG1:=Hm (Qa HG.o hg1);have e1:=hs1.c1;have e3:=hs1.c3;have KF:=Hm (QY s ba bc bs (p+k+1) 7 ((p+k+1:Nat):Int) w1 hs1);clear hg1 hs1)
             |(go_at_call 128;refine (KR.o _).mono ?_;rintro e w2 ⟨rfl,rfl⟩)
             |(go_at_call 101;refine (By.Qm _ _ (by omega) (by omega)).mono ?_;rintro e w3 ⟨rfl,rfl⟩)
             | (go_at_call 38;refine (KF.o).mono ?_;rintro e w4 ⟨rfl,hs4,hg4⟩;have HS4:=Hm hs4;have HG4:=Hm (Qa HG1.o hg4);clear hs4 hg4))
            go_ret
            refine ⟨HG1.o,?_⟩
            rw [HM.o]
            exact ⟨by rw [HV.o];rfl,HS1.o⟩
  . have hk2:¬ (k:Int)<=4:=by omega
    clear hk;have c3:=hs.c3;have HM:=Hm hM;have HS1:=Hm hs;clear hs hM
    go_wp2_with fail
    go_ret
    refine ⟨HG.o,?_⟩
    rw [HM.o]
    exact ⟨_,_,rfl,⟨_,rfl,hv0,hv1⟩,HS1.o⟩
end Go.Proofs.YtipfjdogokanbaaGreatDoor.Ed
set_option linter.all false
namespace Go.Proofs.YtipfjdogokanbaaGreatDoor.Ed
open Go.RowKit Go.Sort
theorem lebL_sc (s:Nat)(ba:Option Addr)(bc:BC)(bs:List Int)(p:Nat)(w:World)(h:Sr w s ba bc bs p 0 0)(hA:Qt bs)(hl:bs.length<=1099511627776) :
    Calls Tryz.prog 92 #[.pointer (some ⟨s,0,none⟩),.int .i64 64,.bool true] w (SpP (Qp true 64 bs p) (λv=>.int .u64 v) isU w s ba bc bs):=by
 have HS:=Hm h;have HA:=Hm hA;clear h hA
 go_enter Tryz.func92,Tryz.ntmps92
 go_wp2_with fail
 go_loopw [7,9] (λx i wr=>∃ (k:Nat) (v:Int),i=.int .i64 (k:Int)/\x=.int .u64 v/\0<=v/\v<=18446744073709551615/\w.grownBy wr (some s)/\((k<=9/\v<By.P2 (7*(k:Int))/\Sv true bs p 64 k v/\Sr wr s ba bc bs (p+k) 0 0)\/(k=10/\∃ er a p',er≠0/\Qp true 64 bs p=.bad er a/\Sr wr s ba bc bs p' er a))) (λ_ i _=>11-(intOf i).toNat)
 case atStart=>exact ⟨0,0,rfl,rfl,by omega,by omega,World.grownBy.refl _ _,.inl ⟨by omega,by decide,rfl,HS.o⟩⟩
 case round =>
  obtain ⟨k,v,rfl,rfl,hv0,hv1,hg,hst⟩:=hrel;have HG:=Hm hg;clear hg HS
  rcases hst with ⟨hk,hvk,hsv,hs⟩|⟨hk,er,a,p',hne,hM,hs⟩
  . have hki:(k:Int)<=9:=by omega
    have c3:=hs.c3;have HSV:=Hm hsv;have HVK:=Hm hvk;have KT:=Hm (Xe s ba bc bs (p+k) wr hs hl);clear hsv hs hvk
    by_cases hpk:bs.length<=p+k
    . have HM:=Hm (sv_short HSV.o (by omega) hpk);have htm:Qy bs (p+k)=.bad 2 bs.length:=by unfold Qy;rw [if_pos hpk]
      rw [htm] at KT;have hq1:IntKind.u64.wrap v=v:=by rw [IntKind.wrap_u64];omega
      clear htm HSV
      go_wp2_with (first
       |(go_at_call 36;refine (KT.o).mono ?_;rintro e w1 ⟨hg1,u,p',rfl,rfl,hs1⟩;have HS1:=Hm hs1;have HG1:=Hm (Qa HG.o hg1);have e3:=hs1.c3;clear hg1 hs1)
       | (go_at_call 101;refine (By.Qm _ _ (by omega) (by omega)).mono ?_;rintro e w3 ⟨rfl,rfl⟩))
      go_ret
      refine ⟨HG1.o,?_⟩
      rw [HM.o]
      exact ⟨_,_,rfl,⟨_,rfl,by omega,by omega⟩,HS1.o⟩
    . have htm:Qy bs (p+k)=.ok (bs.getD (p+k) 0) (p+k+1):=by unfold Qy;rw [if_neg hpk]
      rw [htm] at KT;have hyb:=HA.o (p+k);have hpk':p+k<bs.length:=by omega
      have XM:=Hm (λh1 h2=>sv_more HSV.o hpk' h1 h2);have XL:=Hm (λh2 h3=>sv_long HSV.o (by omega) hpk' h2 h3);have XB:=Hm (λh2 h3 h4=>sv_bits HSV.o (by omega) hpk' h2 h3 h4);have XE:=Hm (λh2 h3=>sv_end HSV.o (by omega) hpk' h2 h3);have XS:=Hm (By.Jy v (bs.getD (p+k) 0) k hv0 HVK.o);clear htm HSV;generalize bs.getD (p+k) 0=y at *;obtain ⟨hy0,hy1⟩:=hyb;have KR:=Hm (λW=>By.rest_any true y (64-7*(k:Int)) W hy0 hy1 (by omega) (by omega));have ec:((p+k+1:Nat):Int)=(p:Int)+k+1:=by omega
      have HP:=Hm (By.Q7 (7*(k:Int)))
      by_cases hkl:k=9
      . have hkn:((k:Int)==9)=true:=by simp;omega
        have hkge:9<=(k:Int):=by omega
        have HKL:=Hm hkl;clear hkl
        by_cases hge:128<=y
        . have HM:=Hm (XL.o (by omega) hge);clear XM XL XB XE XS
          go_wp2_with (first
           |(go_at_call 36;refine (KT.o).mono ?_;rintro e w1 ⟨hg1,rfl,hs1⟩;have HS1:=Hm hs1;have HG1:=Hm (Qa HG.o hg1);have e1:=hs1.c1;have e3:=hs1.c3;have KF:=Hm (QY s ba bc bs (p+k+1) 7 ((p+k+1:Nat):Int) w1 hs1);clear hg1 hs1)
           |(go_at_call 128;refine (KR.o _).mono ?_;rintro e w2 ⟨rfl,rfl⟩)
           |(go_at_call 101;refine (By.Qm _ _ (by omega) (by omega)).mono ?_;rintro e w3 ⟨rfl,rfl⟩)
           | (go_at_call 38;refine (KF.o).mono ?_;rintro e w4 ⟨rfl,hs4,hg4⟩;have HS4:=Hm hs4;have HG4:=Hm (Qa HG1.o hg4);clear hs4 hg4))
          go_roundw
          case rel=>exact ⟨k+1,_,by go_num,rfl,(XD _).1,(XD _).2,HG4.o,.inr ⟨by have:=HKL.o;omega,7,_,_,by decide,HM.o,by have:=HS4.o;simpa using this⟩⟩
          case measure=>simp [intOf];have:=HKL.o;omega
        . have hlt:y<128:=by omega
          cases hok:By.rok true y (64-7*(k:Int))
          . have HM:=Hm (XB.o (by omega) hlt hok);rw [hok] at KR;clear XM XL XB XE XS hok
            by_cases h64:64<=y
            . skip
              go_wp2_with (first
               |(go_at_call 36;refine (KT.o).mono ?_;rintro e w1 ⟨hg1,rfl,hs1⟩;have HS1:=Hm hs1;have HG1:=Hm (Qa HG.o hg1);have e1:=hs1.c1;have e3:=hs1.c3;have KF:=Hm (QY s ba bc bs (p+k+1) 7 ((p+k+1:Nat):Int) w1 hs1);clear hg1 hs1)
               |(go_at_call 128;refine (KR.o _).mono ?_;rintro e w2 ⟨rfl,rfl⟩)
               |(go_at_call 101;refine (By.Qm _ _ (by omega) (by omega)).mono ?_;rintro e w3 ⟨rfl,rfl⟩)
               | (go_at_call 38;refine (KF.o).mono ?_;rintro e w4 ⟨rfl,hs4,hg4⟩;have HS4:=Hm hs4;have HG4:=Hm (Qa HG1.o hg4);clear hs4 hg4))
              go_ret
              refine ⟨HG4.o,?_⟩
              rw [HM.o]
              exact ⟨_,_,rfl,⟨_,rfl,XD _⟩,by have:=HS4.o;simpa using this⟩
            . have h64':y<64:=by omega
              skip
              go_wp2_with (first
               |(go_at_call 36;refine (KT.o).mono ?_;rintro e w1 ⟨hg1,rfl,hs1⟩;have HS1:=Hm hs1;have HG1:=Hm (Qa HG.o hg1);have e1:=hs1.c1;have e3:=hs1.c3;have KF:=Hm (QY s ba bc bs (p+k+1) 7 ((p+k+1:Nat):Int) w1 hs1);clear hg1 hs1)
               |(go_at_call 128;refine (KR.o _).mono ?_;rintro e w2 ⟨rfl,rfl⟩)
               |(go_at_call 101;refine (By.Qm _ _ (by omega) (by omega)).mono ?_;rintro e w3 ⟨rfl,rfl⟩)
               | (go_at_call 38;refine (KF.o).mono ?_;rintro e w4 ⟨rfl,hs4,hg4⟩;have HS4:=Hm hs4;have HG4:=Hm (Qa HG1.o hg4);clear hs4 hg4))
              go_ret
              refine ⟨HG4.o,?_⟩
              rw [HM.o]
              exact ⟨_,_,rfl,⟨_,rfl,XD _⟩,by have:=HS4.o;simpa using this⟩
          . have HM:=Hm (XE.o hlt (λ_=>hok));rw [hok] at KR;clear XM XL XB XE hok
            by_cases h64:64<=y
            . have HV:Hid (IntKind.u64.wrap (v+IntKind.u64.wrap (y%128*By.P2 (7*(k:Int))))=By.fin true (v+y%128*By.P2 (7*(k:Int))) y k):=by show _=_;simp only [By.fin,true_and,h64,if_true];exact By.val3 HKL.o (by omega)
              go_wp2_with (first
               |(go_at_call 36;refine (KT.o).mono ?_;rintro e w1 ⟨hg1,rfl,hs1⟩;have HS1:=Hm hs1;have HG1:=Hm (Qa HG.o hg1);have e1:=hs1.c1;have e3:=hs1.c3;have KF:=Hm (QY s ba bc bs (p+k+1) 7 ((p+k+1:Nat):Int) w1 hs1);clear hg1 hs1)
               |(go_at_call 128;refine (KR.o _).mono ?_;rintro e w2 ⟨rfl,rfl⟩)
               |(go_at_call 101;refine (By.Qm _ _ (by omega) (by omega)).mono ?_;rintro e w3 ⟨rfl,rfl⟩)
               | (go_at_call 38;refine (KF.o).mono ?_;rintro e w4 ⟨rfl,hs4,hg4⟩;have HS4:=Hm hs4;have HG4:=Hm (Qa HG1.o hg4);clear hs4 hg4))
              go_ret
              refine ⟨HG1.o,?_⟩
              rw [HM.o]
              exact ⟨by rw [HV.o];rfl,HS1.o⟩
            . have h64':y<64:=by omega
              have HV:Hid (IntKind.u64.wrap (v+IntKind.u64.wrap (y%128*By.P2 (7*(k:Int))))=By.fin true (v+y%128*By.P2 (7*(k:Int))) y k):=by show _=_;simp only [By.fin,true_and,h64,if_false];exact By.val1 (by omega)
              go_wp2_with (first
               |(go_at_call 36;refine (KT.o).mono ?_;rintro e w1 ⟨hg1,rfl,hs1⟩;have HS1:=Hm hs1;have HG1:=Hm (Qa HG.o hg1);have e1:=hs1.c1;have e3:=hs1.c3;have KF:=Hm (QY s ba bc bs (p+k+1) 7 ((p+k+1:Nat):Int) w1 hs1);clear hg1 hs1)
               |(go_at_call 128;refine (KR.o _).mono ?_;rintro e w2 ⟨rfl,rfl⟩)
               |(go_at_call 101;refine (By.Qm _ _ (by omega) (by omega)).mono ?_;rintro e w3 ⟨rfl,rfl⟩)
               | (go_at_call 38;refine (KF.o).mono ?_;rintro e w4 ⟨rfl,hs4,hg4⟩;have HS4:=Hm hs4;have HG4:=Hm (Qa HG1.o hg4);clear hs4 hg4))
              go_ret
              refine ⟨HG1.o,?_⟩
              rw [HM.o]
              exact ⟨by rw [HV.o];rfl,HS1.o⟩
      . have hkl':(k:Int)<9:=by omega
        have hkn:((k:Int)==9)=false:=by simp;omega
        by_cases hge:128<=y
        . have HSV1:=Hm (XM.o (by omega) (by omega) hge);have HXS:=Hm XS.o
          have hw1:Hid (IntKind.u64.wrap (v+IntKind.u64.wrap (y%128*By.P2 (7*(k:Int))))=v+y%128*By.P2 (7*(k:Int))):=by
           have h1:=XS.o;have h2:=By.Gl (n:=7*((k+1:Nat):Int)) (by omega);have h3:=By.mul_bd (y%128) (By.P2 (7*(k:Int))) (by omega) (by omega) HP.o
           show _=_
           rw [IntKind.wrap_u64,IntKind.wrap_u64];omega
          clear XM XL XB XE XS
          go_wp2_with (first
           |(go_at_call 36;refine (KT.o).mono ?_;rintro e w1 ⟨hg1,rfl,hs1⟩;have HS1:=Hm hs1;have HG1:=Hm (Qa HG.o hg1);have e1:=hs1.c1;have e3:=hs1.c3;have KF:=Hm (QY s ba bc bs (p+k+1) 7 ((p+k+1:Nat):Int) w1 hs1);clear hg1 hs1)
           |(go_at_call 128;refine (KR.o _).mono ?_;rintro e w2 ⟨rfl,rfl⟩)
           |(go_at_call 101;refine (By.Qm _ _ (by omega) (by omega)).mono ?_;rintro e w3 ⟨rfl,rfl⟩)
           | (go_at_call 38;refine (KF.o).mono ?_;rintro e w4 ⟨rfl,hs4,hg4⟩;have HS4:=Hm hs4;have HG4:=Hm (Qa HG1.o hg4);clear hs4 hg4))
          go_roundw
          case rel=>exact ⟨k+1,_,by go_num,rfl,by rw [hw1.o];exact HXS.o.1,by rw [hw1.o];have:=HXS.o.2;have h2:=By.Gl (n:=7*((k+1:Nat):Int)) (by omega);omega,HG1.o,.inl ⟨by omega,by rw [hw1.o];exact HXS.o.2,by rw [hw1.o];exact HSV1.o,HS1.o⟩⟩
          case measure=>simp [intOf];omega
        . have hlt:y<128:=by omega
          have HM:=Hm (XE.o hlt (λh=>by omega));clear XM XL XB XE
          by_cases h64:64<=y
          . have HV:Hid (IntKind.u64.wrap (IntKind.u64.wrap (v+IntKind.u64.wrap (y%128*By.P2 (7*(k:Int))))-By.P2 (7*(k:Int)+7))=By.fin true (v+y%128*By.P2 (7*(k:Int))) y k):=by show _=_;simp only [By.fin,true_and,h64,if_true];exact By.val2 (by omega)
            go_wp2_with (first
             |(go_at_call 36;refine (KT.o).mono ?_;rintro e w1 ⟨hg1,rfl,hs1⟩;have HS1:=Hm hs1;have HG1:=Hm (Qa HG.o hg1);have e1:=hs1.c1;have e3:=hs1.c3;have KF:=Hm (QY s ba bc bs (p+k+1) 7 ((p+k+1:Nat):Int) w1 hs1);clear hg1 hs1)
             |(go_at_call 128;refine (KR.o _).mono ?_;rintro e w2 ⟨rfl,rfl⟩)
             |(go_at_call 101;refine (By.Qm _ _ (by omega) (by omega)).mono ?_;rintro e w3 ⟨rfl,rfl⟩)
             | (go_at_call 38;refine (KF.o).mono ?_;rintro e w4 ⟨rfl,hs4,hg4⟩;have HS4:=Hm hs4;have HG4:=Hm (Qa HG1.o hg4);clear hs4 hg4))
            go_ret
            refine ⟨HG1.o,?_⟩
            rw [HM.o]
            exact ⟨by rw [HV.o];rfl,HS1.o⟩
          . have h64':y<64:=by omega
            have HV:Hid (IntKind.u64.wrap (v+IntKind.u64.wrap (y%128*By.P2 (7*(k:Int))))=By.fin true (v+y%128*By.P2 (7*(k:Int))) y k):=by show _=_;simp only [By.fin,true_and,h64,if_false];exact By.val1 (by omega)
            go_wp2_with (first
             |(go_at_call 36;refine (KT.o).mono ?_;rintro e w1 ⟨hg1,rfl,hs1⟩;have HS1:=Hm hs1;have HG1:=Hm (Qa HG.o hg1);have e1:=hs1.c1;have e3:=hs1.c3;have KF:=Hm (QY s ba bc bs (p+k+1) 7 ((p+k+1:Nat):Int) w1 hs1);clear hg1 hs1)
             |(go_at_call 128;refine (KR.o _).mono ?_;rintro e w2 ⟨rfl,rfl⟩)
             |(go_at_call 101;refine (By.Qm _ _ (by omega) (by omega)).mono ?_;rintro e w3 ⟨rfl,rfl⟩)
             | (go_at_call 38;refine (KF.o).mono ?_;rintro e w4 ⟨rfl,hs4,hg4⟩;have HS4:=Hm hs4;have HG4:=Hm (Qa HG1.o hg4);clear hs4 hg4))
            go_ret
            refine ⟨HG1.o,?_⟩
            rw [HM.o]
            exact ⟨by rw [HV.o];rfl,HS1.o⟩
  . have hk2:¬ (k:Int)<=9:=by omega
    clear hk;have c3:=hs.c3;have HM:=Hm hM;have HS1:=Hm hs;clear hs hM
    go_wp2_with fail
    go_ret
    refine ⟨HG.o,?_⟩
    rw [HM.o]
    exact ⟨_,_,rfl,⟨_,rfl,hv0,hv1⟩,HS1.o⟩
end Go.Proofs.YtipfjdogokanbaaGreatDoor.Ed
