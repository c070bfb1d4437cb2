import Derived.Test.YtipfjdogokanbaaGreatDoorGaa
import Derived.Test.YtipfjdogokanbaaGreatDoorGbb
set_option linter.all false
set_option maxHeartbeats 400000000
set_option maxRecDepth 100000
set_option linter.all false
namespace Go.Proofs.YtipfjdogokanbaaGreatDoor.Ed
open Go.RowKit Go.Sort
theorem numS_c (q:Nat)(ba:Option Addr)(bc:Nat)(bs:List Int)(p:Nat)(B:Int)(w:World)(h:Rd w q ba bc bs p)(hA:Qt bs)(hl:bs.length<=1099511627776)(hB0:1<=B)(hB1:B<=64) :
    Calls Tryz.prog 74 #[.pointer (some ⟨q,0,none⟩),.int .i64 B,.func (.func 75) #[] #[]] w (RdP (Qp true B bs p) (λv=>.int .u64 v) w q ba bc bs):=by
 have c1:=h.c1;have HR:=Hm h;have hpl:=h.le;have HA:=Hm hA;clear h hA
 go_enter Tryz.func74,Tryz.ntmps74
 go_wp2_with fail
 go_loopw [] (λwr=>∃ k:Nat,7*(k:Int)<B/\Inv true bs p B k/\Rd wr q ba bc bs (p+k)/\w.grownBy wr (some q)) (λwr=>bs.length-(posOf q wr).toNat)
 case atStart=>exact ⟨0,by omega,Inv.start _ _ _ _,HR.o,World.grownBy.refl _ _⟩
 case round =>
  obtain ⟨k,hk,hI,hr,hg⟩:=hrel;have HI:=Hm hI;have HG:=Hm hg;clear hI hg c1 HR
  by_cases hpk:bs.length<=p+k
  . have KT:=Hm (take_bad q ba bc bs (p+k) wr hr hpk);have HM:=Hm (HI.o.short hpk hB1 hk);clear hr
    go_wp2_with fail
    refine (KT.o).mono ?_
    rintro e w1 ⟨rfl,hg1⟩
    refine ⟨rfl,Qa HG.o hg1,?_⟩
    rw [HM.o]
  . have hpk':p+k<bs.length:=by omega
    have KT:=Hm (take_ok q ba bc bs (p+k) wr hr hpk' hl);have HM0:=Hm hr.pos;clear hr;obtain ⟨y,hy⟩:∃ y,bs.getD (p+k) 0=y:=⟨_,rfl⟩;rw [hy] at KT;have hyb:=HA.o (p+k);rw [hy] at hyb;obtain ⟨hy0,hy1⟩:=hyb;have HY:=Hm hy;clear hy
    go_wp2_with fail
    refine (KT.o).mono ?_
    rintro e w1 ⟨rfl,hr1,hg1⟩;have e1:=hr1.c1;have e0:=hr1.c0;have HR1:=Hm hr1;have HG1:=Hm (Qa HG.o hg1);clear hr1 hg1 KT HG;have ec:((p+k+1:Nat):Int)=(p:Int)+k+1:=by omega
    rw [ec] at e1
    by_cases hrr:128<=y/\7*((k:Int)+1)<B
    . obtain ⟨hge,hlt⟩:=hrr;have HI1:=Hm (HI.o.step hpk' hB1 hlt (by rw [HY.o];exact hge));clear HI HY ec
      go_wp2_with fail
      go_roundw
      case rel=>exact ⟨k+1,by omega,HI1.o,HR1.o,HG1.o⟩
      case measure=>rw [HM0.o,HR1.o.pos];omega
    have FIN:=Hm (HI.o.fin hpk' hB1 hk (by rw [HY.o];omega));clear HI HY
    by_cases hge:128<=y
    all_goals
     obtain ⟨r,v,hr1,hr2,hr3⟩:=FIN.o;obtain ⟨m,hm⟩:∃ m,m=p+k+1:=⟨_,rfl⟩;have hmi:(m:Int)=(p:Int)+k+1:=by omega
     rw [<- hmi] at e1 hr1 hr2;rw [<- hm] at hr2 HR1;have hml:m<=bs.length:=by omega
     have hmc:m<=bc:=by have:=HR1.o.cap;omega
     have htl:(bs.take m).length=m:=by simp;omega
     have KG:Hid (∀ V,By.Has V ba (bs.take m)->Calls Tryz.prog 75 #[.slice ba m bc,.int .i64 p,.int .i64 B] V λe w'=>e=.returned (.agg #[.int .i64 r,.int .u64 v,.int .i64 m])/\Below V.heap.size V w'):=λV hV=>by
      have:=By.implGetS_any ba bc (bs.take m) p B V (by omega) hV (allB_take HA.o m)
      rw [htl] at this;have e:By.getA true (bs.take m) p B=(r,v,(m:Int)):=by unfold By.getA;rw [if_pos (by omega),Int.toNat_natCast,normB_id hB0 hB1,hr2]
      rw [e] at this
      exact this
     have HT:Hid (∀ V,Below w1.heap.size w1 V->By.Has V ba (bs.take m)):=λV hb=>has_prefix (HR1.o.has.keep hb) m
     have HF:Hid (if r=0 then Qp true B bs p=.ok v m else Qp true B bs p=.bad 7 m):=by
      show if r=0 then _ else _
      split
      . rename_i h;subst h;exact numM_ok hr1
      . rename_i h;exact numM_bad hr1 h hr3
     have k0:w1.drew.cell? ⟨q,0,none⟩=some (.slice ba bs.length bc):=e0;have k1:w1.drew.cell? ⟨q,1,none⟩=some (.int .i64 m):=e1;have QN:Hid (q≠w1.heap.size):=by have:=HR1.o.lt;show _≠_;omega
     have hmi3:(0:Int)<=(m:Int):=by omega
     have hmi4:(m:Int)<=(bc:Int):=by omega
     try have hdd:¬ ((m:Int)-p)*7<B:=by omega
     clear hrr;clear hm hmi hr1 hr2 htl FIN ec;have KD0:=Hm (λo=>show (w1.alloc o).drew.cell? ⟨q,0,none⟩=some (.slice ba bs.length bc) from JJ e0);have KD1:=Hm (λo=>show (w1.alloc o).drew.cell? ⟨q,1,none⟩=some (.int .i64 m) from JJ e1);have KF:=Hm (λ(V:World) (hV:Below w1.heap.size w1 V)=>fail_c q 7 m V (HR1.o.keep hV).c1)
     go_wp2_with fail
     go_cut [8] from 27 (λs V=>∃ g,s=.pointer (some ⟨g,0,none⟩)/\V.cell? ⟨g,0,none⟩=some (.int .i64 r)/\V.cell? ⟨g,1,none⟩=some (.int .u64 v)/\Below w1.heap.size w1 V)
     case first =>
      go_region_held3 (λw'=>w'.cell? ⟨q,0,none⟩=some (.slice ba bs.length bc)/\w'.cell? ⟨q,1,none⟩=some (.int .i64 m)) (first|with_reducible exact ⟨k0,k1⟩|with_reducible exact ⟨JJ k0,JJ k1⟩|with_reducible exact ⟨KD0.o _,KD1.o _⟩|with_reducible exact ⟨Gt k0 QN.o _ _ _,Gt k1 QN.o _ _ _⟩)
       (first
        | (go_at_call 75
           refine Calls.mono (KG.o _ ?hh) ?_
           case hh=>first|exact HT.o _ (Gy _)|exact HT.o _ bel_drew
           rintro e w2 ⟨rfl,hb2⟩
           first
            | (have HB2:=Hm (show Below w1.heap.size w1 w2 from (Gy _).trans (hb2.mono (by simp)))
               obtain ⟨z0,z1,z2,zf⟩:=z3 hb2;have zf0:=zf 0;have zf1:=zf 1;have zf2:=zf 2;clear zf)
            |have HB2:=Hm (show Below w1.heap.size w1 w2 from bel_drew.trans hb2)
           have k0:=(HR1.o.keep HB2.o).c0;have k1:=(HR1.o.keep HB2.o).c1;clear hb2))
      all_goals
       go_wp2_with fail
       go_meet
       first
        |exact ⟨_,rfl,Qi rfl rfl,Qi rfl rfl,HB2.o.alloc HB2.o.size _⟩
        |exact ⟨_,rfl,Qc (Qc (Qh z0) (by decide)) (by decide),Qc (Qh (Qc z1 (by decide))) (by decide),((HB2.o.setCell (Nat.le_refl _) _).setCell (Nat.le_refl _) _).setCell (Nat.le_refl _) _⟩
     case rest =>
      obtain ⟨g,rfl,y0,y1,hV⟩:=hcut;have HV:=Hm hV;clear hV KG HT KD0 KD1 k0 k1 e0 e1
      by_cases hr0:r=0
      . subst hr0;have HM:=Hm HF.o;clear HF
        go_wp2_with fail
        go_ret
        refine ⟨Qa HG1.o (Qo HV.o),?_⟩
        rw [show Qp true B bs p=.ok v m from HM.o]
        exact ⟨rfl,HR1.o.keep HV.o⟩
      . have hrn:(r != 0)=true:=by simpa using hr0
        have HM:Hid (Qp true B bs p=.bad 7 m):=by have:=HF.o;rw [if_neg hr0] at this;exact this
        clear HF hr0
        go_wp2_with fail
        refine (KF.o _ HV.o).mono ?_
        rintro e w3 ⟨rfl,rfl⟩
        refine ⟨rfl,Qa HG1.o (Qo HV.o),?_⟩
        rw [HM.o]
end Go.Proofs.YtipfjdogokanbaaGreatDoor.Ed
