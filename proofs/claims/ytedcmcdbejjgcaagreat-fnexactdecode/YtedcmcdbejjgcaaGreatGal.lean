import Derived.Test.YtedcmcdbejjgcaaGreatGaa
import Derived.Test.YtedcmcdbejjgcaaGreatGaj
set_option linter.all false
set_option maxHeartbeats 400000000
set_option maxRecDepth 100000
namespace Go.Proofs.YtedcmcdbejjgcaaGreat
open Go.RowKit Go.Sort
theorem numS_c (q ba bc bs p)(B:Int)(w)(h:Rd w q ba bc bs p)(hA:Qm bs)(hl:bs.length<=1099511627776)(af:1<=B)(u:B<=64) :
    Calls Tryz.prog 287 #[.pointer (some ⟨q,0,none⟩),.int .i64 B,.func (.func 351) #[] #[]] w (RdP (Qy true B bs p) (λv=>.int .u64 v) w q ba bc bs):=by
 have c1:=h.c1;have HR:=Hm h;have bm:=h.le;have HA:=Hm hA;clear h hA
 go_enter Tryz.func287,Tryz.ntmps287
 go_wp2_with fail
 go_loopw [] (λwr=>∃ k:Nat,7*(k:Int)<B/\Inv true bs p B k/\Rd wr q ba bc bs (p+k)/\w.grownBy wr (some q)) (λwr=>bs.length-(posOf q wr).toNat)
 case atStart=>exact ⟨0,by omega,Inv.start _ _ _ _,HR.o,World.grownBy.refl _ _⟩
 case round =>
  obtain ⟨k,hk,hI,hr,hg⟩:=hrel;have HI:=Hm hI;have HG:=Hm hg;clear hI hg c1 HR
  by_cases ab:bs.length<=p+k
  . have KT:=Hm (XP q ba bc bs (p+k) wr hr ab);have O:=Hm (HI.o.short ab u hk);clear hr
    go_wp2_with fail
    refine (KT.o).mono ?_
    rintro e b ⟨rfl,J⟩
    refine ⟨rfl,Qa HG.o J,?_⟩
    rw [O.o]
  . have n:p+k<bs.length:=by omega
    have KT:=Hm (GG q ba bc bs (p+k) wr hr n hl);have a3:=Hm hr.pos;clear hr;obtain ⟨y,hy⟩:∃ y,bs.getD (p+k) 0=y:=⟨_,rfl⟩;rw [hy] at KT;have Z:=HA.o (p+k);rw [hy] at Z;obtain ⟨bk,bj⟩:=Z;have HY:=Hm hy;clear hy
    go_wp2_with fail
    refine (KT.o).mono ?_
    rintro e b ⟨rfl,c,J⟩;have L:=c.c1;have X:=c.c0;have a:=Hm c;have G:=Hm (Qa HG.o J);clear c J KT HG;have ec:((p+k+1:Nat):Int)=(p:Int)+k+1:=by omega
    rw [ec] at L
    by_cases a1:128<=y
    . by_cases az:7*((k:Int)+1)<B
      . have a4:=Hm (HI.o.step n u az (by rw [HY.o];exact a1));clear HI HY ec
        go_wp2_with fail
        go_roundw
        case rel=>exact ⟨k+1,by omega,a4.o,a.o,G.o⟩
        case measure=>rw [a3.o,a.o.pos];omega
      . have H:=Hm (HI.o.fin n u hk (.inr (by omega)));clear HI HY;obtain ⟨r,v,c,f,S⟩:=H.o;obtain ⟨m,hm⟩:∃ m,m=p+k+1:=⟨_,rfl⟩;have D:(m:Int)=(p:Int)+k+1:=by omega
        rw [<- D] at L c f;rw [<- hm] at f a;have ax:m<=bs.length:=by omega
        have ay:m<=bc.cap:=by have:=a.o.cap;omega
        have C:(bs.take m).length=m:=by simp;omega
        have KG:Hid (∀ V,By.Has V ba (bs.take m)->Calls Tryz.prog 351 #[.slice ba m bc.cap,.int .i64 p,.int .i64 B] V λe w'=>e=.returned (.agg #[.int .i64 r,.int .u64 v,.int .i64 m])/\Below V.heap.size V w'):=λV t=>by
         have:=By.implGetS_any ba bc.cap (bs.take m) p B V (by omega) t (Gh HA.o m)
         rw [C] at this;have e:By.GD true (bs.take m) p B=(r,v,(m:Int)):=by unfold By.GD;rw [if_pos (by omega),Int.toNat_natCast,normB_id af u,f]
         rw [e] at this
         exact this
        have U:Hid (∀ V,Below b.heap.size b V->By.Has V ba (bs.take m)):=λV hb=>JS (a.o.has.keep hb) m
        have R:Hid (if r=0 then Qy true B bs p=.ok v m else Qy true B bs p=.bad 7 m):=by
         show if r=0 then _ else _
         split
         · rename_i h;subst h;exact numM_ok c
         . rename_i h;exact GQ c h S
        have A:b.drew.cell? ⟨q,0,none⟩=some (.slice ba bc.fs.length bc.cap):=X;have z:b.drew.cell? ⟨q,1,none⟩=some (.int .i64 m):=L;have QN:Hid (q≠b.heap.size):=by have:=a.o.lt;show _≠_;omega
        have ad:(0:Int)<=(m:Int):=by omega
        have ac:(m:Int)<=(bc.cap:Int):=by omega
        have bn:¬ ((m:Int)-p)*7<B:=by omega
        clear hm D c f C H ec;have F:=Hm (λo=>show (b.alloc o).drew.cell? ⟨q,0,none⟩=some (.slice ba bc.fs.length bc.cap) from Qg X);have E:=Hm (λo=>show (b.alloc o).drew.cell? ⟨q,1,none⟩=some (.int .i64 m) from Qg L);have KF:=Hm (λ(V:World) (t:Below b.heap.size b V)=>JE q 7 m V (a.o.keep t).c1)
        go_wp2_with fail
        go_cut [8] from 27 (λs V=>∃ g,s=.pointer (some ⟨g,0,none⟩)/\V.cell? ⟨g,0,none⟩=some (.int .i64 r)/\V.cell? ⟨g,1,none⟩=some (.int .u64 v)/\Below b.heap.size b V)
        case first =>
         go_region_held3 (λw'=>w'.cell? ⟨q,0,none⟩=some (.slice ba bc.fs.length bc.cap)/\w'.cell? ⟨q,1,none⟩=some (.int .i64 m)) (first|with_reducible exact ⟨A,z⟩|with_reducible exact ⟨Qg A,Qg z⟩|with_reducible exact ⟨F.o _,E.o _⟩|with_reducible exact ⟨Xh A QN.o _ _ _,Xh z QN.o _ _ _⟩)
          (first
           | (go_at_call 351
              refine Calls.mono (KG.o _ ?hh) ?_
              case hh=>first|exact U.o _ (Xj _)|exact U.o _ XV
              rintro e Y ⟨rfl,l⟩
              first
               | (have d:=Hm (show Below b.heap.size b Y from (Xj _).trans (l.mono (by simp)))
                  obtain ⟨z0,z1,z2,I⟩:=z3 l;have ar:=I 0;have aq:=I 1;have ap:=I 2;clear I)
               |have d:=Hm (show Below b.heap.size b Y from XV.trans l)
              have A:=(a.o.keep d.o).c0;have z:=(a.o.keep d.o).c1;clear l))
         all_goals
          go_wp2_with fail
          go_meet
          first
           |exact ⟨_,rfl,Qw rfl rfl,Qw rfl rfl,d.o.alloc d.o.size _⟩
           |exact ⟨_,rfl,Qd (Qd (QE z0) (by decide)) (by decide),Qd (QE (Qd z1 (by decide))) (by decide),((d.o.setCell lR _).setCell lR _).setCell lR _⟩
        case rest =>
         obtain ⟨g,rfl,y0,y1,t⟩:=hcut;have M:=Hm t;clear t KG U F E A z X L
         by_cases j:r=0
         . subst j;have O:=Hm R.o;clear R
           go_wp2_with fail
           go_ret
           refine ⟨Qa G.o (Qi M.o),?_⟩
           rw [show Qy true B bs p=.ok v m from O.o]
           exact ⟨rfl,a.o.keep M.o⟩
         . have aw:(r != 0)=true:=by simpa using j
           have O:Hid (Qy true B bs p=.bad 7 m):=by have:=R.o;rw [if_neg j] at this;exact this
           clear R j
           go_wp2_with fail
           refine (KF.o _ M.o).mono ?_
           rintro e w3 ⟨rfl,rfl⟩
           refine ⟨rfl,Qa G.o (Qi M.o),?_⟩
           rw [O.o]
           try rfl
    . have H:=Hm (HI.o.fin n u hk (.inl (by rw [HY.o];omega)));clear HI HY;obtain ⟨r,v,c,f,S⟩:=H.o;obtain ⟨m,hm⟩:∃ m,m=p+k+1:=⟨_,rfl⟩;have D:(m:Int)=(p:Int)+k+1:=by omega
      rw [<- D] at L c f;rw [<- hm] at f a;have ax:m<=bs.length:=by omega
      have ay:m<=bc.cap:=by have:=a.o.cap;omega
      have C:(bs.take m).length=m:=by simp;omega
      have KG:Hid (∀ V,By.Has V ba (bs.take m)->Calls Tryz.prog 351 #[.slice ba m bc.cap,.int .i64 p,.int .i64 B] V λe w'=>e=.returned (.agg #[.int .i64 r,.int .u64 v,.int .i64 m])/\Below V.heap.size V w'):=λV t=>by
       have:=By.implGetS_any ba bc.cap (bs.take m) p B V (by omega) t (Gh HA.o m)
       rw [C] at this;have e:By.GD true (bs.take m) p B=(r,v,(m:Int)):=by unfold By.GD;rw [if_pos (by omega),Int.toNat_natCast,normB_id af u,f]
       rw [e] at this
       exact this
      have U:Hid (∀ V,Below b.heap.size b V->By.Has V ba (bs.take m)):=λV hb=>JS (a.o.has.keep hb) m
      have R:Hid (if r=0 then Qy true B bs p=.ok v m else Qy true B bs p=.bad 7 m):=by
       show if r=0 then _ else _
       split
       · rename_i h;subst h;exact numM_ok c
       . rename_i h;exact GQ c h S
      have A:b.drew.cell? ⟨q,0,none⟩=some (.slice ba bc.fs.length bc.cap):=X;have z:b.drew.cell? ⟨q,1,none⟩=some (.int .i64 m):=L;have QN:Hid (q≠b.heap.size):=by have:=a.o.lt;show _≠_;omega
      have ad:(0:Int)<=(m:Int):=by omega
      have ac:(m:Int)<=(bc.cap:Int):=by omega
      clear hm D c f C H ec;have F:=Hm (λo=>show (b.alloc o).drew.cell? ⟨q,0,none⟩=some (.slice ba bc.fs.length bc.cap) from Qg X);have E:=Hm (λo=>show (b.alloc o).drew.cell? ⟨q,1,none⟩=some (.int .i64 m) from Qg L);have KF:=Hm (λ(V:World) (t:Below b.heap.size b V)=>JE q 7 m V (a.o.keep t).c1)
      go_wp2_with fail
      go_cut [8] from 27 (λs V=>∃ g,s=.pointer (some ⟨g,0,none⟩)/\V.cell? ⟨g,0,none⟩=some (.int .i64 r)/\V.cell? ⟨g,1,none⟩=some (.int .u64 v)/\Below b.heap.size b V)
      case first =>
       go_region_held3 (λw'=>w'.cell? ⟨q,0,none⟩=some (.slice ba bc.fs.length bc.cap)/\w'.cell? ⟨q,1,none⟩=some (.int .i64 m)) (first|with_reducible exact ⟨A,z⟩|with_reducible exact ⟨Qg A,Qg z⟩|with_reducible exact ⟨F.o _,E.o _⟩|with_reducible exact ⟨Xh A QN.o _ _ _,Xh z QN.o _ _ _⟩)
        (first
         | (go_at_call 351
            refine Calls.mono (KG.o _ ?hh) ?_
            case hh=>first|exact U.o _ (Xj _)|exact U.o _ XV
            rintro e Y ⟨rfl,l⟩
            first
             | (have d:=Hm (show Below b.heap.size b Y from (Xj _).trans (l.mono (by simp)))
                obtain ⟨z0,z1,z2,I⟩:=z3 l;have ar:=I 0;have aq:=I 1;have ap:=I 2;clear I)
             |have d:=Hm (show Below b.heap.size b Y from XV.trans l)
            have A:=(a.o.keep d.o).c0;have z:=(a.o.keep d.o).c1;clear l))
       all_goals
        go_wp2_with fail
        go_meet
        first
         |exact ⟨_,rfl,Qw rfl rfl,Qw rfl rfl,d.o.alloc d.o.size _⟩
         |exact ⟨_,rfl,Qd (Qd (QE z0) (by decide)) (by decide),Qd (QE (Qd z1 (by decide))) (by decide),((d.o.setCell lR _).setCell lR _).setCell lR _⟩
      case rest =>
       obtain ⟨g,rfl,y0,y1,t⟩:=hcut;have M:=Hm t;clear t KG U F E A z X L
       by_cases j:r=0
       . subst j;have O:=Hm R.o;clear R
         go_wp2_with fail
         go_ret
         refine ⟨Qa G.o (Qi M.o),?_⟩
         rw [show Qy true B bs p=.ok v m from O.o]
         exact ⟨rfl,a.o.keep M.o⟩
       . have aw:(r != 0)=true:=by simpa using j
         have O:Hid (Qy true B bs p=.bad 7 m):=by have:=R.o;rw [if_neg j] at this;exact this
         clear R j
         go_wp2_with fail
         refine (KF.o _ M.o).mono ?_
         rintro e w3 ⟨rfl,rfl⟩
         refine ⟨rfl,Qa G.o (Qi M.o),?_⟩
         rw [O.o]
         try rfl
end Go.Proofs.YtedcmcdbejjgcaaGreat
