import Derived.Test.YtedcmcdbejjgcaaGreatGaa
import Derived.Test.YtedcmcdbejjgcaaGreatGas
set_option linter.all false
set_option maxHeartbeats 400000000
set_option maxRecDepth 100000
namespace Go.Proofs.YtedcmcdbejjgcaaGreat.Ms
open Go.RowKit Go.Sort
theorem lebU_sc (s ba bc bs p w)(h:Sr w s ba bc bs p 0 0)(hA:Qm bs)(hl:bs.length<=1099511627776) :
    Calls Tryz.prog 217 #[.pointer (some ⟨s,0,none⟩),.int .i64 32,.bool false] w (SpP (Qy false 32 bs p) (λv=>.int .u64 v) isU w s ba bc bs):=by
 have HS:=Hm h;have HA:=Hm hA;clear h hA
 go_enter Tryz.func217,Tryz.ntmps217
 go_wp2_with fail
 go_loopw [7,9] (λx i wr=>∃ (k:Nat) (v:Int),i=.int .i64 (k:Int)/\x=.int .u64 v/\0<=v/\v<=18446744073709551615/\w.grownBy wr (some s)/\((k<=4/\v<By.P2 (7*(k:Int))/\Sv false bs p 32 k v/\Sr wr s ba bc bs (p+k) 0 0)\/(k=5/\∃ er a p',er≠0/\Qy false 32 bs p=.bad er a/\Sr wr s ba bc bs p' er a))) (λ_ i _=>6-(intOf i).toNat)
 case atStart=>exact ⟨0,0,rfl,rfl,by omega,by omega,World.grownBy.refl _ _,.inl ⟨by omega,by decide,rfl,HS.o⟩⟩
 case round =>
  obtain ⟨k,v,rfl,rfl,aa,au,hg,av⟩:=hrel;have O:=Hm hg;clear hg HS
  rcases av with ⟨hk,Z,ab,G⟩|⟨hk,er,a,p',aw,hM,G⟩
  . have a9:(k:Int)<=4:=by omega
    have c3:=G.c3;have l:=Hm ab;have ay:=Hm Z;have F:=Hm (byte_sc s ba bc bs (p+k) wr G hl);clear ab G Z
    by_cases H:bs.length<=p+k
    . have z:=Hm (sv_short l.o (by omega) H);have t:Qx bs (p+k)=.bad 2 bs.length:=by unfold Qx;rw [if_pos H]
      rw [t] at F;have a8:IntKind.u64.wrap v=v:=by rw [IntKind.wrap_u64];omega
      clear t l
      go_wp2_with (first
       |(go_at_call 73;refine (F.o).mono ?_;rintro e A ⟨c,u,p',rfl,rfl,b⟩;have j:=Hm b;have g:=Hm (Qa O.o c);obtain ⟨z3,ao,Y,e3⟩:=b.c3n (by decide);clear c b)
       | (go_at_call 276;refine (By.Jt _ _ (by omega) (by omega)).mono ?_;rintro e X ⟨rfl,rfl⟩))
      go_ret
      refine ⟨g.o,?_⟩
      rw [z.o]
      exact ⟨_,_,rfl,⟨_,rfl,by omega,by omega⟩,j.o⟩
    . have t:Qx bs (p+k)=.ok (bs.getD (p+k) 0) (p+k+1):=by unfold Qx;rw [if_neg H]
      rw [t] at F;have ap:=HA.o (p+k);have m:p+k<bs.length:=by omega
      have S:=Hm (λh1 D=>sv_more l.o m h1 D);have U:=Hm (λD R=>sv_long l.o (by omega) m D R);have V:=Hm (λD R h4=>sv_bits l.o (by omega) m D R h4);have J:=Hm (λD R=>sv_end l.o (by omega) m D R);have XS:=Hm (By.G6 v (bs.getD (p+k) 0) k aa ay.o);clear t l;generalize bs.getD (p+k) 0=y at *;obtain ⟨ar,aq⟩:=ap;have L:=Hm (λW=>By.rest_any false y (32-7*(k:Int)) W ar aq (by omega) (by omega));have ec:((p+k+1:Nat):Int)=(p:Int)+k+1:=by omega
      have HP:=Hm (By.XO (7*(k:Int)))
      by_cases ac:k=4
      . have ax:((k:Int)==4)=true:=by simp;omega
        have a1:4<=(k:Int):=by omega
        have ag:=Hm ac;clear ac
        by_cases I:128<=y
        . have z:=Hm (U.o (by omega) I);clear S U V J XS
          go_wp2_with (first
           |(go_at_call 73;refine (F.o).mono ?_;rintro e A ⟨c,rfl,b⟩;have j:=Hm b;have g:=Hm (Qa O.o c);have e1:=b.c1;have e3:=b.c3;have E:=Hm (JT s ba bc bs (p+k+1) 7 ((p+k+1:Nat):Int) A b (by decide));clear c b)
           |(go_at_call 275;refine (L.o _).mono ?_;rintro e w2 ⟨rfl,rfl⟩)
           |(go_at_call 276;refine (By.Jt _ _ (by omega) (by omega)).mono ?_;rintro e X ⟨rfl,rfl⟩)
           | (go_at_call 74;refine (E.o).mono ?_;rintro e w4 ⟨rfl,d,f⟩;have q:=Hm d;have r:=Hm (Qa g.o f);clear d f))
          go_roundw
          case rel=>exact ⟨k+1,_,by go_num,rfl,(u64rng _).1,(u64rng _).2,r.o,.inr ⟨by have:=ag.o;omega,7,_,_,by decide,z.o,by have:=q.o;simpa using this⟩⟩
          case measure=>simp [intOf];have:=ag.o;omega
        . have C:y<128:=by omega
          cases hok:By.rok false y (32-7*(k:Int))
          . have z:=Hm (V.o (by omega) C hok);rw [hok] at L;clear S U V J XS hok
            go_wp2_with (first
             |(go_at_call 73;refine (F.o).mono ?_;rintro e A ⟨c,rfl,b⟩;have j:=Hm b;have g:=Hm (Qa O.o c);have e1:=b.c1;have e3:=b.c3;have E:=Hm (JT s ba bc bs (p+k+1) 7 ((p+k+1:Nat):Int) A b (by decide));clear c b)
             |(go_at_call 275;refine (L.o _).mono ?_;rintro e w2 ⟨rfl,rfl⟩)
             |(go_at_call 276;refine (By.Jt _ _ (by omega) (by omega)).mono ?_;rintro e X ⟨rfl,rfl⟩)
             | (go_at_call 74;refine (E.o).mono ?_;rintro e w4 ⟨rfl,d,f⟩;have q:=Hm d;have r:=Hm (Qa g.o f);clear d f))
            go_ret
            refine ⟨r.o,?_⟩
            rw [z.o]
            exact ⟨_,_,rfl,⟨_,rfl,u64rng _⟩,by have:=q.o;simpa using this⟩
          . have z:=Hm (J.o C (λ_=>hok));rw [hok] at L;clear S U V J hok;have HV:Hid (IntKind.u64.wrap (v+IntKind.u64.wrap (y%128*By.P2 (7*(k:Int))))=By.fin false (v+y%128*By.P2 (7*(k:Int))) y k):=by show _=_;simp only [By.fin,Bool.false_eq_true,false_and,if_false];exact By.val1 (by omega)
            go_wp2_with (first
             |(go_at_call 73;refine (F.o).mono ?_;rintro e A ⟨c,rfl,b⟩;have j:=Hm b;have g:=Hm (Qa O.o c);have e1:=b.c1;have e3:=b.c3;have E:=Hm (JT s ba bc bs (p+k+1) 7 ((p+k+1:Nat):Int) A b (by decide));clear c b)
             |(go_at_call 275;refine (L.o _).mono ?_;rintro e w2 ⟨rfl,rfl⟩)
             |(go_at_call 276;refine (By.Jt _ _ (by omega) (by omega)).mono ?_;rintro e X ⟨rfl,rfl⟩)
             | (go_at_call 74;refine (E.o).mono ?_;rintro e w4 ⟨rfl,d,f⟩;have q:=Hm d;have r:=Hm (Qa g.o f);clear d f))
            go_ret
            refine ⟨g.o,?_⟩
            rw [z.o]
            exact ⟨by rw [HV.o];rfl,j.o⟩
      . have a0:(k:Int)<4:=by omega
        have ax:((k:Int)==4)=false:=by simp;omega
        by_cases I:128<=y
        . have af:=Hm (S.o (by omega) (by omega) I);have M:=Hm XS.o
          have B:Hid (IntKind.u64.wrap (v+IntKind.u64.wrap (y%128*By.P2 (7*(k:Int))))=v+y%128*By.P2 (7*(k:Int))):=by
           have h1:=XS.o;have D:=By.P2_63 (n:=7*((k+1:Nat):Int)) (by omega);have R:=By.mul_bd (y%128) (By.P2 (7*(k:Int))) (by omega) (by omega) HP.o
           show _=_
           rw [IntKind.wrap_u64,IntKind.wrap_u64];omega
          clear S U V J XS
          go_wp2_with (first
           |(go_at_call 73;refine (F.o).mono ?_;rintro e A ⟨c,rfl,b⟩;have j:=Hm b;have g:=Hm (Qa O.o c);have e1:=b.c1;have e3:=b.c3;have E:=Hm (JT s ba bc bs (p+k+1) 7 ((p+k+1:Nat):Int) A b (by decide));clear c b)
           |(go_at_call 275;refine (L.o _).mono ?_;rintro e w2 ⟨rfl,rfl⟩)
           |(go_at_call 276;refine (By.Jt _ _ (by omega) (by omega)).mono ?_;rintro e X ⟨rfl,rfl⟩)
           | (go_at_call 74;refine (E.o).mono ?_;rintro e w4 ⟨rfl,d,f⟩;have q:=Hm d;have r:=Hm (Qa g.o f);clear d f))
          go_roundw
          case rel=>exact ⟨k+1,_,by go_num,rfl,by rw [B.o];exact M.o.1,by rw [B.o];have:=M.o.2;have D:=By.P2_63 (n:=7*((k+1:Nat):Int)) (by omega);omega,g.o,.inl ⟨by omega,by rw [B.o];exact M.o.2,by rw [B.o];exact af.o,j.o⟩⟩
          case measure=>simp [intOf];omega
        . have C:y<128:=by omega
          have z:=Hm (J.o C (λh=>by omega));clear S U V J;have HV:Hid (IntKind.u64.wrap (v+IntKind.u64.wrap (y%128*By.P2 (7*(k:Int))))=By.fin false (v+y%128*By.P2 (7*(k:Int))) y k):=by show _=_;simp only [By.fin,Bool.false_eq_true,false_and,if_false];exact By.val1 (by omega)
          go_wp2_with (first
           |(go_at_call 73;refine (F.o).mono ?_;rintro e A ⟨c,rfl,b⟩;have j:=Hm b;have g:=Hm (Qa O.o c);have e1:=b.c1;have e3:=b.c3;have E:=Hm (JT s ba bc bs (p+k+1) 7 ((p+k+1:Nat):Int) A b (by decide));clear c b)
           |(go_at_call 275;refine (L.o _).mono ?_;rintro e w2 ⟨rfl,rfl⟩)
           |(go_at_call 276;refine (By.Jt _ _ (by omega) (by omega)).mono ?_;rintro e X ⟨rfl,rfl⟩)
           | (go_at_call 74;refine (E.o).mono ?_;rintro e w4 ⟨rfl,d,f⟩;have q:=Hm d;have r:=Hm (Qa g.o f);clear d f))
          go_ret
          refine ⟨g.o,?_⟩
          rw [z.o]
          exact ⟨by rw [HV.o];rfl,j.o⟩
  . have bb:¬ (k:Int)<=4:=by omega
    clear hk;obtain ⟨z3,ao,Y,c3⟩:=G.c3n aw;have z:=Hm hM;have j:=Hm G;clear G hM
    go_wp2_with fail
    go_ret
    refine ⟨O.o,?_⟩
    rw [z.o]
    exact ⟨_,_,rfl,⟨_,rfl,aa,au⟩,j.o⟩
end Go.Proofs.YtedcmcdbejjgcaaGreat.Ms
namespace Go.Proofs.YtedcmcdbejjgcaaGreat.Ms
open Go.RowKit Go.Sort
end Go.Proofs.YtedcmcdbejjgcaaGreat.Ms
