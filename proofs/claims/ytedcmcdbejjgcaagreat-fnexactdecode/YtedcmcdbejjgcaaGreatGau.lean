import Derived.Test.YtedcmcdbejjgcaaGreatGaa
import Derived.Test.YtedcmcdbejjgcaaGreatGas
set_option linter.all false
set_option maxHeartbeats 400000000
set_option maxRecDepth 100000
namespace Go.Proofs.YtedcmcdbejjgcaaGreat.Ms
open Go.RowKit Go.Sort
theorem leb_x:(∀ (s:Nat) (r:Option Addr) (bc:Bd) (bs:List Int) (p:Nat) (w:World) (h:Sr w s r bc bs p 0 0) (hA:Qm bs) (hl:bs.length<=1099511627776),Calls Tryz.prog 217 #[.pointer (some ⟨s,0,none⟩),.int .i64 32,.bool true] w (SpP (Qy true 32 bs p) (λv=>.int .u64 v) isU w s r bc bs))/\(∀ (s:Nat) (r:Option Addr) (bc:Bd) (bs:List Int) (p:Nat) (w:World) (h:Sr w s r bc bs p 0 0) (hA:Qm bs) (hl:bs.length<=1099511627776),Calls Tryz.prog 217 #[.pointer (some ⟨s,0,none⟩),.int .i64 64,.bool true] w (SpP (Qy true 64 bs p) (λv=>.int .u64 v) isU w s r bc bs)):=by
 refine ⟨?c0,?c1⟩
 case' c0=>have l:=0
 case' c1=>have t1:=0
 all_goals
  intro s r bc bs p w h hA hl
  have HS:=Hm h;have HA:=Hm hA;clear h hA
  go_enter Tryz.func217,Tryz.ntmps217
  go_wp2_with fail
  first|(replace l:=l;go_loopw [7,9] (λx i wr=>∃ (k:Nat) (v:Int),i=.int .i64 (k:Int)/\x=.int .u64 v/\0<=v/\v<=18446744073709551615/\w.grownBy wr (some s)/\((k<=4/\v<By.P2 (7*(k:Int))/\Sv true bs p 32 k v/\Sr wr s r bc bs (p+k) 0 0)\/(k=5/\∃ er a p',er≠0/\Qy true 32 bs p=.bad er a/\Sr wr s r bc bs p' er a))) (λ_ i _=>6-(intOf i).toNat))|(go_loopw [7,9] (λx i wr=>∃ (k:Nat) (v:Int),i=.int .i64 (k:Int)/\x=.int .u64 v/\0<=v/\v<=18446744073709551615/\w.grownBy wr (some s)/\((k<=9/\v<By.P2 (7*(k:Int))/\Sv true bs p 64 k v/\Sr wr s r bc bs (p+k) 0 0)\/(k=10/\∃ er a p',er≠0/\Qy true 64 bs p=.bad er a/\Sr wr s r bc bs p' er a))) (λ_ i _=>11-(intOf i).toNat))
  case atStart=>exact ⟨0,0,rfl,rfl,by omega,by omega,World.grownBy.refl _ _,.inl ⟨by omega,by decide,rfl,HS.o⟩⟩
  case round =>
   obtain ⟨k,v,rfl,rfl,au,a3,hg,a4⟩:=hrel;have H:=Hm hg;clear hg HS
   rcases a4 with ⟨hk,ar,av,X⟩|⟨hk,er,a,p',a5,hM,X⟩
   . first|(replace l:=l;have a6:(k:Int)<=4:=by omega)|(have a6:(k:Int)<=9:=by omega)
     have c3:=X.c3;have B:=Hm av;have a8:=Hm ar;have F:=Hm (byte_sc s r bc bs (p+k) wr X hl);clear av X ar
     by_cases Y:bs.length<=p+k
     . have D:=Hm (sv_short B.o (by omega) Y);have E:Qx bs (p+k)=.bad 2 bs.length:=by unfold Qx;rw [if_pos Y]
       rw [E] at F;have bh:IntKind.u64.wrap v=v:=by rw [IntKind.wrap_u64];omega
       clear E B
       go_wp2_with (first
        |(go_at_call 73;refine (F.o).mono ?_;rintro e t ⟨c,u,p',rfl,rfl,b⟩;have j:=Hm b;have g:=Hm (Qa H.o c);obtain ⟨z3,a1,ao,R⟩:=b.c3n (by decide);clear c b)
        | (go_at_call 276;refine (By.Jt _ _ (by omega) (by omega)).mono ?_;rintro e M ⟨rfl,rfl⟩))
       go_ret
       refine ⟨g.o,?_⟩
       rw [D.o]
       exact ⟨_,_,rfl,⟨_,rfl,by omega,by omega⟩,j.o⟩
     . have E:Qx bs (p+k)=.ok (bs.getD (p+k) 0) (p+k+1):=by unfold Qx;rw [if_neg Y]
       rw [E] at F;have a2:=HA.o (p+k);have C:p+k<bs.length:=by omega
       have XM:=Hm (λh1 L=>sv_more B.o C h1 L);have XL:=Hm (λL h3=>sv_long B.o (by omega) C L h3);have XB:=Hm (λL h3 h4=>sv_bits B.o (by omega) C L h3 h4);have XE:=Hm (λL h3=>sv_end B.o (by omega) C L h3);have XS:=Hm (By.G6 v (bs.getD (p+k) 0) k au a8.o);clear E B;generalize bs.getD (p+k) 0=y at *;obtain ⟨aq,ap⟩:=a2
       first|(replace l:=l;have G:=Hm (λW=>By.rest_any true y (32-7*(k:Int)) W aq ap (by omega) (by omega)))|(have G:=Hm (λW=>By.rest_any true y (64-7*(k:Int)) W aq ap (by omega) (by omega)))
       have ec:((p+k+1:Nat):Int)=(p:Int)+k+1:=by omega
       have HP:=Hm (By.XO (7*(k:Int)))
       first|(replace l:=l;by_cases aa:k=4)|(by_cases aa:k=9)
       . first|(replace l:=l;have Z:((k:Int)==4)=true:=by simp;omega)|(have Z:((k:Int)==9)=true:=by simp;omega)
         first|(replace l:=l;have ax:4<=(k:Int):=by omega)|(have ax:9<=(k:Int):=by omega)
         have af:=Hm aa;clear aa
         by_cases ab:128<=y
         . have D:=Hm (XL.o (by omega) ab);clear XM XL XB XE XS
           go_wp2_with (first
            |(go_at_call 73;refine (F.o).mono ?_;rintro e t ⟨c,rfl,b⟩;have j:=Hm b;have g:=Hm (Qa H.o c);have e1:=b.c1;have R:=b.c3;have A:=Hm (JT s r bc bs (p+k+1) 7 ((p+k+1:Nat):Int) t b (by decide));clear c b)
            |(go_at_call 275;refine (G.o _).mono ?_;rintro e V ⟨rfl,rfl⟩)
            |(go_at_call 276;refine (By.Jt _ _ (by omega) (by omega)).mono ?_;rintro e M ⟨rfl,rfl⟩)
            | (go_at_call 74;refine (A.o).mono ?_;rintro e U ⟨rfl,d,f⟩;have m:=Hm d;have q:=Hm (Qa g.o f);clear d f))
           go_roundw
           case rel=>exact ⟨k+1,_,by go_num,rfl,(u64rng _).1,(u64rng _).2,q.o,.inr ⟨by have:=af.o;omega,7,_,_,by decide,D.o,by have:=m.o;simpa using this⟩⟩
           case measure=>simp [intOf];have:=af.o;omega
         . have J:y<128:=by omega
           first|(replace l:=l;cases hok:By.rok true y (32-7*(k:Int)))|(cases hok:By.rok true y (64-7*(k:Int)))
           . have D:=Hm (XB.o (by omega) J hok);rw [hok] at G;clear XM XL XB XE XS hok
             by_cases z:64<=y
             . skip
               go_wp2_with (first
                |(go_at_call 73;refine (F.o).mono ?_;rintro e t ⟨c,rfl,b⟩;have j:=Hm b;have g:=Hm (Qa H.o c);have e1:=b.c1;have R:=b.c3;have A:=Hm (JT s r bc bs (p+k+1) 7 ((p+k+1:Nat):Int) t b (by decide));clear c b)
                |(go_at_call 275;refine (G.o _).mono ?_;rintro e V ⟨rfl,rfl⟩)
                |(go_at_call 276;refine (By.Jt _ _ (by omega) (by omega)).mono ?_;rintro e M ⟨rfl,rfl⟩)
                | (go_at_call 74;refine (A.o).mono ?_;rintro e U ⟨rfl,d,f⟩;have m:=Hm d;have q:=Hm (Qa g.o f);clear d f))
               go_ret
               refine ⟨q.o,?_⟩
               rw [D.o]
               exact ⟨_,_,rfl,⟨_,rfl,u64rng _⟩,by have:=m.o;simpa using this⟩
             . have O:y<64:=by omega
               skip
               go_wp2_with (first
                |(go_at_call 73;refine (F.o).mono ?_;rintro e t ⟨c,rfl,b⟩;have j:=Hm b;have g:=Hm (Qa H.o c);have e1:=b.c1;have R:=b.c3;have A:=Hm (JT s r bc bs (p+k+1) 7 ((p+k+1:Nat):Int) t b (by decide));clear c b)
                |(go_at_call 275;refine (G.o _).mono ?_;rintro e V ⟨rfl,rfl⟩)
                |(go_at_call 276;refine (By.Jt _ _ (by omega) (by omega)).mono ?_;rintro e M ⟨rfl,rfl⟩)
                | (go_at_call 74;refine (A.o).mono ?_;rintro e U ⟨rfl,d,f⟩;have m:=Hm d;have q:=Hm (Qa g.o f);clear d f))
               go_ret
               refine ⟨q.o,?_⟩
               rw [D.o]
               exact ⟨_,_,rfl,⟨_,rfl,u64rng _⟩,by have:=m.o;simpa using this⟩
           . have D:=Hm (XE.o J (λ_=>hok));rw [hok] at G;clear XM XL XB XE hok
             by_cases z:64<=y
             . first|(replace l:=l;have S:Hid (IntKind.u64.wrap (IntKind.u64.wrap (v+IntKind.u64.wrap (y%128*By.P2 (7*(k:Int))))-By.P2 (7*(k:Int)+7))=By.fin true (v+y%128*By.P2 (7*(k:Int))) y k):=by show _=_;simp only [By.fin,true_and,z,if_true];exact By.val2 (by omega))|(have S:Hid (IntKind.u64.wrap (v+IntKind.u64.wrap (y%128*By.P2 (7*(k:Int))))=By.fin true (v+y%128*By.P2 (7*(k:Int))) y k):=by show _=_;simp only [By.fin,true_and,z,if_true];exact By.val3 af.o (by omega))
               go_wp2_with (first
                |(go_at_call 73;refine (F.o).mono ?_;rintro e t ⟨c,rfl,b⟩;have j:=Hm b;have g:=Hm (Qa H.o c);have e1:=b.c1;have R:=b.c3;have A:=Hm (JT s r bc bs (p+k+1) 7 ((p+k+1:Nat):Int) t b (by decide));clear c b)
                |(go_at_call 275;refine (G.o _).mono ?_;rintro e V ⟨rfl,rfl⟩)
                |(go_at_call 276;refine (By.Jt _ _ (by omega) (by omega)).mono ?_;rintro e M ⟨rfl,rfl⟩)
                | (go_at_call 74;refine (A.o).mono ?_;rintro e U ⟨rfl,d,f⟩;have m:=Hm d;have q:=Hm (Qa g.o f);clear d f))
               go_ret
               refine ⟨g.o,?_⟩
               rw [D.o]
               exact ⟨by rw [S.o];rfl,j.o⟩
             . have O:y<64:=by omega
               have S:Hid (IntKind.u64.wrap (v+IntKind.u64.wrap (y%128*By.P2 (7*(k:Int))))=By.fin true (v+y%128*By.P2 (7*(k:Int))) y k):=by show _=_;simp only [By.fin,true_and,z,if_false];exact By.val1 (by omega)
               go_wp2_with (first
                |(go_at_call 73;refine (F.o).mono ?_;rintro e t ⟨c,rfl,b⟩;have j:=Hm b;have g:=Hm (Qa H.o c);have e1:=b.c1;have R:=b.c3;have A:=Hm (JT s r bc bs (p+k+1) 7 ((p+k+1:Nat):Int) t b (by decide));clear c b)
                |(go_at_call 275;refine (G.o _).mono ?_;rintro e V ⟨rfl,rfl⟩)
                |(go_at_call 276;refine (By.Jt _ _ (by omega) (by omega)).mono ?_;rintro e M ⟨rfl,rfl⟩)
                | (go_at_call 74;refine (A.o).mono ?_;rintro e U ⟨rfl,d,f⟩;have m:=Hm d;have q:=Hm (Qa g.o f);clear d f))
               go_ret
               refine ⟨g.o,?_⟩
               rw [D.o]
               exact ⟨by rw [S.o];rfl,j.o⟩
       . first|(replace l:=l;have aw:(k:Int)<4:=by omega)|(have aw:(k:Int)<9:=by omega)
         first|(replace l:=l;have Z:((k:Int)==4)=false:=by simp;omega)|(have Z:((k:Int)==9)=false:=by simp;omega)
         by_cases ab:128<=y
         . have az:=Hm (XM.o (by omega) (by omega) ab);have ae:=Hm XS.o
           have I:Hid (IntKind.u64.wrap (v+IntKind.u64.wrap (y%128*By.P2 (7*(k:Int))))=v+y%128*By.P2 (7*(k:Int))):=by
            have h1:=XS.o;have L:=By.P2_63 (n:=7*((k+1:Nat):Int)) (by omega);have h3:=By.mul_bd (y%128) (By.P2 (7*(k:Int))) (by omega) (by omega) HP.o
            show _=_
            rw [IntKind.wrap_u64,IntKind.wrap_u64];omega
           clear XM XL XB XE XS
           go_wp2_with (first
            |(go_at_call 73;refine (F.o).mono ?_;rintro e t ⟨c,rfl,b⟩;have j:=Hm b;have g:=Hm (Qa H.o c);have e1:=b.c1;have R:=b.c3;have A:=Hm (JT s r bc bs (p+k+1) 7 ((p+k+1:Nat):Int) t b (by decide));clear c b)
            |(go_at_call 275;refine (G.o _).mono ?_;rintro e V ⟨rfl,rfl⟩)
            |(go_at_call 276;refine (By.Jt _ _ (by omega) (by omega)).mono ?_;rintro e M ⟨rfl,rfl⟩)
            | (go_at_call 74;refine (A.o).mono ?_;rintro e U ⟨rfl,d,f⟩;have m:=Hm d;have q:=Hm (Qa g.o f);clear d f))
           go_roundw
           case rel=>exact ⟨k+1,_,by go_num,rfl,by rw [I.o];exact ae.o.1,by rw [I.o];have:=ae.o.2;have L:=By.P2_63 (n:=7*((k+1:Nat):Int)) (by omega);omega,g.o,.inl ⟨by omega,by rw [I.o];exact ae.o.2,by rw [I.o];exact az.o,j.o⟩⟩
           case measure=>simp [intOf];omega
         . have J:y<128:=by omega
           have D:=Hm (XE.o J (λh=>by omega));clear XM XL XB XE
           by_cases z:64<=y
           . have S:Hid (IntKind.u64.wrap (IntKind.u64.wrap (v+IntKind.u64.wrap (y%128*By.P2 (7*(k:Int))))-By.P2 (7*(k:Int)+7))=By.fin true (v+y%128*By.P2 (7*(k:Int))) y k):=by show _=_;simp only [By.fin,true_and,z,if_true];exact By.val2 (by omega)
             go_wp2_with (first
              |(go_at_call 73;refine (F.o).mono ?_;rintro e t ⟨c,rfl,b⟩;have j:=Hm b;have g:=Hm (Qa H.o c);have e1:=b.c1;have R:=b.c3;have A:=Hm (JT s r bc bs (p+k+1) 7 ((p+k+1:Nat):Int) t b (by decide));clear c b)
              |(go_at_call 275;refine (G.o _).mono ?_;rintro e V ⟨rfl,rfl⟩)
              |(go_at_call 276;refine (By.Jt _ _ (by omega) (by omega)).mono ?_;rintro e M ⟨rfl,rfl⟩)
              | (go_at_call 74;refine (A.o).mono ?_;rintro e U ⟨rfl,d,f⟩;have m:=Hm d;have q:=Hm (Qa g.o f);clear d f))
             go_ret
             refine ⟨g.o,?_⟩
             rw [D.o]
             exact ⟨by rw [S.o];rfl,j.o⟩
           . have O:y<64:=by omega
             have S:Hid (IntKind.u64.wrap (v+IntKind.u64.wrap (y%128*By.P2 (7*(k:Int))))=By.fin true (v+y%128*By.P2 (7*(k:Int))) y k):=by show _=_;simp only [By.fin,true_and,z,if_false];exact By.val1 (by omega)
             go_wp2_with (first
              |(go_at_call 73;refine (F.o).mono ?_;rintro e t ⟨c,rfl,b⟩;have j:=Hm b;have g:=Hm (Qa H.o c);have e1:=b.c1;have R:=b.c3;have A:=Hm (JT s r bc bs (p+k+1) 7 ((p+k+1:Nat):Int) t b (by decide));clear c b)
              |(go_at_call 275;refine (G.o _).mono ?_;rintro e V ⟨rfl,rfl⟩)
              |(go_at_call 276;refine (By.Jt _ _ (by omega) (by omega)).mono ?_;rintro e M ⟨rfl,rfl⟩)
              | (go_at_call 74;refine (A.o).mono ?_;rintro e U ⟨rfl,d,f⟩;have m:=Hm d;have q:=Hm (Qa g.o f);clear d f))
             go_ret
             refine ⟨g.o,?_⟩
             rw [D.o]
             exact ⟨by rw [S.o];rfl,j.o⟩
   . first|(replace l:=l;have a7:¬ (k:Int)<=4:=by omega)|(have a7:¬ (k:Int)<=9:=by omega)
     clear hk;obtain ⟨z3,a1,ao,c3⟩:=X.c3n a5;have D:=Hm hM;have j:=Hm X;clear X hM
     go_wp2_with fail
     go_ret
     refine ⟨H.o,?_⟩
     rw [D.o]
     exact ⟨_,_,rfl,⟨_,rfl,au,a3⟩,j.o⟩
def lebS_sc:=leb_x.1
def lebL_sc:=leb_x.2
end Go.Proofs.YtedcmcdbejjgcaaGreat.Ms
