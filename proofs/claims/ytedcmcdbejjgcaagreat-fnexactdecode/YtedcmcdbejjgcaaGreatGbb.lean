import Derived.Test.YtedcmcdbejjgcaaGreatGaa
import Derived.Test.YtedcmcdbejjgcaaGreatGay
set_option linter.all false
set_option maxHeartbeats 400000000
set_option maxRecDepth 100000
namespace Go.Proofs.YtedcmcdbejjgcaaGreat.Ms
open Go.RowKit Go.Sort
end Go.Proofs.YtedcmcdbejjgcaaGreat.Ms
namespace Go.Proofs.YtedcmcdbejjgcaaGreat.Ms
open Go.RowKit Go.Sort
theorem sinr_z:(∀ (s:Nat) (Z:Option Addr) (bc:Bd) (bs:List Int) (p:Nat) (z a0:Int) (w:World) (hf:QM (Qr z)=4) (h:Sr w s Z bc bs p 0 0) (hA:Qm bs) (hl:bs.length<=1099511627776),Calls Tryz.prog 278 #[.pointer (some ⟨s,0,none⟩),.int .i64 z,.int .i64 a0] w (SiP (JQ 4 z bs p) w s Z bc bs))/\(∀ (s:Nat) (Z:Option Addr) (bc:Bd) (bs:List Int) (p:Nat) (z a0:Int) (w:World) (hf:QM (Qr z)=5) (h:Sr w s Z bc bs p 0 0) (hA:Qm bs) (hl:bs.length<=1099511627776),Calls Tryz.prog 278 #[.pointer (some ⟨s,0,none⟩),.int .i64 z,.int .i64 a0] w (SiP (JQ 5 z bs p) w s Z bc bs)):=by
 refine ⟨?c0,?c1⟩
 case' c0=>have d:=0
 case' c1=>have t1:=0
 all_goals
  intro s Z bc bs p z a0 w hf h hA hl
  have HF:=Hm (X7 z);rw [hf] at HF;obtain ⟨W,hW,hz,hx,hb⟩:=XW w z;have ak:s<w.heap.size:=h.lt;have U:Hid (∀ b o,bc.ea=some ⟨b,o,none⟩->b≠w.heap.size):=λb o e=>by have:=h.el b o e;omega
  have C:Hid (∀ b o,bc.ea=some ⟨b,o,none⟩->b≠w.heap.size+1):=λb o e=>by have:=h.el b o e;omega
  have HW:=Hm hW;have HZ:=Hm hz;have HX:=Hm hx;have a1:=Hm (h.keep hb);have a2:=Hm (show w.grownBy W (some s) from Qi hb);clear hf hW hz hx hb h
  first|(replace d:=d;show Calls _ _ _ _ (SiP ((Qy false 32 bs p).bind λv1 p1=>(Xp bs p1).bind λv2 p2=>.ok ⟨z,v1,0,0,[]⟩ p2) _ _ _ _ _))|(show Calls _ _ _ _ (SiP ((Qy false 32 bs p).bind λv1 p1=>(Qy false 32 bs p1).bind λv2 p2=>.ok ⟨z,v1,v2,0,[]⟩ p2) _ _ _ _ _))
  have K1:=Hm (λV (hV:Sr V s Z bc bs p 0 0)=>u32_sc s Z bc bs p V hV hA hl);have ao:(Qy false 32 bs p).nz:=Q9 _ _ _ _;generalize Qy false 32 bs p=M1 at *
  cases M1 with
  |bad er a =>
   have ag:=ao er a rfl;clear ao
   go_enter Tryz.func278,Tryz.ntmps278
   go_wp2_with fail
   rw [<- HW.o]
   refine (HF.o _).mono ?_
   rintro e w2 ⟨rfl,rfl⟩;have ax:=a1;have Y:=HX;have S:=HZ;have ay:=a2;obtain ⟨⟨M,L,J,I,H⟩,f⟩:=Y.o;have t:=f 1;have r:=f 2;have n:=f 3;obtain ⟨⟨G,F,E,z3,D⟩,c⟩:=S.o;have m:=c 0;have l:=c 1;have k:=c 2;have j:=c 3;have g:=c 4;clear HF HW f c
   go_wp2_with fail
   refine (K1.o _ ax.o).mono ?_
   rintro e w3 ⟨y,u,q,rfl,⟨v0,rfl⟩,hr⟩;have R:=Hm (QB Y.o y (by omega));have O:=Hm (QB S.o y (by omega));have au:=Hm (Qa ay.o y);have aq:=Hm hr;clear M L J I H t r n G F E z3 D m l k j g;obtain ⟨⟨M,L,J,I,H⟩,f⟩:=R.o;have t:=f 1;have r:=f 2;have n:=f 3;obtain ⟨⟨G,F,E,z3,D⟩,c⟩:=O.o;have m:=c 0;have l:=c 1;have k:=c 2;have j:=c 3;have g:=c 4;clear y hr f c;have ai:=Hm (Om (v:=.int .i64 v0) R.o);have ah:=Hm (Xd (X:=w.heap.size+1) (i:=1) (v:=.int .i64 v0) O.o (by omega));have aj:=Hm (J3 au.o (show w.heap.size<=w.heap.size+1 by omega) 1 (.int .i64 v0));have ac:=Hm (aq.o.far (show s<w.heap.size+1 by omega) C.o 1 (.int .i64 v0))
   first|(replace d:=d;have a6:=Hm (λ(V:World) q (hV:Sr V s Z bc bs q er a)=>one_se 0 0 s Z bc bs q er a V hV ag))|(have a6:=Hm (λ(V:World) q (hV:Sr V s Z bc bs q er a)=>u32_se s Z bc bs q er a V hV ag))
   go_wp2_with fail
   refine (a6.o _ _ ac.o).mono ?_
   rintro e w4 ⟨rfl,rfl⟩
   first|(replace d:=d;have aw:=ai)|(have aw:=Hm (c5_set2 (v:=.int .i64 0) ai.o))
   first|(replace d:=d;have av:=ah)|(have av:=Hm (Xd (X:=w.heap.size+1) (i:=2) (v:=.int .i64 0) ah.o (by omega)))
   first|(replace d:=d;have B:=aj)|(have B:=Hm (J3 aj.o (show w.heap.size<=w.heap.size+1 by omega) 2 (.int .i64 0)))
   first|(replace d:=d;have A:=ac)|(have A:=Hm (ac.o.far (show s<w.heap.size+1 by omega) C.o 2 (.int .i64 0)))
   go_wp2_with fail
   exact bodyPost_ret (v:=inV (⟨z,v0,0,0,[]⟩:In) none 0) (by simp [results,Tryz.results278,go_sem,M,L,J,I,H,G,F,E,z3,D]) rfl (by
    obtain ⟨t1,t2⟩:=JZ A.o B.o ak U.o
    exact ⟨t1,_,_,_,rfl,ag,_,t2⟩)
  |ok v1 p1 =>
   first|(replace d:=d;show Calls _ _ _ _ (SiP ((Xp bs p1).bind λv2 p2=>.ok ⟨z,v1,0,0,[]⟩ p2) _ _ _ _ _))|(show Calls _ _ _ _ (SiP ((Qy false 32 bs p1).bind λv2 p2=>.ok ⟨z,v1,v2,0,[]⟩ p2) _ _ _ _ _))
   clear ao
   first|(replace d:=d;have K2:=Hm (λV (hV:Sr V s Z bc bs p1 0 0)=>one0_sc s Z bc bs p1 V hV hA hl))|(have K2:=Hm (λV (hV:Sr V s Z bc bs p1 0 0)=>u32_sc s Z bc bs p1 V hV hA hl))
   first|(replace d:=d;have af:(Xp bs p1).nz:=nz_mark _ _)|(have af:(Qy false 32 bs p1).nz:=Q9 _ _ _ _)
   first|(replace d:=d;generalize Xp bs p1=M2 at *)|(generalize Qy false 32 bs p1=M2 at *)
   cases M2 with
   |bad er a =>
    have ag:=af er a rfl;clear af
    go_enter Tryz.func278,Tryz.ntmps278
    go_wp2_with fail
    rw [<- HW.o]
    refine (HF.o _).mono ?_
    rintro e w2 ⟨rfl,rfl⟩;have ax:=a1;have Y:=HX;have S:=HZ;have ay:=a2;obtain ⟨⟨M,L,J,I,H⟩,f⟩:=Y.o;have t:=f 1;have r:=f 2;have n:=f 3;obtain ⟨⟨G,F,E,z3,D⟩,c⟩:=S.o;have m:=c 0;have l:=c 1;have k:=c 2;have j:=c 3;have g:=c 4;clear HF HW f c
    go_wp2_with fail
    refine (K1.o _ ax.o).mono ?_
    rintro e w3 ⟨y,rfl,hr⟩;have R:=Hm (QB Y.o y (by omega));have O:=Hm (QB S.o y (by omega));have au:=Hm (Qa ay.o y);have aq:=Hm hr;clear M L J I H t r n G F E z3 D m l k j g;obtain ⟨⟨M,L,J,I,H⟩,f⟩:=R.o;have t:=f 1;have r:=f 2;have n:=f 3;obtain ⟨⟨G,F,E,z3,D⟩,c⟩:=O.o;have m:=c 0;have l:=c 1;have k:=c 2;have j:=c 3;have g:=c 4;clear y hr f c;have ai:=Hm (Om (v:=.int .i64 v1) R.o);have ah:=Hm (Xd (X:=w.heap.size+1) (i:=1) (v:=.int .i64 v1) O.o (by omega));have aj:=Hm (J3 au.o (show w.heap.size<=w.heap.size+1 by omega) 1 (.int .i64 v1));have ac:=Hm (aq.o.far (show s<w.heap.size+1 by omega) C.o 1 (.int .i64 v1))
    go_wp2_with fail
    refine (K2.o _ ac.o).mono ?_
    rintro e w4 ⟨y,u,q,rfl,⟨v0,rfl⟩,hr⟩;have ab:=Hm (QB ai.o y (by omega));have aa:=Hm (QB ah.o y (by omega));have ar:=Hm (Qa aj.o y);have ap:=Hm hr;clear M L J I H t r n G F E z3 D m l k j g;obtain ⟨⟨M,L,J,I,H⟩,f⟩:=ab.o;have t:=f 1;have r:=f 2;have n:=f 3;obtain ⟨⟨G,F,E,z3,D⟩,c⟩:=aa.o;have m:=c 0;have l:=c 1;have k:=c 2;have j:=c 3;have g:=c 4;clear y hr f c
    first|(replace d:=d;have aw:=ab)|(have aw:=Hm (c5_set2 (v:=.int .i64 v0) ab.o))
    first|(replace d:=d;have av:=aa)|(have av:=Hm (Xd (X:=w.heap.size+1) (i:=2) (v:=.int .i64 v0) aa.o (by omega)))
    first|(replace d:=d;have B:=ar)|(have B:=Hm (J3 ar.o (show w.heap.size<=w.heap.size+1 by omega) 2 (.int .i64 v0)))
    first|(replace d:=d;have A:=ap)|(have A:=Hm (ap.o.far (show s<w.heap.size+1 by omega) C.o 2 (.int .i64 v0)))
    go_wp2_with fail
    first
    | (replace d:=d
       exact bodyPost_ret (v:=inV (⟨z,v1,0,0,[]⟩:In) none 0) (by simp [results,Tryz.results278,go_sem,M,L,J,I,H,G,F,E,z3,D]) rfl (by
        obtain ⟨t1,t2⟩:=JZ A.o B.o ak U.o
        exact ⟨t1,_,_,_,rfl,ag,_,t2⟩))
    | (replace t1:=t1
       exact bodyPost_ret (v:=inV (⟨z,v1,v0,0,[]⟩:In) none 0) (by simp [results,Tryz.results278,go_sem,M,L,J,I,H,G,F,E,z3,D]) rfl (by
        obtain ⟨t1,t2⟩:=JZ A.o B.o ak U.o
        exact ⟨t1,_,_,_,rfl,ag,_,t2⟩))
   |ok v2 p2 =>
    first|(replace d:=d;show Calls _ _ _ _ (SiP (.ok ⟨z,v1,0,0,[]⟩ p2) _ _ _ _ _))|(show Calls _ _ _ _ (SiP (.ok ⟨z,v1,v2,0,[]⟩ p2) _ _ _ _ _))
    clear af
    go_enter Tryz.func278,Tryz.ntmps278
    go_wp2_with fail
    rw [<- HW.o]
    refine (HF.o _).mono ?_
    rintro e w2 ⟨rfl,rfl⟩;have ax:=a1;have Y:=HX;have S:=HZ;have ay:=a2;obtain ⟨⟨M,L,J,I,H⟩,f⟩:=Y.o;have t:=f 1;have r:=f 2;have n:=f 3;obtain ⟨⟨G,F,E,z3,D⟩,c⟩:=S.o;have m:=c 0;have l:=c 1;have k:=c 2;have j:=c 3;have g:=c 4;clear HF HW f c
    go_wp2_with fail
    refine (K1.o _ ax.o).mono ?_
    rintro e w3 ⟨y,rfl,hr⟩;have R:=Hm (QB Y.o y (by omega));have O:=Hm (QB S.o y (by omega));have au:=Hm (Qa ay.o y);have aq:=Hm hr;clear M L J I H t r n G F E z3 D m l k j g;obtain ⟨⟨M,L,J,I,H⟩,f⟩:=R.o;have t:=f 1;have r:=f 2;have n:=f 3;obtain ⟨⟨G,F,E,z3,D⟩,c⟩:=O.o;have m:=c 0;have l:=c 1;have k:=c 2;have j:=c 3;have g:=c 4;clear y hr f c;have ai:=Hm (Om (v:=.int .i64 v1) R.o);have ah:=Hm (Xd (X:=w.heap.size+1) (i:=1) (v:=.int .i64 v1) O.o (by omega));have aj:=Hm (J3 au.o (show w.heap.size<=w.heap.size+1 by omega) 1 (.int .i64 v1));have ac:=Hm (aq.o.far (show s<w.heap.size+1 by omega) C.o 1 (.int .i64 v1))
    go_wp2_with fail
    refine (K2.o _ ac.o).mono ?_
    rintro e w4 ⟨y,rfl,hr⟩;have ab:=Hm (QB ai.o y (by omega));have aa:=Hm (QB ah.o y (by omega));have ar:=Hm (Qa aj.o y);have ap:=Hm hr;clear M L J I H t r n G F E z3 D m l k j g;obtain ⟨⟨M,L,J,I,H⟩,f⟩:=ab.o;have t:=f 1;have r:=f 2;have n:=f 3;obtain ⟨⟨G,F,E,z3,D⟩,c⟩:=aa.o;have m:=c 0;have l:=c 1;have k:=c 2;have j:=c 3;have g:=c 4;clear y hr f c
    first|(replace d:=d;have aw:=ab)|(have aw:=Hm (c5_set2 (v:=.int .i64 v2) ab.o))
    first|(replace d:=d;have av:=aa)|(have av:=Hm (Xd (X:=w.heap.size+1) (i:=2) (v:=.int .i64 v2) aa.o (by omega)))
    first|(replace d:=d;have B:=ar)|(have B:=Hm (J3 ar.o (show w.heap.size<=w.heap.size+1 by omega) 2 (.int .i64 v2)))
    first|(replace d:=d;have A:=ap)|(have A:=Hm (ap.o.far (show s<w.heap.size+1 by omega) C.o 2 (.int .i64 v2)))
    go_wp2_with fail
    first
    | (replace d:=d
       exact bodyPost_ret (v:=inV (⟨z,v1,0,0,[]⟩:In) none 0) (by simp [results,Tryz.results278,go_sem,M,L,J,I,H,G,F,E,z3,D]) rfl (by
        obtain ⟨t1,t2⟩:=JZ A.o B.o ak U.o
        exact ⟨t1,_,_,_,rfl,rfl,World.ownsRow_nil _ _ _ _,t2⟩))
    | (replace t1:=t1
       exact bodyPost_ret (v:=inV (⟨z,v1,v2,0,[]⟩:In) none 0) (by simp [results,Tryz.results278,go_sem,M,L,J,I,H,G,F,E,z3,D]) rfl (by
        obtain ⟨t1,t2⟩:=JZ A.o B.o ak U.o
        exact ⟨t1,_,_,_,rfl,rfl,World.ownsRow_nil _ _ _ _,t2⟩))
def sinr_4:=sinr_z.1
def sinr_5:=sinr_z.2
end Go.Proofs.YtedcmcdbejjgcaaGreat.Ms
namespace Go.Proofs.YtedcmcdbejjgcaaGreat.Ms
open Go.RowKit Go.Sort
theorem sinr_x:(∀ (s:Nat) (r:Option Addr) (bc:Bd) (bs:List Int) (p:Nat) (d B:Int) (w:World) (hf:QM (Qr d)=2) (h:Sr w s r bc bs p 0 0) (hA:Qm bs) (hl:bs.length<=1099511627776),Calls Tryz.prog 278 #[.pointer (some ⟨s,0,none⟩),.int .i64 d,.int .i64 B] w (SiP (JQ 2 d bs p) w s r bc bs))/\(∀ (s:Nat) (r:Option Addr) (bc:Bd) (bs:List Int) (p:Nat) (d B:Int) (w:World) (hf:QM (Qr d)=6) (h:Sr w s r bc bs p 0 0) (hA:Qm bs) (hl:bs.length<=1099511627776),Calls Tryz.prog 278 #[.pointer (some ⟨s,0,none⟩),.int .i64 d,.int .i64 B] w (SiP (JQ 6 d bs p) w s r bc bs))/\(∀ (s:Nat) (r:Option Addr) (bc:Bd) (bs:List Int) (p:Nat) (d B:Int) (w:World) (hf:QM (Qr d)=9) (h:Sr w s r bc bs p 0 0) (hA:Qm bs) (hl:bs.length<=1099511627776),Calls Tryz.prog 278 #[.pointer (some ⟨s,0,none⟩),.int .i64 d,.int .i64 B] w (SiP (JQ 9 d bs p) w s r bc bs))/\(∀ (s:Nat) (r:Option Addr) (bc:Bd) (bs:List Int) (p:Nat) (d B:Int) (w:World) (hf:QM (Qr d)=10) (h:Sr w s r bc bs p 0 0) (hA:Qm bs) (hl:bs.length<=1099511627776),Calls Tryz.prog 278 #[.pointer (some ⟨s,0,none⟩),.int .i64 d,.int .i64 B] w (SiP (JQ 10 d bs p) w s r bc bs)):=by
 refine ⟨?c0,?c1,?c2,?c3⟩
 case' c0=>have f:=0
 case' c1=>have c:=0
 case' c2=>have g:=0
 case' c3=>have t3:=0
 all_goals
  intro s r bc bs p d B w hf h hA hl
  have HF:=Hm (X7 d);rw [hf] at HF;obtain ⟨W,hW,hz,hx,hb⟩:=XW w d;have A:s<w.heap.size:=h.lt;have m:Hid (∀ b o,bc.ea=some ⟨b,o,none⟩->b≠w.heap.size):=λb o e=>by have:=h.el b o e;omega
  have E:Hid (∀ b o,bc.ea=some ⟨b,o,none⟩->b≠w.heap.size+1):=λb o e=>by have:=h.el b o e;omega
  have HW:=Hm hW;have HZ:=Hm hz;have HX:=Hm hx;have av:=Hm (h.keep hb);have aw:=Hm (show w.grownBy W (some s) from Qi hb);clear hf hW hz hx hb h
  first|(replace f:=f;show Calls _ _ _ _ (SiP ((Qy false 32 bs p).bind λv1 p1=>.ok ⟨d,v1,0,0,[]⟩ p1) _ _ _ _ _))|(replace c:=c;show Calls _ _ _ _ (SiP ((Xp bs p).bind λv1 p1=>.ok ⟨d,0,0,0,[]⟩ p1) _ _ _ _ _))|(replace g:=g;show Calls _ _ _ _ (SiP ((XC bs p 4).bind λv1 p1=>.ok ⟨d,0,0,v1,[]⟩ p1) _ _ _ _ _))|(show Calls _ _ _ _ (SiP ((XC bs p 8).bind λv1 p1=>.ok ⟨d,0,0,v1,[]⟩ p1) _ _ _ _ _))
  first|(replace f:=f;have K1:=Hm (λV (hV:Sr V s r bc bs p 0 0)=>u32_sc s r bc bs p V hV hA hl))|(replace c:=c;have K1:=Hm (λV (hV:Sr V s r bc bs p 0 0)=>one0_sc s r bc bs p V hV hA hl))|(replace g:=g;have K1:=Hm (λV (hV:Sr V s r bc bs p 0 0)=>fix_sc s r bc bs p 4 V hV hA hl (by omega)))|(have K1:=Hm (λV (hV:Sr V s r bc bs p 0 0)=>fix_sc s r bc bs p 8 V hV hA hl (by omega)))
  first|(replace f:=f;have n:(Qy false 32 bs p).nz:=Q9 _ _ _ _)|(replace c:=c;have n:(Xp bs p).nz:=nz_mark _ _)|(replace g:=g;have n:(XC bs p 4).nz:=nz_fix _ _ _)|(have n:(XC bs p 8).nz:=nz_fix _ _ _)
  first|(replace f:=f;generalize Qy false 32 bs p=M1 at *)|(replace c:=c;generalize Xp bs p=M1 at *)|(replace g:=g;generalize XC bs p 4=M1 at *)|(generalize XC bs p 8=M1 at *)
  cases M1 with
  |bad er a =>
   have ai:=n er a rfl;clear n
   go_enter Tryz.func278,Tryz.ntmps278
   go_wp2_with fail
   rw [<- HW.o]
   refine (HF.o _).mono ?_
   rintro e w2 ⟨rfl,rfl⟩;have ao:=av;have ah:=HX;have af:=HZ;have ap:=aw;obtain ⟨⟨R,O,M,L,J⟩,t⟩:=ah.o;have ad:=t 1;have ac:=t 2;have ab:=t 3;obtain ⟨⟨I,H,G,z3,F⟩,j⟩:=af.o;have aa:=j 0;have Z:=j 1;have Y:=j 2;have U:=j 3;have S:=j 4;clear HF HW t j
   go_wp2_with fail
   refine (K1.o _ ao.o).mono ?_
   rintro e w3 ⟨hg,u,q,rfl,⟨v0,rfl⟩,hr⟩;have z:=Hm (QB ah.o hg (by omega));have y:=Hm (QB af.o hg (by omega));have D:=Hm (Qa ap.o hg);have C:=Hm hr;clear R O M L J ad ac ab I H G z3 F aa Z Y U S;obtain ⟨⟨R,O,M,L,J⟩,t⟩:=z.o;have ad:=t 1;have ac:=t 2;have ab:=t 3;obtain ⟨⟨I,H,G,z3,F⟩,j⟩:=y.o;have aa:=j 0;have Z:=j 1;have Y:=j 2;have U:=j 3;have S:=j 4;clear hg hr t j
   first|(replace f:=f;have ag:=Hm (Om (v:=.int .i64 v0) z.o))|(replace c:=c;have ag:=z)|(have ag:=Hm (c5_set3 (v:=.int .u64 v0) z.o))
   first|(replace f:=f;have ae:=Hm (Xd (X:=w.heap.size+1) (i:=1) (v:=.int .i64 v0) y.o (by omega)))|(replace c:=c;have ae:=y)|(have ae:=Hm (Xd (X:=w.heap.size+1) (i:=3) (v:=.int .u64 v0) y.o (by omega)))
   first|(replace f:=f;have l:=Hm (J3 D.o (show w.heap.size<=w.heap.size+1 by omega) 1 (.int .i64 v0)))|(replace c:=c;have l:=D)|(have l:=Hm (J3 D.o (show w.heap.size<=w.heap.size+1 by omega) 3 (.int .u64 v0)))
   first|(replace f:=f;have k:=Hm (C.o.far (show s<w.heap.size+1 by omega) E.o 1 (.int .i64 v0)))|(replace c:=c;have k:=C)|(have k:=Hm (C.o.far (show s<w.heap.size+1 by omega) E.o 3 (.int .u64 v0)))
   go_wp2_with fail
   first
   | (replace f:=f
      exact bodyPost_ret (v:=inV (⟨d,v0,0,0,[]⟩:In) none 0) (by simp [results,Tryz.results278,go_sem,R,O,M,L,J,I,H,G,z3,F]) rfl (by
       obtain ⟨c,g⟩:=JZ k.o l.o A m.o
       exact ⟨c,_,_,_,rfl,ai,_,g⟩))
   | (replace c:=c
      exact bodyPost_ret (v:=inV (⟨d,0,0,0,[]⟩:In) none 0) (by simp [results,Tryz.results278,go_sem,R,O,M,L,J,I,H,G,z3,F]) rfl (by
       obtain ⟨c,g⟩:=JZ k.o l.o A m.o
       exact ⟨c,_,_,_,rfl,ai,_,g⟩))
   | (replace g:=g
      exact bodyPost_ret (v:=inV (⟨d,0,0,v0,[]⟩:In) none 0) (by simp [results,Tryz.results278,go_sem,R,O,M,L,J,I,H,G,z3,F]) rfl (by
       obtain ⟨c,g⟩:=JZ k.o l.o A m.o
       exact ⟨c,_,_,_,rfl,ai,_,g⟩))
   | (replace t3:=t3
      exact bodyPost_ret (v:=inV (⟨d,0,0,v0,[]⟩:In) none 0) (by simp [results,Tryz.results278,go_sem,R,O,M,L,J,I,H,G,z3,F]) rfl (by
       obtain ⟨c,g⟩:=JZ k.o l.o A m.o
       exact ⟨c,_,_,_,rfl,ai,_,g⟩))
  |ok v1 p1 =>
   first|(replace f:=f;show Calls _ _ _ _ (SiP (.ok ⟨d,v1,0,0,[]⟩ p1) _ _ _ _ _))|(replace c:=c;show Calls _ _ _ _ (SiP (.ok ⟨d,0,0,0,[]⟩ p1) _ _ _ _ _))|(show Calls _ _ _ _ (SiP (.ok ⟨d,0,0,v1,[]⟩ p1) _ _ _ _ _))
   clear n
   go_enter Tryz.func278,Tryz.ntmps278
   go_wp2_with fail
   rw [<- HW.o]
   refine (HF.o _).mono ?_
   rintro e w2 ⟨rfl,rfl⟩;have ao:=av;have ah:=HX;have af:=HZ;have ap:=aw;obtain ⟨⟨R,O,M,L,J⟩,t⟩:=ah.o;have ad:=t 1;have ac:=t 2;have ab:=t 3;obtain ⟨⟨I,H,G,z3,F⟩,j⟩:=af.o;have aa:=j 0;have Z:=j 1;have Y:=j 2;have U:=j 3;have S:=j 4;clear HF HW t j
   go_wp2_with fail
   refine (K1.o _ ao.o).mono ?_
   rintro e w3 ⟨hg,rfl,hr⟩;have z:=Hm (QB ah.o hg (by omega));have y:=Hm (QB af.o hg (by omega));have D:=Hm (Qa ap.o hg);have C:=Hm hr;clear R O M L J ad ac ab I H G z3 F aa Z Y U S;obtain ⟨⟨R,O,M,L,J⟩,t⟩:=z.o;have ad:=t 1;have ac:=t 2;have ab:=t 3;obtain ⟨⟨I,H,G,z3,F⟩,j⟩:=y.o;have aa:=j 0;have Z:=j 1;have Y:=j 2;have U:=j 3;have S:=j 4;clear hg hr t j
   first|(replace f:=f;have ag:=Hm (Om (v:=.int .i64 v1) z.o))|(replace c:=c;have ag:=z)|(have ag:=Hm (c5_set3 (v:=.int .u64 v1) z.o))
   first|(replace f:=f;have ae:=Hm (Xd (X:=w.heap.size+1) (i:=1) (v:=.int .i64 v1) y.o (by omega)))|(replace c:=c;have ae:=y)|(have ae:=Hm (Xd (X:=w.heap.size+1) (i:=3) (v:=.int .u64 v1) y.o (by omega)))
   first|(replace f:=f;have l:=Hm (J3 D.o (show w.heap.size<=w.heap.size+1 by omega) 1 (.int .i64 v1)))|(replace c:=c;have l:=D)|(have l:=Hm (J3 D.o (show w.heap.size<=w.heap.size+1 by omega) 3 (.int .u64 v1)))
   first|(replace f:=f;have k:=Hm (C.o.far (show s<w.heap.size+1 by omega) E.o 1 (.int .i64 v1)))|(replace c:=c;have k:=C)|(have k:=Hm (C.o.far (show s<w.heap.size+1 by omega) E.o 3 (.int .u64 v1)))
   go_wp2_with fail
   first
   | (replace f:=f
      exact bodyPost_ret (v:=inV (⟨d,v1,0,0,[]⟩:In) none 0) (by simp [results,Tryz.results278,go_sem,R,O,M,L,J,I,H,G,z3,F]) rfl (by
       obtain ⟨c,g⟩:=JZ k.o l.o A m.o
       exact ⟨c,_,_,_,rfl,rfl,World.ownsRow_nil _ _ _ _,g⟩))
   | (replace c:=c
      exact bodyPost_ret (v:=inV (⟨d,0,0,0,[]⟩:In) none 0) (by simp [results,Tryz.results278,go_sem,R,O,M,L,J,I,H,G,z3,F]) rfl (by
       obtain ⟨c,g⟩:=JZ k.o l.o A m.o
       exact ⟨c,_,_,_,rfl,rfl,World.ownsRow_nil _ _ _ _,g⟩))
   | (replace g:=g
      exact bodyPost_ret (v:=inV (⟨d,0,0,v1,[]⟩:In) none 0) (by simp [results,Tryz.results278,go_sem,R,O,M,L,J,I,H,G,z3,F]) rfl (by
       obtain ⟨c,g⟩:=JZ k.o l.o A m.o
       exact ⟨c,_,_,_,rfl,rfl,World.ownsRow_nil _ _ _ _,g⟩))
   | (replace t3:=t3
      exact bodyPost_ret (v:=inV (⟨d,0,0,v1,[]⟩:In) none 0) (by simp [results,Tryz.results278,go_sem,R,O,M,L,J,I,H,G,z3,F]) rfl (by
       obtain ⟨c,g⟩:=JZ k.o l.o A m.o
       exact ⟨c,_,_,_,rfl,rfl,World.ownsRow_nil _ _ _ _,g⟩))
def sinr_2:=sinr_x.1
def sinr_6:=sinr_x.2.1
def sinr_9:=sinr_x.2.2.1
def sinr_10:=sinr_x.2.2.2
end Go.Proofs.YtedcmcdbejjgcaaGreat.Ms
