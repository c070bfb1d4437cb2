import Derived.Test.YtedcmcdbejjgcaaGreatGaa
import Derived.Test.YtedcmcdbejjgcaaGreatGay
set_option linter.all false
set_option maxHeartbeats 400000000
set_option maxRecDepth 100000
namespace Go.Proofs.YtedcmcdbejjgcaaGreat.Ms
open Go.RowKit Go.Sort
theorem sinr_0 (s ba bc bs p)(a k:Int)(w)(A:QM (Qr a)=0)(h:Sr w s ba bc bs p 0 0)(hA:Qm bs)(hl:bs.length<=1099511627776) :
    Calls Tryz.prog 278 #[.pointer (some ⟨s,0,none⟩),.int .i64 a,.int .i64 k] w (SiP (JQ 0 a bs p) w s ba bc bs):=by
 have u:=Hm (X7 a);rw [A] at u;obtain ⟨W,B,y,z,j⟩:=XW w a;have g:s<w.heap.size:=h.lt;have d:Hid (∀ b o,bc.ea=some ⟨b,o,none⟩->b≠w.heap.size):=λb o e=>by have:=h.el b o e;omega
 have C:Hid (∀ b o,bc.ea=some ⟨b,o,none⟩->b≠w.heap.size+1):=λb o e=>by have:=h.el b o e;omega
 have D:=Hm B;have HZ:=Hm y;have HX:=Hm z;have n:=Hm (h.keep j);have r:=Hm (show w.grownBy W (some s) from Qi j);clear A B y z j h
 show Calls _ _ _ _ (SiP (.ok ⟨a,0,0,0,[]⟩ p) _ _ _ _ _)
 go_enter Tryz.func278,Tryz.ntmps278
 go_wp2_with fail
 rw [<- D.o]
 refine (u.o _).mono ?_
 rintro e w2 ⟨rfl,rfl⟩;have q:=n;have m:=HX;have l:=HZ;have t:=r;obtain ⟨⟨y0,Z,Y,X,V⟩,f⟩:=m.o;have U:=f 1;have S:=f 2;have R:=f 3;obtain ⟨⟨O,M,L,z3,J⟩,c⟩:=l.o;have I:=c 0;have H:=c 1;have G:=c 2;have F:=c 3;have E:=c 4;clear u D f c
 go_wp2_with fail
 exact bodyPost_ret (v:=inV (⟨a,0,0,0,[]⟩:In) none 0) (by simp [results,Tryz.results278,go_sem,y0,Z,Y,X,V,O,M,L,z3,J]) rfl (by
  obtain ⟨t1,t2⟩:=JZ q.o t.o g d.o
  exact ⟨t1,_,_,_,rfl,rfl,World.ownsRow_nil _ _ _ _,t2⟩)
end Go.Proofs.YtedcmcdbejjgcaaGreat.Ms
namespace Go.Proofs.YtedcmcdbejjgcaaGreat.Ms
open Go.RowKit Go.Sort
theorem sinr_7 (s ba bc bs p)(E ay:Int)(w)(hf:QM (Qr E)=7)(h:Sr w s ba bc bs p 0 0)(hA:Qm bs)(hl:bs.length<=1099511627776) :
    Calls Tryz.prog 278 #[.pointer (some ⟨s,0,none⟩),.int .i64 E,.int .i64 ay] w (SiP (JQ 7 E bs p) w s ba bc bs):=by
 have HF:=Hm (X7 E);rw [hf] at HF;obtain ⟨W,hW,hz,hx,hb⟩:=XW w E;have af:s<w.heap.size:=h.lt;have H:Hid (∀ b o,bc.ea=some ⟨b,o,none⟩->b≠w.heap.size):=λb o e=>by have:=h.el b o e;omega
 have G:Hid (∀ b o,bc.ea=some ⟨b,o,none⟩->b≠w.heap.size+1):=λb o e=>by have:=h.el b o e;omega
 have HW:=Hm hW;have HZ:=Hm hz;have HX:=Hm hx;have ah:=Hm (h.keep hb);have ai:=Hm (show w.grownBy W (some s) from Qi hb);clear hf hW hz hx hb h
 show Calls _ _ _ _ (SiP ((Qy true 32 bs p).bind λv1 p1=>.ok ⟨E,0,0,v1%4294967296,[]⟩ p1) _ _ _ _ _)
 have K1:=Hm (λV (hV:Sr V s ba bc bs p 0 0)=>lebS_sc s ba bc bs p V hV hA hl);have t:(Qy true 32 bs p).nz:=Q9 _ _ _ _;have y:=λv p1=>num_bd (s:=true) (B:=32) (bs:=bs) (p:=p) (p1:=p1) (v:=v);generalize Qy true 32 bs p=M1 at *
 cases M1 with
 |bad er a =>
  have aw:=t er a rfl;clear t;clear y
  go_enter Tryz.func278,Tryz.ntmps278
  go_wp2_with fail
  rw [<- HW.o]
  refine (HF.o _).mono ?_
  rintro e w2 ⟨rfl,rfl⟩;have ac:=ah;have D:=HX;have C:=HZ;have ae:=ai;obtain ⟨⟨Y,U,S,R,O⟩,d⟩:=D.o;have r:=d 1;have n:=d 2;have m:=d 3;obtain ⟨⟨M,L,J,z3,I⟩,c⟩:=C.o;have l:=c 0;have k:=c 1;have j:=c 2;have g:=c 3;have f:=c 4;clear HF HW d c
  go_wp2_with fail
  refine (K1.o _ ac.o).mono ?_
  rintro e w3 ⟨F,u,q,rfl,⟨v0,rfl,av,au⟩,hr⟩;have A:=Hm (QB D.o F (by omega));have z:=Hm (QB C.o F (by omega));have aa:=Hm (Qa ae.o F);have Z:=Hm hr;clear Y U S R O r n m M L J z3 I l k j g f;obtain ⟨⟨Y,U,S,R,O⟩,d⟩:=A.o;have r:=d 1;have n:=d 2;have m:=d 3;obtain ⟨⟨M,L,J,z3,I⟩,c⟩:=z.o;have l:=c 0;have k:=c 1;have j:=c 2;have g:=c 3;have f:=c 4;clear F hr d c;have KL:=Hm (λV=>slow32 v0 V av au)
  go_wp2_with fail
  refine (KL.o _).mono ?_
  rintro e w9 ⟨rfl,rfl⟩;have a1:=Hm (c5_set3 (v:=.int .u64 (v0%4294967296)) A.o);have a0:=Hm (Xd (X:=w.heap.size+1) (i:=3) (v:=.int .u64 (v0%4294967296)) z.o (by omega));have ad:=Hm (J3 aa.o (show w.heap.size<=w.heap.size+1 by omega) 3 (.int .u64 (v0%4294967296)));have ab:=Hm (Z.o.far (show s<w.heap.size+1 by omega) G.o 3 (.int .u64 (v0%4294967296)))
  go_wp2_with fail
  exact bodyPost_ret (v:=inV (⟨E,0,0,v0%4294967296,[]⟩:In) none 0) (by simp [results,Tryz.results278,go_sem,Y,U,S,R,O,M,L,J,z3,I]) rfl (by
   obtain ⟨t1,t2⟩:=JZ ab.o ad.o af H.o
   exact ⟨t1,_,_,_,rfl,aw,_,t2⟩)
 |ok v1 p1 =>
  show Calls _ _ _ _ (SiP (.ok ⟨E,0,0,v1%4294967296,[]⟩ p1) _ _ _ _ _)
  clear t;obtain ⟨ar,aq⟩:=y v1 p1 rfl;clear y
  go_enter Tryz.func278,Tryz.ntmps278
  go_wp2_with fail
  rw [<- HW.o]
  refine (HF.o _).mono ?_
  rintro e w2 ⟨rfl,rfl⟩;have ac:=ah;have D:=HX;have C:=HZ;have ae:=ai;obtain ⟨⟨Y,U,S,R,O⟩,d⟩:=D.o;have r:=d 1;have n:=d 2;have m:=d 3;obtain ⟨⟨M,L,J,z3,I⟩,c⟩:=C.o;have l:=c 0;have k:=c 1;have j:=c 2;have g:=c 3;have f:=c 4;clear HF HW d c
  go_wp2_with fail
  refine (K1.o _ ac.o).mono ?_
  rintro e w3 ⟨F,rfl,hr⟩;have A:=Hm (QB D.o F (by omega));have z:=Hm (QB C.o F (by omega));have aa:=Hm (Qa ae.o F);have Z:=Hm hr;clear Y U S R O r n m M L J z3 I l k j g f;obtain ⟨⟨Y,U,S,R,O⟩,d⟩:=A.o;have r:=d 1;have n:=d 2;have m:=d 3;obtain ⟨⟨M,L,J,z3,I⟩,c⟩:=z.o;have l:=c 0;have k:=c 1;have j:=c 2;have g:=c 3;have f:=c 4;clear F hr d c;have KL:=Hm (λV=>slow32 v1 V ar aq)
  go_wp2_with fail
  refine (KL.o _).mono ?_
  rintro e w9 ⟨rfl,rfl⟩;have a1:=Hm (c5_set3 (v:=.int .u64 (v1%4294967296)) A.o);have a0:=Hm (Xd (X:=w.heap.size+1) (i:=3) (v:=.int .u64 (v1%4294967296)) z.o (by omega));have ad:=Hm (J3 aa.o (show w.heap.size<=w.heap.size+1 by omega) 3 (.int .u64 (v1%4294967296)));have ab:=Hm (Z.o.far (show s<w.heap.size+1 by omega) G.o 3 (.int .u64 (v1%4294967296)))
  go_wp2_with fail
  exact bodyPost_ret (v:=inV (⟨E,0,0,v1%4294967296,[]⟩:In) none 0) (by simp [results,Tryz.results278,go_sem,Y,U,S,R,O,M,L,J,z3,I]) rfl (by
   obtain ⟨t1,t2⟩:=JZ ab.o ad.o af H.o
   exact ⟨t1,_,_,_,rfl,rfl,World.ownsRow_nil _ _ _ _,t2⟩)
theorem sinr_8 (s ba bc bs p)(E au:Int)(w)(hf:QM (Qr E)=8)(h:Sr w s ba bc bs p 0 0)(hA:Qm bs)(hl:bs.length<=1099511627776) :
    Calls Tryz.prog 278 #[.pointer (some ⟨s,0,none⟩),.int .i64 E,.int .i64 au] w (SiP (JQ 8 E bs p) w s ba bc bs):=by
 have HF:=Hm (X7 E);rw [hf] at HF;obtain ⟨W,hW,hz,hx,hb⟩:=XW w E;have af:s<w.heap.size:=h.lt;have H:Hid (∀ b o,bc.ea=some ⟨b,o,none⟩->b≠w.heap.size):=λb o e=>by have:=h.el b o e;omega
 have G:Hid (∀ b o,bc.ea=some ⟨b,o,none⟩->b≠w.heap.size+1):=λb o e=>by have:=h.el b o e;omega
 have HW:=Hm hW;have HZ:=Hm hz;have HX:=Hm hx;have ah:=Hm (h.keep hb);have ai:=Hm (show w.grownBy W (some s) from Qi hb);clear hf hW hz hx hb h
 show Calls _ _ _ _ (SiP ((Qy true 64 bs p).bind λv1 p1=>.ok ⟨E,0,0,v1,[]⟩ p1) _ _ _ _ _)
 have K1:=Hm (λV (hV:Sr V s ba bc bs p 0 0)=>lebL_sc s ba bc bs p V hV hA hl);have t:(Qy true 64 bs p).nz:=Q9 _ _ _ _;have y:=λv p1=>num_bd (s:=true) (B:=64) (bs:=bs) (p:=p) (p1:=p1) (v:=v);generalize Qy true 64 bs p=M1 at *
 cases M1 with
 |bad er a =>
  have aq:=t er a rfl;clear t;clear y
  go_enter Tryz.func278,Tryz.ntmps278
  go_wp2_with fail
  rw [<- HW.o]
  refine (HF.o _).mono ?_
  rintro e w2 ⟨rfl,rfl⟩;have ac:=ah;have D:=HX;have C:=HZ;have ae:=ai;obtain ⟨⟨Y,U,S,R,O⟩,d⟩:=D.o;have r:=d 1;have n:=d 2;have m:=d 3;obtain ⟨⟨M,L,J,z3,I⟩,c⟩:=C.o;have l:=c 0;have k:=c 1;have j:=c 2;have g:=c 3;have f:=c 4;clear HF HW d c
  go_wp2_with fail
  refine (K1.o _ ac.o).mono ?_
  rintro e w3 ⟨F,u,q,rfl,⟨v0,rfl,a9,a8⟩,hr⟩;have A:=Hm (QB D.o F (by omega));have z:=Hm (QB C.o F (by omega));have aa:=Hm (Qa ae.o F);have Z:=Hm hr;clear Y U S R O r n m M L J z3 I l k j g f;obtain ⟨⟨Y,U,S,R,O⟩,d⟩:=A.o;have r:=d 1;have n:=d 2;have m:=d 3;obtain ⟨⟨M,L,J,z3,I⟩,c⟩:=z.o;have l:=c 0;have k:=c 1;have j:=c 2;have g:=c 3;have f:=c 4;clear F hr d c;have aw:=Hm (c5_set3 (v:=.int .u64 v0) A.o);have av:=Hm (Xd (X:=w.heap.size+1) (i:=3) (v:=.int .u64 v0) z.o (by omega));have ad:=Hm (J3 aa.o (show w.heap.size<=w.heap.size+1 by omega) 3 (.int .u64 v0));have ab:=Hm (Z.o.far (show s<w.heap.size+1 by omega) G.o 3 (.int .u64 v0))
  go_wp2_with fail
  exact bodyPost_ret (v:=inV (⟨E,0,0,v0,[]⟩:In) none 0) (by simp [results,Tryz.results278,go_sem,Y,U,S,R,O,M,L,J,z3,I]) rfl (by
   obtain ⟨t1,t2⟩:=JZ ab.o ad.o af H.o
   exact ⟨t1,_,_,_,rfl,aq,_,t2⟩)
 |ok v1 p1 =>
  show Calls _ _ _ _ (SiP (.ok ⟨E,0,0,v1,[]⟩ p1) _ _ _ _ _)
  clear t;obtain ⟨a7,a6⟩:=y v1 p1 rfl;clear y
  go_enter Tryz.func278,Tryz.ntmps278
  go_wp2_with fail
  rw [<- HW.o]
  refine (HF.o _).mono ?_
  rintro e w2 ⟨rfl,rfl⟩;have ac:=ah;have D:=HX;have C:=HZ;have ae:=ai;obtain ⟨⟨Y,U,S,R,O⟩,d⟩:=D.o;have r:=d 1;have n:=d 2;have m:=d 3;obtain ⟨⟨M,L,J,z3,I⟩,c⟩:=C.o;have l:=c 0;have k:=c 1;have j:=c 2;have g:=c 3;have f:=c 4;clear HF HW d c
  go_wp2_with fail
  refine (K1.o _ ac.o).mono ?_
  rintro e w3 ⟨F,rfl,hr⟩;have A:=Hm (QB D.o F (by omega));have z:=Hm (QB C.o F (by omega));have aa:=Hm (Qa ae.o F);have Z:=Hm hr;clear Y U S R O r n m M L J z3 I l k j g f;obtain ⟨⟨Y,U,S,R,O⟩,d⟩:=A.o;have r:=d 1;have n:=d 2;have m:=d 3;obtain ⟨⟨M,L,J,z3,I⟩,c⟩:=z.o;have l:=c 0;have k:=c 1;have j:=c 2;have g:=c 3;have f:=c 4;clear F hr d c;have aw:=Hm (c5_set3 (v:=.int .u64 v1) A.o);have av:=Hm (Xd (X:=w.heap.size+1) (i:=3) (v:=.int .u64 v1) z.o (by omega));have ad:=Hm (J3 aa.o (show w.heap.size<=w.heap.size+1 by omega) 3 (.int .u64 v1));have ab:=Hm (Z.o.far (show s<w.heap.size+1 by omega) G.o 3 (.int .u64 v1))
  go_wp2_with fail
  exact bodyPost_ret (v:=inV (⟨E,0,0,v1,[]⟩:In) none 0) (by simp [results,Tryz.results278,go_sem,Y,U,S,R,O,M,L,J,z3,I]) rfl (by
   obtain ⟨t1,t2⟩:=JZ ab.o ad.o af H.o
   exact ⟨t1,_,_,_,rfl,rfl,World.ownsRow_nil _ _ _ _,t2⟩)
end Go.Proofs.YtedcmcdbejjgcaaGreat.Ms
namespace Go.Proofs.YtedcmcdbejjgcaaGreat.Ms
open Go.RowKit Go.Sort
theorem sinse_x:(∀ (s:Nat) (j:Option Addr) (bc:Bd) (bs:List Int) (p:Nat) (er a c d:Int) (w:World) (m:QM (Qr c)=0) (f:er≠0) (h:Sr w s j bc bs p er a),Calls Tryz.prog 278 #[.pointer (some ⟨s,0,none⟩),.int .i64 c,.int .i64 d] w (SiP (.bad er a) w s j bc bs))/\(∀ (s:Nat) (j:Option Addr) (bc:Bd) (bs:List Int) (p:Nat) (er a c d:Int) (w:World) (m:QM (Qr c)=-1) (f:er≠0) (h:Sr w s j bc bs p er a),Calls Tryz.prog 278 #[.pointer (some ⟨s,0,none⟩),.int .i64 c,.int .i64 d] w (SiP (.bad er a) w s j bc bs)):=by
 refine ⟨?c0,?c1⟩
 case' c0=>have t0:=0
 case' c1=>have C:=0
 all_goals
  intro s j bc bs p er a c d w m f h
  have B:=Hm (X7 c);rw [m] at B;obtain ⟨W,F,D,E,q⟩:=XW w c;have n:s<w.heap.size:=h.lt;have k:Hid (∀ b o,bc.ea=some ⟨b,o,none⟩->b≠w.heap.size):=λb o e=>by have:=h.el b o e;omega
  have G:Hid (∀ b o,bc.ea=some ⟨b,o,none⟩->b≠w.heap.size+1):=λb o e=>by have:=h.el b o e;omega
  have H:=Hm F;have HZ:=Hm D;have HX:=Hm E;have u:=Hm (h.keep q);have z:=Hm (show w.grownBy W (some s) from Qi q);clear m F D E q h
  go_enter Tryz.func278,Tryz.ntmps278
  go_wp2_with fail
  rw [<- H.o]
  refine (B.o _).mono ?_
  rintro e w2 ⟨rfl,rfl⟩;have y:=u;have t:=HX;have r:=HZ;have A:=z;obtain ⟨⟨y0,y1,y2,y3,y4⟩,l⟩:=t.o;have Z:=l 1;have Y:=l 2;have X:=l 3;obtain ⟨⟨V,U,S,z3,R⟩,g⟩:=r.o;have O:=g 0;have M:=g 1;have L:=g 2;have J:=g 3;have I:=g 4;clear B H l g
  go_wp2_with fail
  exact bodyPost_ret (v:=inV (⟨c,0,0,0,[]⟩:In) none 0) (by simp [results,Tryz.results278,go_sem,y0,y1,y2,y3,y4,V,U,S,z3,R]) rfl (by
   obtain ⟨C,t2⟩:=JZ y.o A.o n k.o
   exact ⟨C,_,_,_,rfl,f,_,t2⟩)
def sinse_0:=sinse_x.1
def sinse_m1:=sinse_x.2
end Go.Proofs.YtedcmcdbejjgcaaGreat.Ms
