import Derived.Test.YtedcmcdbejjgcaaGreatGaa
import Derived.Test.YtedcmcdbejjgcaaGreatGam
set_option linter.all false
set_option maxHeartbeats 400000000
set_option maxRecDepth 100000
namespace Go.Proofs.YtedcmcdbejjgcaaGreat
open Go.RowKit Go.Sort
theorem rins_0 (q ba bc bs p)(b:Int)(w)(y:QM (Qr b)=0)(h:Rd w q ba bc bs p)(hA:Qm bs)(hl:bs.length<=1099511627776) :
    Calls Tryz.prog 321 #[.pointer (some ⟨q,0,none⟩),.int .i64 b] w (RiP (JQ 0 b bs p) w q ba bc bs):=by
 have s:=Hm (GJ b);rw [y] at s;obtain ⟨W,j,t,u,g⟩:=XW w b;have aa:w.heap.size+2=W.heap.size:=by rw [j];simp
 have B:=Hm j;have z:=Hm t;have A:=Hm u;have d:=Hm (h.keep g);have f:=Hm (show w.grownBy W (some q) from Qi g);have LR:=Hm (JB h lR);clear y j t u g h
 show Calls _ _ _ _ (RiP (.ok ⟨b,0,0,0,[]⟩ p) _ _ _ _ _)
 go_enter Tryz.func321,Tryz.ntmps321
 go_wp2_with fail
 rw [<- B.o]
 refine (s.o _).mono ?_
 rintro e w2 ⟨rfl,a⟩;have m:=Hm (d.o.keep a);have l:=Hm (A.o.keep a);have k:=Hm (z.o.keep a);have n:=Hm (Qa f.o (Qi (r:=some q) a));obtain ⟨⟨V,U,S,R,O⟩,M⟩:=l.o;clear a s B d A z f M;obtain ⟨⟨L,J,I,z3,H⟩,c⟩:=k.o;have G:=c 0;have F:=c 1;have E:=c 2;have D:=c 3;have C:=c 4;clear c
 go_wp2_with fail
 exact bodyPost_ret (v:=inV (⟨b,0,0,0,[]⟩:In) none 0) (by simp [results,Tryz.results321,go_sem,V,U,S,R,O,L,J,I,z3,H]) rfl (by
  obtain ⟨Z,Y,X⟩:=Gm (x:=(⟨b,0,0,0,[]⟩:In)) (la:=none) (lc:=0) m.o n.o LR.o (World.ownsRow_nil _ _ _ _) (by simp [Value.ownBlock])
  exact ⟨Z,none,0,rfl,Y,X,(Nat.zero_le _)⟩)
end Go.Proofs.YtedcmcdbejjgcaaGreat
namespace Go.Proofs.YtedcmcdbejjgcaaGreat
open Go.RowKit Go.Sort
end Go.Proofs.YtedcmcdbejjgcaaGreat
namespace Go.Proofs.YtedcmcdbejjgcaaGreat
open Go.RowKit Go.Sort
theorem rins_z:(∀ (q:Nat) (n:Option Addr) (bc:Bf) (bs:List Int) (p:Nat) (b:Int) (w:World) (hf:QM (Qr b)=4) (h:Rd w q n bc bs p) (hA:Qm bs) (hl:bs.length<=1099511627776),Calls Tryz.prog 321 #[.pointer (some ⟨q,0,none⟩),.int .i64 b] w (RiP (JQ 4 b bs p) w q n bc bs))/\(∀ (q:Nat) (n:Option Addr) (bc:Bf) (bs:List Int) (p:Nat) (b:Int) (w:World) (hf:QM (Qr b)=5) (h:Rd w q n bc bs p) (hA:Qm bs) (hl:bs.length<=1099511627776),Calls Tryz.prog 321 #[.pointer (some ⟨q,0,none⟩),.int .i64 b] w (RiP (JQ 5 b bs p) w q n bc bs)):=by
 refine ⟨?c0,?c1⟩
 case' c0=>have f:=0
 case' c1=>have B:=0
 all_goals
  intro q n bc bs p b w hf h hA hl
  have J:=Hm (GJ b);rw [hf] at J;obtain ⟨W,hW,hz,hx,hb⟩:=XW w b;have bt:w.heap.size+2=W.heap.size:=by rw [hW];simp
  have O:=Hm hW;have L:=Hm hz;have M:=Hm hx;have l:=Hm (h.keep hb);have m:=Hm (show w.grownBy W (some q) from Qi hb);have LR:=Hm (JB h lR);have u:=Hm (JB h (show w.heap.size<=w.heap.size+1 by omega));clear hf hW hz hx hb h
  first|(replace f:=f;show Calls _ _ _ _ (RiP ((Qy false 32 bs p).bind λv1 p1=>(Xp bs p1).bind λv2 p2=>.ok ⟨b,v1,0,0,[]⟩ p2) _ _ _ _ _))|(show Calls _ _ _ _ (RiP ((Qy false 32 bs p).bind λv1 p1=>(Qy false 32 bs p1).bind λv2 p2=>.ok ⟨b,v1,v2,0,[]⟩ p2) _ _ _ _ _))
  have K1:=Hm (λV (hV:Rd V q n bc bs p)=>JR q n bc bs p V hV hA hl);generalize Qy false 32 bs p=M1 at *
  cases M1 with
  |bad er at_ =>
   go_enter Tryz.func321,Tryz.ntmps321
   go_wp2_with fail
   rw [<- O.o]
   refine (J.o _).mono ?_
   rintro e w2 ⟨rfl,a⟩;have g:=Hm (l.o.keep a);have c:=Hm (M.o.keep a);have k:=Hm (L.o.keep a);have j:=Hm (Qa m.o (Qi (r:=some q) a));obtain ⟨⟨x0,x1,x2,x3,x4⟩,xf⟩:=c.o;clear a J O l M L m xf
   go_wp2_with fail
   refine (K1.o _ g.o).mono ?_
   rintro e w3 ⟨d,rfl⟩
   exact ⟨rfl,Qa j.o d,rfl⟩
  |ok v1 p1 =>
   first|(replace f:=f;show Calls _ _ _ _ (RiP ((Xp bs p1).bind λv2 p2=>.ok ⟨b,v1,0,0,[]⟩ p2) _ _ _ _ _))|(show Calls _ _ _ _ (RiP ((Qy false 32 bs p1).bind λv2 p2=>.ok ⟨b,v1,v2,0,[]⟩ p2) _ _ _ _ _))
   first|(replace f:=f;have K2:=Hm (λV (hV:Rd V q n bc bs p1)=>mark_rc q n bc bs p1 V hV hA hl))|(have K2:=Hm (λV (hV:Rd V q n bc bs p1)=>JR q n bc bs p1 V hV hA hl))
   first|(replace f:=f;generalize Xp bs p1=M2 at *)|(generalize Qy false 32 bs p1=M2 at *)
   cases M2 with
   |bad er at_ =>
    go_enter Tryz.func321,Tryz.ntmps321
    go_wp2_with fail
    rw [<- O.o]
    refine (J.o _).mono ?_
    rintro e w2 ⟨rfl,a⟩;have g:=Hm (l.o.keep a);have c:=Hm (M.o.keep a);have k:=Hm (L.o.keep a);have j:=Hm (Qa m.o (Qi (r:=some q) a));obtain ⟨⟨x0,x1,x2,x3,x4⟩,xf⟩:=c.o;clear a J O l M L m xf
    go_wp2_with fail
    refine (K1.o _ g.o).mono ?_
    rintro e w3 ⟨d,rfl,C⟩;have s:=Hm (QB c.o d u.o.ne);have a:=Hm (QB k.o d LR.o.ne);have E:=Hm (Qa j.o d);have D:=Hm C;obtain ⟨⟨a0,az,ay,ax,aw⟩,A⟩:=s.o;have aa:=A 1;obtain ⟨⟨av,au,ar,aq,ap⟩,t⟩:=a.o;clear d C A t c k j g K1;have G:=Hm (Om (v:=.int .i64 v1) s.o);have F:=Hm (Xd (X:=w.heap.size+1) (i:=1) (v:=.int .i64 v1) a.o (by omega));have z:=Hm (Jh E.o u.o 1 (.int .i64 v1));have y:=Hm (D.o.far u.o 1 (.int .i64 v1))
    go_wp2_with fail
    refine (K2.o _ y.o).mono ?_
    rintro e w4 ⟨d,rfl⟩
    exact ⟨rfl,Qa z.o d,rfl⟩
   |ok v2 p2 =>
    first|(replace f:=f;show Calls _ _ _ _ (RiP (.ok ⟨b,v1,0,0,[]⟩ p2) _ _ _ _ _))|(show Calls _ _ _ _ (RiP (.ok ⟨b,v1,v2,0,[]⟩ p2) _ _ _ _ _))
    go_enter Tryz.func321,Tryz.ntmps321
    go_wp2_with fail
    rw [<- O.o]
    refine (J.o _).mono ?_
    rintro e w2 ⟨rfl,a⟩;have g:=Hm (l.o.keep a);have c:=Hm (M.o.keep a);have k:=Hm (L.o.keep a);have j:=Hm (Qa m.o (Qi (r:=some q) a));obtain ⟨⟨x0,x1,x2,x3,x4⟩,xf⟩:=c.o;clear a J O l M L m xf
    go_wp2_with fail
    refine (K1.o _ g.o).mono ?_
    rintro e w3 ⟨d,rfl,C⟩;have s:=Hm (QB c.o d u.o.ne);have a:=Hm (QB k.o d LR.o.ne);have E:=Hm (Qa j.o d);have D:=Hm C;obtain ⟨⟨a0,az,ay,ax,aw⟩,A⟩:=s.o;have aa:=A 1;obtain ⟨⟨av,au,ar,aq,ap⟩,t⟩:=a.o;clear d C A t c k j g K1;have G:=Hm (Om (v:=.int .i64 v1) s.o);have F:=Hm (Xd (X:=w.heap.size+1) (i:=1) (v:=.int .i64 v1) a.o (by omega));have z:=Hm (Jh E.o u.o 1 (.int .i64 v1));have y:=Hm (D.o.far u.o 1 (.int .i64 v1))
    go_wp2_with fail
    refine (K2.o _ y.o).mono ?_
    rintro e w4 ⟨d,rfl,C⟩;have a5:=Hm (QB G.o d u.o.ne);have a3:=Hm (QB F.o d LR.o.ne);have ai:=Hm (Qa z.o d);have ah:=Hm C;obtain ⟨⟨af,ae,ad,ac,ab⟩,A⟩:=a5.o
    first
    | (replace B:=B
       have bf:=A 2)
    |skip
    obtain ⟨⟨Z,Y,U,S,R⟩,t⟩:=a3.o;have bd:=t 0;have bb:=t 1;have a9:=t 2;have a8:=t 3;have a7:=t 4;clear d C A t G F z y K2
    first|(replace f:=f;have I:=ai)|(have I:=Hm (Jh ai.o u.o 2 (.int .i64 v2)))
    first|(replace f:=f;have H:=ah)|(have H:=Hm (ah.o.far u.o 2 (.int .i64 v2)))
    go_wp2_with fail
    first
    | (replace f:=f
       exact bodyPost_ret (v:=inV (⟨b,v1,0,0,[]⟩:In) none 0) (by simp [results,Tryz.results321,go_sem,af,ae,ad,ac,ab,Z,Y,U,S,R]) rfl (by
        obtain ⟨B,t2,t3⟩:=Gm (x:=(⟨b,v1,0,0,[]⟩:In)) (la:=none) (lc:=0) H.o I.o LR.o (World.ownsRow_nil _ _ _ _) (by simp [Value.ownBlock])
        exact ⟨B,none,0,rfl,t2,t3,(Nat.zero_le _)⟩))
    | (replace B:=B
       exact bodyPost_ret (v:=inV (⟨b,v1,v2,0,[]⟩:In) none 0) (by simp [results,Tryz.results321,go_sem,af,ae,ad,ac,ab,Z,Y,U,S,R]) rfl (by
        obtain ⟨B,t2,t3⟩:=Gm (x:=(⟨b,v1,v2,0,[]⟩:In)) (la:=none) (lc:=0) H.o I.o LR.o (World.ownsRow_nil _ _ _ _) (by simp [Value.ownBlock])
        exact ⟨B,none,0,rfl,t2,t3,(Nat.zero_le _)⟩))
def rins_4:=rins_z.1
def rins_5:=rins_z.2
end Go.Proofs.YtedcmcdbejjgcaaGreat
namespace Go.Proofs.YtedcmcdbejjgcaaGreat
open Go.RowKit Go.Sort
theorem rins_y:(∀ (q:Nat) (g:Option Addr) (bc:Bf) (bs:List Int) (p:Nat) (b:Int) (w:World) (X:QM (Qr b)=7) (h:Rd w q g bc bs p) (Y:Qm bs) (hl:bs.length<=1099511627776),Calls Tryz.prog 321 #[.pointer (some ⟨q,0,none⟩),.int .i64 b] w (RiP (JQ 7 b bs p) w q g bc bs))/\(∀ (q:Nat) (g:Option Addr) (bc:Bf) (bs:List Int) (p:Nat) (b:Int) (w:World) (X:QM (Qr b)=8) (h:Rd w q g bc bs p) (Y:Qm bs) (hl:bs.length<=1099511627776),Calls Tryz.prog 321 #[.pointer (some ⟨q,0,none⟩),.int .i64 b] w (RiP (JQ 8 b bs p) w q g bc bs)):=by
 refine ⟨?c0,?c1⟩
 case' c0=>have c:=0
 case' c1=>have z:=0
 all_goals
  intro q g bc bs p b w X h Y hl
  have U:=Hm (GJ b);rw [X] at U;obtain ⟨W,hW,hz,hx,hb⟩:=XW w b;have a5:w.heap.size+2=W.heap.size:=by rw [hW];simp
  have HW:=Hm hW;have HZ:=Hm hz;have HX:=Hm hx;have j:=Hm (h.keep hb);have l:=Hm (show w.grownBy W (some q) from Qi hb);have LR:=Hm (JB h lR);have S:=Hm (JB h (show w.heap.size<=w.heap.size+1 by omega));clear X hW hz hx hb h
  first|(replace c:=c;show Calls _ _ _ _ (RiP ((Qy true 32 bs p).bind λv1 p1=>.ok ⟨b,0,0,v1%4294967296,[]⟩ p1) _ _ _ _ _))|(show Calls _ _ _ _ (RiP ((Qy true 64 bs p).bind λv1 p1=>.ok ⟨b,0,0,v1,[]⟩ p1) _ _ _ _ _))
  first|(replace c:=c;have Z:=Hm (λV (hV:Rd V q g bc bs p)=>numS_c q g bc bs p 32 V hV Y hl (by omega) (by omega)))|(have Z:=Hm (λV (hV:Rd V q g bc bs p)=>numS_c q g bc bs p 64 V hV Y hl (by omega) (by omega)))
  first|(replace c:=c;have d:=λv p1=>num_bd (s:=true) (B:=32) (bs:=bs) (p:=p) (p1:=p1) (v:=v))|(have d:=λv p1=>num_bd (s:=true) (B:=64) (bs:=bs) (p:=p) (p1:=p1) (v:=v))
  first|(replace c:=c;generalize Qy true 32 bs p=M1 at *)|(generalize Qy true 64 bs p=M1 at *)
  cases M1 with
  |bad er at_ =>
   clear d
   go_enter Tryz.func321,Tryz.ntmps321
   go_wp2_with fail
   rw [<- HW.o]
   refine (U.o _).mono ?_
   rintro e w2 ⟨rfl,a⟩;have k:=Hm (j.o.keep a);have f:=Hm (HX.o.keep a);have n:=Hm (HZ.o.keep a);have m:=Hm (Qa l.o (Qi (r:=some q) a));obtain ⟨⟨x0,x1,x2,x3,x4⟩,xf⟩:=f.o;clear a U HW j HX HZ l xf
   go_wp2_with fail
   refine (Z.o _ k.o).mono ?_
   rintro e w3 ⟨A,rfl⟩
   exact ⟨rfl,Qa m.o A,rfl⟩
  |ok v1 p1 =>
   first|(replace c:=c;show Calls _ _ _ _ (RiP (.ok ⟨b,0,0,v1%4294967296,[]⟩ p1) _ _ _ _ _))|(show Calls _ _ _ _ (RiP (.ok ⟨b,0,0,v1,[]⟩ p1) _ _ _ _ _))
   obtain ⟨a7,a6⟩:=d v1 p1 rfl;clear d
   go_enter Tryz.func321,Tryz.ntmps321
   go_wp2_with fail
   rw [<- HW.o]
   refine (U.o _).mono ?_
   rintro e w2 ⟨rfl,a⟩;have k:=Hm (j.o.keep a);have f:=Hm (HX.o.keep a);have n:=Hm (HZ.o.keep a);have m:=Hm (Qa l.o (Qi (r:=some q) a));obtain ⟨⟨x0,x1,x2,x3,x4⟩,xf⟩:=f.o;clear a U HW j HX HZ l xf
   go_wp2_with fail
   refine (Z.o _ k.o).mono ?_
   rintro e w3 ⟨A,rfl,hr⟩;have ah:=Hm (QB f.o A S.o.ne);have a:=Hm (QB n.o A LR.o.ne);have R:=Hm (Qa m.o A);have O:=Hm hr;obtain ⟨⟨M,L,J,I,H⟩,yf⟩:=ah.o;have ar:=yf 3;obtain ⟨⟨G,F,E,D,C⟩,y⟩:=a.o;have aq:=y 0;have ap:=y 1;have ao:=y 2;have ak:=y 3;have aj:=y 4;clear A hr yf y f n m k Z
   first|(replace c:=c;have u:=Hm (Jh R.o S.o 3 (.int .u64 (v1%4294967296))))|(have u:=Hm (Jh R.o S.o 3 (.int .u64 v1)))
   first|(replace c:=c;have t:=Hm (O.o.far S.o 3 (.int .u64 (v1%4294967296))))|(have t:=Hm (O.o.far S.o 3 (.int .u64 v1)))
   go_wp2_with fail
   first
   | (replace c:=c
      exact bodyPost_ret (v:=inV (⟨b,0,0,v1%4294967296,[]⟩:In) none 0) (by simp [results,Tryz.results321,go_sem,M,L,J,I,H,G,F,E,D,C]) rfl (by
       obtain ⟨z,t2,t3⟩:=Gm (x:=(⟨b,0,0,v1%4294967296,[]⟩:In)) (la:=none) (lc:=0) t.o u.o LR.o (World.ownsRow_nil _ _ _ _) (by simp [Value.ownBlock])
       exact ⟨z,none,0,rfl,t2,t3,(Nat.zero_le _)⟩))
   | (replace z:=z
      exact bodyPost_ret (v:=inV (⟨b,0,0,v1,[]⟩:In) none 0) (by simp [results,Tryz.results321,go_sem,M,L,J,I,H,G,F,E,D,C]) rfl (by
       obtain ⟨z,t2,t3⟩:=Gm (x:=(⟨b,0,0,v1,[]⟩:In)) (la:=none) (lc:=0) t.o u.o LR.o (World.ownsRow_nil _ _ _ _) (by simp [Value.ownBlock])
       exact ⟨z,none,0,rfl,t2,t3,(Nat.zero_le _)⟩))
def rins_7:=rins_y.1
def rins_8:=rins_y.2
end Go.Proofs.YtedcmcdbejjgcaaGreat
namespace Go.Proofs.YtedcmcdbejjgcaaGreat
open Go.RowKit Go.Sort
theorem rins_x:(∀ (q:Nat) (d:Option Addr) (bc:Bf) (bs:List Int) (p:Nat) (a:Int) (w:World) (M:QM (Qr a)=1) (h:Rd w q d bc bs p) (E:Qm bs) (hl:bs.length<=1099511627776),Calls Tryz.prog 321 #[.pointer (some ⟨q,0,none⟩),.int .i64 a] w (RiP (JQ 1 a bs p) w q d bc bs))/\(∀ (q:Nat) (d:Option Addr) (bc:Bf) (bs:List Int) (p:Nat) (a:Int) (w:World) (M:QM (Qr a)=2) (h:Rd w q d bc bs p) (E:Qm bs) (hl:bs.length<=1099511627776),Calls Tryz.prog 321 #[.pointer (some ⟨q,0,none⟩),.int .i64 a] w (RiP (JQ 2 a bs p) w q d bc bs))/\(∀ (q:Nat) (d:Option Addr) (bc:Bf) (bs:List Int) (p:Nat) (a:Int) (w:World) (M:QM (Qr a)=6) (h:Rd w q d bc bs p) (E:Qm bs) (hl:bs.length<=1099511627776),Calls Tryz.prog 321 #[.pointer (some ⟨q,0,none⟩),.int .i64 a] w (RiP (JQ 6 a bs p) w q d bc bs))/\(∀ (q:Nat) (d:Option Addr) (bc:Bf) (bs:List Int) (p:Nat) (a:Int) (w:World) (M:QM (Qr a)=9) (h:Rd w q d bc bs p) (E:Qm bs) (hl:bs.length<=1099511627776),Calls Tryz.prog 321 #[.pointer (some ⟨q,0,none⟩),.int .i64 a] w (RiP (JQ 9 a bs p) w q d bc bs))/\(∀ (q:Nat) (d:Option Addr) (bc:Bf) (bs:List Int) (p:Nat) (a:Int) (w:World) (M:QM (Qr a)=10) (h:Rd w q d bc bs p) (E:Qm bs) (hl:bs.length<=1099511627776),Calls Tryz.prog 321 #[.pointer (some ⟨q,0,none⟩),.int .i64 a] w (RiP (JQ 10 a bs p) w q d bc bs)):=by
 refine ⟨?c0,?c1,?c2,?c3,?c4⟩
 case' c0=>have l:=0
 case' c1=>have c:=0
 case' c2=>have f:=0
 case' c3=>have g:=0
 case' c4=>have t4:=0
 all_goals
  intro q d bc bs p a w M h E hl
  have HF:=Hm (GJ a);rw [M] at HF;obtain ⟨W,hW,hz,hx,hb⟩:=XW w a;have a4:w.heap.size+2=W.heap.size:=by rw [hW];simp
  have HW:=Hm hW;have HZ:=Hm hz;have HX:=Hm hx;have H:=Hm (h.keep hb);have J:=Hm (show w.grownBy W (some q) from Qi hb);have LR:=Hm (JB h lR);have O:=Hm (JB h (show w.heap.size<=w.heap.size+1 by omega));clear M hW hz hx hb h
  first|(replace l:=l;show Calls _ _ _ _ (RiP ((onlyM bs p).bind λv1 p1=>.ok ⟨a,v1,0,0,[]⟩ p1) _ _ _ _ _))|(replace c:=c;show Calls _ _ _ _ (RiP ((Qy false 32 bs p).bind λv1 p1=>.ok ⟨a,v1,0,0,[]⟩ p1) _ _ _ _ _))|(replace f:=f;show Calls _ _ _ _ (RiP ((Xp bs p).bind λv1 p1=>.ok ⟨a,0,0,0,[]⟩ p1) _ _ _ _ _))|(replace g:=g;show Calls _ _ _ _ (RiP ((XC bs p 4).bind λv1 p1=>.ok ⟨a,0,0,v1,[]⟩ p1) _ _ _ _ _))|(show Calls _ _ _ _ (RiP ((XC bs p 8).bind λv1 p1=>.ok ⟨a,0,0,v1,[]⟩ p1) _ _ _ _ _))
  first|(replace l:=l;have R:=Hm (λV (hV:Rd V q d bc bs p)=>only_c q d bc bs p V hV E hl))|(replace c:=c;have R:=Hm (λV (hV:Rd V q d bc bs p)=>JR q d bc bs p V hV E hl))|(replace f:=f;have R:=Hm (λV (hV:Rd V q d bc bs p)=>mark_rc q d bc bs p V hV E hl))|(replace g:=g;have R:=Hm (λV (hV:Rd V q d bc bs p)=>flt_rc q d bc bs p 4 V hV E hl (by omega)))|(have R:=Hm (λV (hV:Rd V q d bc bs p)=>flt_rc q d bc bs p 8 V hV E hl (by omega)))
  first|(replace l:=l;generalize onlyM bs p=M1 at *)|(replace c:=c;generalize Qy false 32 bs p=M1 at *)|(replace f:=f;generalize Xp bs p=M1 at *)|(replace g:=g;generalize XC bs p 4=M1 at *)|(generalize XC bs p 8=M1 at *)
  cases M1 with
  |bad er at_ =>
   go_enter Tryz.func321,Tryz.ntmps321
   go_wp2_with fail
   rw [<- HW.o]
   refine (HF.o _).mono ?_
   rintro e w2 ⟨rfl,b⟩;have I:=Hm (H.o.keep b);have D:=Hm (HX.o.keep b);have S:=Hm (HZ.o.keep b);have L:=Hm (Qa J.o (Qi (r:=some q) b));obtain ⟨⟨x0,x1,x2,x3,x4⟩,xf⟩:=D.o;clear b HF HW H HX HZ J xf
   go_wp2_with fail
   refine (R.o _ I.o).mono ?_
   rintro e w3 ⟨X,rfl⟩
   exact ⟨rfl,Qa L.o X,rfl⟩
  |ok v1 p1 =>
   first|(replace f:=f;show Calls _ _ _ _ (RiP (.ok ⟨a,0,0,0,[]⟩ p1) _ _ _ _ _))|(replace l:=l;show Calls _ _ _ _ (RiP (.ok ⟨a,v1,0,0,[]⟩ p1) _ _ _ _ _))|(replace c:=c;show Calls _ _ _ _ (RiP (.ok ⟨a,v1,0,0,[]⟩ p1) _ _ _ _ _))|(show Calls _ _ _ _ (RiP (.ok ⟨a,0,0,v1,[]⟩ p1) _ _ _ _ _))
   go_enter Tryz.func321,Tryz.ntmps321
   go_wp2_with fail
   rw [<- HW.o]
   refine (HF.o _).mono ?_
   rintro e w2 ⟨rfl,b⟩;have I:=Hm (H.o.keep b);have D:=Hm (HX.o.keep b);have S:=Hm (HZ.o.keep b);have L:=Hm (Qa J.o (Qi (r:=some q) b));obtain ⟨⟨x0,x1,x2,x3,x4⟩,xf⟩:=D.o;clear b HF HW H HX HZ J xf
   go_wp2_with fail
   refine (R.o _ I.o).mono ?_
   rintro e w3 ⟨X,rfl,hr⟩;have ai:=Hm (QB D.o X O.o.ne);have b:=Hm (QB S.o X LR.o.ne);have G:=Hm (Qa L.o X);have F:=Hm hr;obtain ⟨⟨C,B,A,z,y⟩,yf⟩:=ai.o
   first
   | (replace l:=l
      have Z:=yf 1)
   | (replace c:=c
      have Z:=yf 1)
   | (replace g:=g
      have Y:=yf 3)
   | (replace t4:=t4
      have Y:=yf 3)
   |skip
   obtain ⟨⟨u,t,s,n,m⟩,U⟩:=b.o;have ar:=U 0;have aq:=U 1;have ap:=U 2;have ao:=U 3;have ak:=U 4;clear X hr yf U D S L I R
   first|(replace f:=f;have k:=G)|(replace l:=l;have k:=Hm (Jh G.o O.o 1 (.int .i64 v1)))|(replace c:=c;have k:=Hm (Jh G.o O.o 1 (.int .i64 v1)))|(have k:=Hm (Jh G.o O.o 3 (.int .u64 v1)))
   first|(replace f:=f;have j:=F)|(replace l:=l;have j:=Hm (F.o.far O.o 1 (.int .i64 v1)))|(replace c:=c;have j:=Hm (F.o.far O.o 1 (.int .i64 v1)))|(have j:=Hm (F.o.far O.o 3 (.int .u64 v1)))
   go_wp2_with fail
   first
   | (replace l:=l
      exact bodyPost_ret (v:=inV (⟨a,v1,0,0,[]⟩:In) none 0) (by simp [results,Tryz.results321,go_sem,C,B,A,z,y,u,t,s,n,m]) rfl (by
       obtain ⟨c,f,g⟩:=Gm (x:=(⟨a,v1,0,0,[]⟩:In)) (la:=none) (lc:=0) j.o k.o LR.o (World.ownsRow_nil _ _ _ _) (by simp [Value.ownBlock])
       exact ⟨c,none,0,rfl,f,g,(Nat.zero_le _)⟩))
   | (replace c:=c
      exact bodyPost_ret (v:=inV (⟨a,v1,0,0,[]⟩:In) none 0) (by simp [results,Tryz.results321,go_sem,C,B,A,z,y,u,t,s,n,m]) rfl (by
       obtain ⟨c,f,g⟩:=Gm (x:=(⟨a,v1,0,0,[]⟩:In)) (la:=none) (lc:=0) j.o k.o LR.o (World.ownsRow_nil _ _ _ _) (by simp [Value.ownBlock])
       exact ⟨c,none,0,rfl,f,g,(Nat.zero_le _)⟩))
   | (replace f:=f
      exact bodyPost_ret (v:=inV (⟨a,0,0,0,[]⟩:In) none 0) (by simp [results,Tryz.results321,go_sem,C,B,A,z,y,u,t,s,n,m]) rfl (by
       obtain ⟨c,f,g⟩:=Gm (x:=(⟨a,0,0,0,[]⟩:In)) (la:=none) (lc:=0) j.o k.o LR.o (World.ownsRow_nil _ _ _ _) (by simp [Value.ownBlock])
       exact ⟨c,none,0,rfl,f,g,(Nat.zero_le _)⟩))
   | (replace g:=g
      exact bodyPost_ret (v:=inV (⟨a,0,0,v1,[]⟩:In) none 0) (by simp [results,Tryz.results321,go_sem,C,B,A,z,y,u,t,s,n,m]) rfl (by
       obtain ⟨c,f,g⟩:=Gm (x:=(⟨a,0,0,v1,[]⟩:In)) (la:=none) (lc:=0) j.o k.o LR.o (World.ownsRow_nil _ _ _ _) (by simp [Value.ownBlock])
       exact ⟨c,none,0,rfl,f,g,(Nat.zero_le _)⟩))
   | (replace t4:=t4
      exact bodyPost_ret (v:=inV (⟨a,0,0,v1,[]⟩:In) none 0) (by simp [results,Tryz.results321,go_sem,C,B,A,z,y,u,t,s,n,m]) rfl (by
       obtain ⟨c,f,g⟩:=Gm (x:=(⟨a,0,0,v1,[]⟩:In)) (la:=none) (lc:=0) j.o k.o LR.o (World.ownsRow_nil _ _ _ _) (by simp [Value.ownBlock])
       exact ⟨c,none,0,rfl,f,g,(Nat.zero_le _)⟩))
def rins_1:=rins_x.1
def rins_2:=rins_x.2.1
def rins_6:=rins_x.2.2.1
def rins_9:=rins_x.2.2.2.1
def rins_10:=rins_x.2.2.2.2
end Go.Proofs.YtedcmcdbejjgcaaGreat
namespace Go.Proofs.YtedcmcdbejjgcaaGreat
open Go.RowKit Go.Sort
theorem rins_3k (n:Int)(p0:Nat)(n0:0<=n)(n1:n<=4294967295)(q ba bc bs p)(M:Int)(w)(hf:QM (Qr M)=3)(h:Rd w q ba bc bs p)(hA:Qm bs)(hl:bs.length<=1099511627776)(K0:Hid (∀ V,Rd V q ba bc bs p->Calls Tryz.prog 235 #[.pointer (some ⟨q,0,none⟩)] V (RdP (.ok n p0) (λv=>.int .i64 v) V q ba bc bs))) :
    Calls Tryz.prog 321 #[.pointer (some ⟨q,0,none⟩),.int .i64 M] w (RiP ((GP bs n.toNat [] p0).bind λv1 p1=>(Qy false 32 bs p1).bind λv2 p2=>.ok ⟨M,v2,0,0,v1⟩ p2) w q ba bc bs):=by
 have HF:=Hm (GJ M);rw [hf] at HF;obtain ⟨W,hW,hz,hx,hb⟩:=XW w M;have cn:w.heap.size+2=W.heap.size:=by rw [hW];simp
 have HW:=Hm hW;have HZ:=Hm hz;have HX:=Hm hx;have D:=Hm (h.keep hb);have E:=Hm (show w.grownBy W (some q) from Qi hb);have LR:=Hm (JB h lR);have R:=Hm (JB h (show w.heap.size<=w.heap.size+1 by omega));have HQ:=Hm h.lt;clear hf hW hz hx hb h;have KT:=Hm (λV (hV:Rd V q ba bc bs p0)=>X6 q ba bc bs p0 2 n V hV);have K1:=Hm (λV (hV:Rd V q ba bc bs p0)=>ent_c q ba bc bs p0 n V hV hA hl n0 n1);generalize GP bs n.toNat [] p0=M1 at *
 cases M1 with
 |bad er at_ =>
  go_enter Tryz.func321,Tryz.ntmps321
  go_wp2_with fail
  rw [<- HW.o]
  refine (HF.o _).mono ?_
  rintro e Z ⟨rfl,a⟩;have B:=Hm (D.o.keep a);have m:=Hm (HX.o.keep a);have C:=Hm (HZ.o.keep a);have g:=Hm (Qa E.o (Qi (r:=some q) a));have O:=g.o.size;have aq:w.heap.size+2<=Z.heap.size:=by have:=a.size;omega
  obtain ⟨⟨x0,x1,x2,x3,x4⟩,xf⟩:=m.o;clear a HF HW D HX HZ E xf
  go_wp2_with fail
  refine (K0.o _ B.o).mono ?_
  rintro e wa ⟨t,rfl,s⟩;have A:=Hm t;have c:=Hm s;clear t s
  go_wp2_with fail
  refine (KT.o _ c.o).mono ?_
  rintro e wb ⟨rfl,b⟩;have f:=Hm (Qa A.o (Qi (r:=some q) b));have z:=Hm (c.o.keep b);have k:Z.heap.size<=wb.heap.size:=f.o.size;clear b A c
  go_wp2_with fail
  refine (K1.o _ z.o).mono ?_
  rintro e w3 ⟨y,rfl⟩;have l:=Qa f.o y;clear y f z
  exact ⟨rfl,Qa g.o l,rfl⟩
 |ok v1 p1 =>
  show Calls _ _ _ _ (RiP ((Qy false 32 bs p1).bind λv2 p2=>.ok ⟨M,v2,0,0,v1⟩ p2) _ _ _ _ _)
  have K2:=Hm (λV (hV:Rd V q ba bc bs p1)=>JR q ba bc bs p1 V hV hA hl);generalize Qy false 32 bs p1=M2 at *
  cases M2 with
  |bad er at_ =>
   go_enter Tryz.func321,Tryz.ntmps321
   go_wp2_with fail
   rw [<- HW.o]
   refine (HF.o _).mono ?_
   rintro e Z ⟨rfl,a⟩;have B:=Hm (D.o.keep a);have m:=Hm (HX.o.keep a);have C:=Hm (HZ.o.keep a);have g:=Hm (Qa E.o (Qi (r:=some q) a));have O:=g.o.size;have aq:w.heap.size+2<=Z.heap.size:=by have:=a.size;omega
   obtain ⟨⟨x0,x1,x2,x3,x4⟩,xf⟩:=m.o;clear a HF HW D HX HZ E xf
   go_wp2_with fail
   refine (K0.o _ B.o).mono ?_
   rintro e wa ⟨t,rfl,s⟩;have A:=Hm t;have c:=Hm s;clear t s
   go_wp2_with fail
   refine (KT.o _ c.o).mono ?_
   rintro e wb ⟨rfl,b⟩;have f:=Hm (Qa A.o (Qi (r:=some q) b));have z:=Hm (c.o.keep b);have k:Z.heap.size<=wb.heap.size:=f.o.size;clear b A c
   go_wp2_with fail
   refine (K1.o _ z.o).mono ?_
   rintro e w3 ⟨y,u1,rfl,F,hr,H⟩;have l:=Qa f.o y;have G:=ownE_down F k;clear y f z F;obtain ⟨la,lc,rfl⟩:=QZ G;have d:=Hm (ownE_down G (show w.heap.size<=_ from O));have J:Hid ((Value.slice la v1.length lc).ownBlock≠some w.heap.size/\(Value.slice la v1.length lc).ownBlock≠some (w.heap.size+1)):=⟨λe=>by have:=(G.lt _ e).1;omega,λe=>by have:=(G.lt _ e).1;omega⟩;have aw:=Hm H;clear G H;have I:=Hm (QB m.o l R.o.ne);have a:=Hm (QB C.o l LR.o.ne);have ad:=Hm (Qa g.o l);have ac:=Hm hr;obtain ⟨⟨bk,bj,bh,bg,bf⟩,Y⟩:=I.o;have ak:=Y 4;obtain ⟨⟨a6,a5,a4,a3,a2⟩,L⟩:=a.o;clear l hr Y L m C g B K1 K0 KT k;have af:=Hm (c5_set4 (v:=.slice la v1.length lc) I.o);have ae:=Hm (Xd (X:=w.heap.size+1) (i:=4) (v:=.slice la v1.length lc) a.o (by omega));have U:=Hm (Jh ad.o R.o 4 (.slice la v1.length lc));have S:=Hm (ac.o.far R.o 4 (.slice la v1.length lc));replace d:=Hm (Js (o:=4) (u:=.slice la v1.length lc) d.o J.o.2)
   go_wp2_with fail
   refine (K2.o _ S.o).mono ?_
   rintro e w4 ⟨l,rfl⟩
   exact ⟨rfl,Qa U.o l,rfl⟩
  |ok v2 p2 =>
   show Calls _ _ _ _ (RiP (.ok ⟨M,v2,0,0,v1⟩ p2) _ _ _ _ _)
   go_enter Tryz.func321,Tryz.ntmps321
   go_wp2_with fail
   rw [<- HW.o]
   refine (HF.o _).mono ?_
   rintro e Z ⟨rfl,a⟩;have B:=Hm (D.o.keep a);have m:=Hm (HX.o.keep a);have C:=Hm (HZ.o.keep a);have g:=Hm (Qa E.o (Qi (r:=some q) a));have O:=g.o.size;have aq:w.heap.size+2<=Z.heap.size:=by have:=a.size;omega
   obtain ⟨⟨x0,x1,x2,x3,x4⟩,xf⟩:=m.o;clear a HF HW D HX HZ E xf
   go_wp2_with fail
   refine (K0.o _ B.o).mono ?_
   rintro e wa ⟨t,rfl,s⟩;have A:=Hm t;have c:=Hm s;clear t s
   go_wp2_with fail
   refine (KT.o _ c.o).mono ?_
   rintro e wb ⟨rfl,b⟩;have f:=Hm (Qa A.o (Qi (r:=some q) b));have z:=Hm (c.o.keep b);have k:Z.heap.size<=wb.heap.size:=f.o.size;clear b A c
   go_wp2_with fail
   refine (K1.o _ z.o).mono ?_
   rintro e w3 ⟨y,u1,rfl,F,hr,H⟩;have l:=Qa f.o y;have G:=ownE_down F k;clear y f z F;obtain ⟨la,lc,rfl⟩:=QZ G;have d:=Hm (ownE_down G (show w.heap.size<=_ from O));have J:Hid ((Value.slice la v1.length lc).ownBlock≠some w.heap.size/\(Value.slice la v1.length lc).ownBlock≠some (w.heap.size+1)):=⟨λe=>by have:=(G.lt _ e).1;omega,λe=>by have:=(G.lt _ e).1;omega⟩;have aw:=Hm H;clear G H;have I:=Hm (QB m.o l R.o.ne);have a:=Hm (QB C.o l LR.o.ne);have ad:=Hm (Qa g.o l);have ac:=Hm hr;obtain ⟨⟨bk,bj,bh,bg,bf⟩,Y⟩:=I.o;have ak:=Y 4;obtain ⟨⟨a6,a5,a4,a3,a2⟩,L⟩:=a.o;clear l hr Y L m C g B K1 K0 KT k;have af:=Hm (c5_set4 (v:=.slice la v1.length lc) I.o);have ae:=Hm (Xd (X:=w.heap.size+1) (i:=4) (v:=.slice la v1.length lc) a.o (by omega));have U:=Hm (Jh ad.o R.o 4 (.slice la v1.length lc));have S:=Hm (ac.o.far R.o 4 (.slice la v1.length lc));replace d:=Hm (Js (o:=4) (u:=.slice la v1.length lc) d.o J.o.2)
   go_wp2_with fail
   refine (K2.o _ S.o).mono ?_
   rintro e w4 ⟨l,rfl,hr⟩;replace d:=Hm (ownE_grown' d.o l (λj hj=>by have:=(d.o.lt j hj).1;have:=LR.o.ne;intro e;simp at e;have:=HQ.o;omega));have bq:=Hm (QB af.o l R.o.ne);have bo:=Hm (QB ae.o l LR.o.ne);have bn:=Hm (Qa U.o l);have bm:=Hm hr;obtain ⟨⟨bd,bb,a9,a8,a7⟩,Y⟩:=bq.o;have b3:=Y 1;obtain ⟨⟨a1,a0,az,ay,ax⟩,L⟩:=bo.o;have b2:=L 0;have bz:=L 1;have bx:=L 2;have bw:=L 3;have bv:=L 4;clear l hr Y L af ae U S K2;have bu:=Hm (Jh bn.o R.o 1 (.int .i64 v2));have bt:=Hm (bm.o.far R.o 1 (.int .i64 v2));replace d:=Hm (Js (o:=1) (u:=.int .i64 v2) d.o J.o.2)
   go_wp2_with fail
   exact bodyPost_ret (v:=inV (⟨M,v2,0,0,v1⟩:In) la lc) (by simp [results,Tryz.results321,go_sem,bd,bb,a9,a8,a7,a1,a0,az,ay,ax]) rfl (by
    obtain ⟨t1,t2,t3⟩:=Gm (x:=(⟨M,v2,0,0,v1⟩:In)) (la:=la) (lc:=lc) bt.o bu.o LR.o d.o J.o.1
    exact ⟨t1,la,lc,rfl,t2,t3,aw.o⟩)
theorem rins_3 (q ba bc bs p)(b:Int)(w)(f:QM (Qr b)=3)(h:Rd w q ba bc bs p)(l:Qm bs)(hl:bs.length<=1099511627776) :
    Calls Tryz.prog 321 #[.pointer (some ⟨q,0,none⟩),.int .i64 b] w (RiP (JQ 3 b bs p) w q ba bc bs):=by
 have u:=Hm f;have L:=Hm h;have y:=Hm (GJ b);rw [f] at y;obtain ⟨W,k,z,A,j⟩:=XW w b;have H:w.heap.size+2=W.heap.size:=by rw [k];simp
 have D:=Hm k;have J:=Hm z;have C:=Hm A;have c:=Hm (h.keep j);have d:=Hm (show w.grownBy W (some q) from Qi j);clear f k z A j h
 show Calls _ _ _ _ (RiP (((Qy false 32 bs p).bind λn p0=>GP bs n.toNat [] p0).bind λv1 p1=>(Qy false 32 bs p1).bind λv2 p2=>.ok ⟨b,v2,0,0,v1⟩ p2) _ _ _ _ _)
 have B:=Hm (λV (hV:Rd V q ba bc bs p)=>JR q ba bc bs p V hV l hl);have g:=λv p1=>Jq (p:=p) (p1:=p1) (v:=v) l;generalize Qy false 32 bs p=M0 at *
 cases M0 with
 |bad er at_ =>
  go_enter Tryz.func321,Tryz.ntmps321
  go_wp2_with fail
  rw [<- D.o]
  refine (y.o _).mono ?_
  rintro e Y ⟨rfl,a⟩;have s:=Hm (c.o.keep a);have m:=Hm (C.o.keep a);have t:=Hm (Qa d.o (Qi (r:=some q) a));obtain ⟨⟨U,S,R,O,M⟩,E⟩:=m.o;clear a y D c C J d E
  go_wp2_with fail
  refine (B.o _ s.o).mono ?_
  rintro e X ⟨I,rfl⟩
  exact ⟨rfl,Qa t.o I,rfl⟩
 |ok n p0 =>
  obtain ⟨G,F⟩:=g n p0 rfl
  exact rins_3k n p0 G F q ba bc bs p b w u.o L.o l hl B
end Go.Proofs.YtedcmcdbejjgcaaGreat
