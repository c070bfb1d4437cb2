import Derived.Test.YtedcmcdbejjgcaaGreatGaa
import Derived.Test.YtedcmcdbejjgcaaGreatGbw
import Derived.Deep.RegionLaw
import Derived.Deep.CutRange
set_option linter.all false
set_option maxHeartbeats 400000000
set_option maxRecDepth 100000
namespace Go.Proofs.YtedcmcdbejjgcaaGreat.Ms
open Go.RowKit Go.Sort
theorem heldImp_c (l:List Imp)(a:Option Addr)(c:Nat)(C:List Value)(K:List Qc)(A:Int)(B:Nat)(w:World)(h:w.ownsRow B 100 9 (.slice a l.length c) l.length C)(hK:∀ r ∈ K,r.Ok B w)(q:LR RImp (Q5 mkImp Qu A l) C K)(hn:l.length<=1000000000)(h0:0<=A)(h1:A+Qb Qu l<=1000000000) :
    Calls Tryz.prog 105 #[.slice a l.length c,.int .i64 A] w λe w'=>e=.returned (.int .i64 (A+(Qb Qu l:Nat)))/\Below w.heap.size w w':=by
 have H:=Hm h;have L:=Hm q;clear h q hK
 go_enter Tryz.func105,Tryz.ntmps105
 go_wp2_with fail
 go_loopw [1,5] (λkv iv wr=>∃ (X Y:List Imp),l=X++Y/\kv=.int .i64 (A+(Qb Qu X:Nat))/\iv=.int .i64 (X.length:Int)/\Below w.heap.size w wr) (λ_ i _=>l.length-(intOf i).toNat)
 case atStart=>exact ⟨[],l,rfl,by simp [Qb],rfl,bF⟩
 case round =>
  obtain ⟨X,Y,y,rfl,rfl,z⟩:=hrel;have D:=Hm y;have m:l.length=X.length+Y.length:=by rw [y];simp
  have s:Qb Qu l=Qb Qu X+Qb Qu Y:=by rw [y,QL]
  have k:=Hm z;clear y z
  rcases Y with _|⟨x,Y⟩
  . have I:¬ (X.length:Int)<(l.length:Int):=by simp at m;omega
    have HE:Hid (l=X):=by
     show _=_
     have:=D.o;simpa using this
    clear m s
    go_wp2_with fail
    go_ret
    exact ⟨by rw [HE.o];rfl,k.o⟩
  . have I:(X.length:Int)<(l.length:Int):=by simp at m;omega
    have q:=L.o;rw [D.o,Xi,Q5] at q;obtain ⟨c1,cx,c2,k1,kx,k2,v,J,U,O,hY⟩:=LR.zip q;have f:c1.length=X.length*9:=by rw [LR.len (sz:=9) (by rintro x cs rs ⟨rfl,rfl⟩;rfl) U,QP]
    have E:Qu x=9:=rfl;rw [QQ,E] at s;obtain ⟨b,n⟩:∃ b:Int,b=A+(Qb Qu X:Nat):=⟨_,rfl⟩;have S:0<=b:=by omega
    have R:b+9<=1000000000:=by omega
    have ae:IntKind.i64.wrap ((X.length:Int)+1)=(X.length:Int)+1:=by rw [IntKind.wrap_i64];omega
    have M:=Hm n;rw [<- n] at O;rw [<- n];obtain ⟨rfl,rfl⟩:=O;clear n q U hY;obtain ⟨g,cc,hv,-⟩:=QI H.o (by omega)
    injection hv with hv1 _ hv2
    subst hv1 hv2;have d:g<w.heap.size:=(World.ownsRow.lt H.o g rfl).2;clear m s E;have Y0:Hid (∀ W,Below w.heap.size w W->W.cell? ⟨g,X.length*9,none⟩=some (.string (mtx (b)))):=Hm (λW hW=>(hW.cell (p:=⟨g,X.length*9,none⟩) d).trans ((World.ownsRow.cellAt H.o (X.length*9) (by omega)).trans (by rw [v];exact Jp f rfl)));have Z:Hid (∀ W,Below w.heap.size w W->W.cell? ⟨g,X.length*9+1,none⟩=some (.string (mtx (b+1)))):=Hm (λW hW=>(hW.cell (p:=⟨g,X.length*9+1,none⟩) d).trans ((World.ownsRow.cellAt H.o (X.length*9+1) (by omega)).trans (by rw [v];exact Qt f (j:=1) rfl)));have Y2:Hid (∀ W,Below w.heap.size w W->W.cell? ⟨g,X.length*9+2,none⟩=some (.int .i64 (b+1+1))):=Hm (λW hW=>(hW.cell (p:=⟨g,X.length*9+2,none⟩) d).trans ((World.ownsRow.cellAt H.o (X.length*9+2) (by omega)).trans (by rw [v];exact Qt f (j:=2) rfl)));have Y3:Hid (∀ W,Below w.heap.size w W->W.cell? ⟨g,X.length*9+3,none⟩=some (.int .i64 (b+1+1+1))):=Hm (λW hW=>(hW.cell (p:=⟨g,X.length*9+3,none⟩) d).trans ((World.ownsRow.cellAt H.o (X.length*9+3) (by omega)).trans (by rw [v];exact Qt f (j:=3) rfl)));have Y4:Hid (∀ W,Below w.heap.size w W->W.cell? ⟨g,X.length*9+4,none⟩=some (.int .i64 (b+1+1+1+1))):=Hm (λW hW=>(hW.cell (p:=⟨g,X.length*9+4,none⟩) d).trans ((World.ownsRow.cellAt H.o (X.length*9+4) (by omega)).trans (by rw [v];exact Qt f (j:=4) rfl)));have Y5:Hid (∀ W,Below w.heap.size w W->W.cell? ⟨g,X.length*9+5,none⟩=some (.int .i64 (b+1+1+1+1+1))):=Hm (λW hW=>(hW.cell (p:=⟨g,X.length*9+5,none⟩) d).trans ((World.ownsRow.cellAt H.o (X.length*9+5) (by omega)).trans (by rw [v];exact Qt f (j:=5) rfl)))
    have Y6:Hid (∀ W,Below w.heap.size w W->W.cell? ⟨g,X.length*9+6,none⟩=some (.bool ((b+1+1+1+1+1+1)%3==0))):=Hm (λW hW=>(hW.cell (p:=⟨g,X.length*9+6,none⟩) d).trans ((World.ownsRow.cellAt H.o (X.length*9+6) (by omega)).trans (by rw [v];exact Qt f (j:=6) rfl)));have Y7:Hid (∀ W,Below w.heap.size w W->W.cell? ⟨g,X.length*9+7,none⟩=some (.int .i64 (b+1+1+1+1+1+1+1))):=Hm (λW hW=>(hW.cell (p:=⟨g,X.length*9+7,none⟩) d).trans ((World.ownsRow.cellAt H.o (X.length*9+7) (by omega)).trans (by rw [v];exact Qt f (j:=7) rfl)));have Y8:Hid (∀ W,Below w.heap.size w W->W.cell? ⟨g,X.length*9+8,none⟩=some (.bool ((b+1+1+1+1+1+1+1+1)%3==0))):=Hm (λW hW=>(hW.cell (p:=⟨g,X.length*9+8,none⟩) d).trans ((World.ownsRow.cellAt H.o (X.length*9+8) (by omega)).trans (by rw [v];exact Qt f (j:=8) rfl)));clear v J f;have y0:=Y0.o _ k.o;have F:=Hm (λW=>XQ (b) W (by omega) (by omega))
    go_upto_region 4 with fail
    go_cut [19] from 12 to 19 (λt V=>t=.bool false/\Below w.heap.size w V)
    case first =>
     go_region_law (first
      | (go_simp
         refine (F.o _).mono ?_
         rintro e V ⟨rfl,u⟩;have G:Hid (Below w.heap.size w V):=Hm (Oo k.o u (by first | exact bF | exact bF.drew | exact (bF.drew).drew));have yV:=Y0.o _ G.o;clear u))
     all_goals
      go_wp2_with fail
      go_meet
      exact ⟨by simp,G.o⟩
    case rest =>
     obtain ⟨rfl,z⟩:=hcut;clear k y0 F;have k:=Hm z;clear z;have aq:IntKind.i64.wrap (b+1)=b+1:=by rw [IntKind.wrap_i64];omega
     have y1:=Z.o _ k.o;have F:=Hm (λW=>XQ (b+1) W (by omega) (by omega))
     go_upto_region 7 with fail
     go_cut [29] from 22 to 29 (λt V=>t=.bool false/\Below w.heap.size w V)
     case first =>
      go_region_law (first
       | (go_simp
          refine (F.o _).mono ?_
          rintro e V ⟨rfl,u⟩;have G:Hid (Below w.heap.size w V):=Hm (Oo k.o u (by first | exact bF | exact bF.drew | exact (bF.drew).drew));have yV:=Z.o _ G.o;clear u))
      all_goals
       go_wp2_with fail
       go_meet
       exact ⟨by simp,G.o⟩
     case rest =>
      obtain ⟨rfl,z⟩:=hcut;clear k y1 F;have k:=Hm z;clear z;have ap:IntKind.i64.wrap (b+1+1)=b+1+1:=by rw [IntKind.wrap_i64];omega
      have y2:=Y2.o _ k.o;have ao:IntKind.i64.wrap (b+1+1+1)=b+1+1+1:=by rw [IntKind.wrap_i64];omega
      have y3:=Y3.o _ k.o;have ak:IntKind.i64.wrap (b+1+1+1+1)=b+1+1+1+1:=by rw [IntKind.wrap_i64];omega
      have y4:=Y4.o _ k.o;have aj:IntKind.i64.wrap (b+1+1+1+1+1)=b+1+1+1+1+1:=by rw [IntKind.wrap_i64];omega
      have y5:=Y5.o _ k.o;have ai:IntKind.i64.wrap (b+1+1+1+1+1+1)=b+1+1+1+1+1+1:=by rw [IntKind.wrap_i64];omega
      have y6:=Y6.o _ k.o;have ah:IntKind.i64.wrap (b+1+1+1+1+1+1+1)=b+1+1+1+1+1+1+1:=by rw [IntKind.wrap_i64];omega
      have y7:=Y7.o _ k.o;have ag:IntKind.i64.wrap (b+1+1+1+1+1+1+1+1)=b+1+1+1+1+1+1+1+1:=by rw [IntKind.wrap_i64];omega
      have y8:=Y8.o _ k.o;have af:IntKind.i64.wrap (b+1+1+1+1+1+1+1+1+1)=b+1+1+1+1+1+1+1+1+1:=by rw [IntKind.wrap_i64];omega
      go_wp2_with fail
      go_roundw
      case rel =>
       refine ⟨X++[x],Y,by rw [D.o];simp,?_,by rw [show (((X++[x]).length:Nat):Int)=(X.length:Int)+1 by simp],k.o⟩
       rw [QR,M.o];rw [show Qu x=9 from rfl];congr 1;push_cast;omega
      case measure =>
       have:X.length<l.length:=by omega
       simp [intOf];omega
theorem heldCus_c (l:List Cus)(a:Option Addr)(c:Nat)(C:List Value)(K:List Qc)(v:Int)(B:Nat)(w:World)(h:w.ownsRow B 72 3 (.slice a l.length c) l.length C)(hK:∀ r ∈ K,r.Ok B w)(k:LR RCus (Q5 mkCus Ju v l) C K)(hn:l.length<=1000000000)(h0:0<=v)(h1:v+Qb Ju l<=1000000000) :
    Calls Tryz.prog 113 #[.slice a l.length c,.int .i64 v] w λe O=>e=.returned (.int .i64 (v+(Qb Ju l:Nat)))/\Below w.heap.size w O:=by
 have H:=Hm h;have HK:=Hm hK;have L:=Hm k;clear h k hK
 go_enter Tryz.func113,Tryz.ntmps113
 go_wp2_with fail
 go_loopw [1,5] (λkv iv wr=>∃ (X Y:List Cus),l=X++Y/\kv=.int .i64 (v+(Qb Ju X:Nat))/\iv=.int .i64 (X.length:Int)/\Below w.heap.size w wr) (λ_ i _=>l.length-(intOf i).toNat)
 case atStart=>exact ⟨[],l,rfl,by simp [Qb],rfl,bF⟩
 case round =>
  obtain ⟨X,Y,s,rfl,rfl,D⟩:=hrel;have y:=Hm s;have d:l.length=X.length+Y.length:=by rw [s];simp
  have m:Qb Ju l=Qb Ju X+Qb Ju Y:=by rw [s,QL]
  have u:=Hm D;clear s D
  rcases Y with _|⟨x,Y⟩
  . have I:¬ (X.length:Int)<(l.length:Int):=by simp at d;omega
    have HE:Hid (l=X):=by
     show _=_
     have:=y.o;simpa using this
    clear d m
    go_wp2_with fail
    go_ret
    exact ⟨by rw [HE.o];rfl,u.o⟩
  . have I:(X.length:Int)<(l.length:Int):=by simp at d;omega
    have k:=L.o;rw [y.o,Xi,Q5] at k;obtain ⟨c1,cx,c2,k1,kx,k2,G,E,hX,R,hY⟩:=LR.zip k;have q:c1.length=X.length*3:=by rw [LR.len (sz:=3) len_RCus hX,QP]
    have z:Ju x=2+List.length x.bs:=rfl;rw [QQ,z] at m;obtain ⟨b,f⟩:∃ b:Int,b=v+(Qb Ju X:Nat):=⟨_,rfl⟩;have Z:0<=b:=by omega
    have S:b+2+(x.bs.length:Int)<=1000000000:=by omega
    have aj:IntKind.i64.wrap ((X.length:Int)+1)=(X.length:Int)+1:=by rw [IntKind.wrap_i64];omega
    have M:=Hm f;rw [<- f] at R;rw [<- f];obtain ⟨v2,rfl,rfl⟩:=R;clear f k hX hY;obtain ⟨g,cc,hv,-⟩:=QI H.o (by omega)
    injection hv with hv1 _ hv2
    subst hv1 hv2;have n:g<w.heap.size:=(World.ownsRow.lt H.o g rfl).2;clear d m z;have F:Qc.Ok B w ⟨5,1,(mkB (b+1+1) x.bs.length).length,v2,U (mkB (b+1+1) x.bs.length)⟩:=HK.o _ (by rw [E];exact mR (mL mS));rw [mkB_len] at F;obtain ⟨a2,d2,rfl⟩:=QJ F;have J:=Hm F;clear F;have Y0:Hid (∀ W,Below w.heap.size w W->W.cell? ⟨g,X.length*3,none⟩=some (.int .i64 (b))):=Hm (λW hW=>(hW.cell (p:=⟨g,X.length*3,none⟩) n).trans ((World.ownsRow.cellAt H.o (X.length*3) (by omega)).trans (by rw [G];exact Jp q rfl)));have Y1:Hid (∀ W,Below w.heap.size w W->W.cell? ⟨g,X.length*3+1,none⟩=some (.string (mtx (b+1)))):=Hm (λW hW=>(hW.cell (p:=⟨g,X.length*3+1,none⟩) n).trans ((World.ownsRow.cellAt H.o (X.length*3+1) (by omega)).trans (by rw [G];exact Qt q (j:=1) rfl)));have Y2:Hid (∀ W,Below w.heap.size w W->W.cell? ⟨g,X.length*3+2,none⟩=some (.slice a2 x.bs.length d2)):=Hm (λW hW=>(hW.cell (p:=⟨g,X.length*3+2,none⟩) n).trans ((World.ownsRow.cellAt H.o (X.length*3+2) (by omega)).trans (by rw [G];exact Qt q (j:=2) rfl)));clear G E q;have y0:=Y0.o _ u.o;have ao:IntKind.i64.wrap (b+1)=b+1:=by rw [IntKind.wrap_i64];omega
    have y1:=Y1.o _ u.o;have KT:=Hm (λW=>XQ (b+1) W (by omega) (by omega))
    go_upto_region 7 with fail
    clear y0
    go_cut [28] from 21 to 28 (λt V=>t=.bool false/\Below w.heap.size w V)
    case first =>
     go_region_law (first
      | (go_simp
         refine (KT.o _).mono ?_
         rintro e V ⟨rfl,A⟩;have BV:Hid (Below w.heap.size w V):=Hm (Oo u.o A (by first | exact bF | exact bF.drew | exact (bF.drew).drew));have yV:=Y1.o _ BV.o;clear A))
     all_goals
      go_wp2_with fail
      go_meet
      exact ⟨by simp,BV.o⟩
    case rest =>
     obtain ⟨rfl,D⟩:=hcut;clear u y1 KT;have u:=Hm D;clear D;have ak:IntKind.i64.wrap (b+1+1)=b+1+1:=by rw [IntKind.wrap_i64];omega
     have y2:=Y2.o _ u.o
     go_wp2_with fail
     refine (heldB_c x.bs.length a2 d2 (b+1+1) B _ (Qc.Ok.below J.o u.o) (by omega) (by omega)).mono ?_
     rintro e O ⟨rfl,rfl⟩;have aq:¬ b+1+1+(x.bs.length:Int)<0:=by omega
     go_wp2_with fail
     go_roundw
     case rel =>
      refine ⟨X++[x],Y,by rw [y.o];simp,?_,by rw [show (((X++[x]).length:Nat):Int)=(X.length:Int)+1 by simp],u.o⟩
      rw [QR,M.o];rw [show Ju x=2+List.length x.bs from rfl];congr 1;push_cast;omega
     case measure =>
      have:X.length<l.length:=by omega
      simp [intOf];omega
theorem heldCod_c (l:List Cod)(a:Option Addr)(c:Nat)(C:List Value)(K:List Qc)(q:Int)(B:Nat)(w:World)(h:w.ownsRow B 83 2 (.slice a l.length c) l.length C)(hK:∀ r ∈ K,r.Ok B w)(f:LR Oq (Q5 mkCod Je q l) C K)(hn:l.length<=1000000000)(h0:0<=q)(h1:q+Qb Je l<=1000000000) :
    Calls Tryz.prog 111 #[.slice a l.length c,.int .i64 q] w λe z=>e=.returned (.int .i64 (q+(Qb Je l:Nat)))/\w=z:=by
 have H:=Hm h;have U:=Hm hK;have R:=Hm f;clear h f hK
 go_enter Tryz.func111,Tryz.ntmps111
 go_wp2_with fail
 go_loop [1,5] (λkv iv=>∃ (X Y:List Cod),l=X++Y/\kv=.int .i64 (q+(Qb Je X:Nat))/\iv=.int .i64 (X.length:Int)) (λ_ i=>l.length-(intOf i).toNat)
 case atStart=>exact ⟨[],l,rfl,by simp [Qb],rfl⟩
 case round =>
  obtain ⟨X,Y,n,rfl,rfl⟩:=hrel;have t:=Hm n;have b:l.length=X.length+Y.length:=by rw [n];simp
  have m:Qb Je l=Qb Je X+Qb Je Y:=by rw [n,QL]
  clear n
  rcases Y with _|⟨x,Y⟩
  . have D:¬ (X.length:Int)<(l.length:Int):=by simp at b;omega
    have HE:Hid (l=X):=by
     show _=_
     have:=t.o;simpa using this
    clear b m
    go_wp2_with fail
    go_ret
    exact ⟨by rw [HE.o];rfl,rfl⟩
  . have D:(X.length:Int)<(l.length:Int):=by simp at b;omega
    have f:=R.o;rw [t.o,Xi,Q5] at f;obtain ⟨c1,cx,c2,k1,kx,k2,E,p,hX,V,hY⟩:=LR.zip f;have s:c1.length=X.length*2:=by rw [LR.len (sz:=2) len_RCod hX,QP]
    have u:Je x=0+Qb Q8 x.locs+Qb QO x.body:=rfl;rw [QQ,u] at m;obtain ⟨k,d⟩:∃ k:Int,k=q+(Qb Je X:Nat):=⟨_,rfl⟩;have aa:0<=k:=by omega
    have Z:k+0+((Qb Q8 x.locs:Nat):Int)+((Qb QO x.body:Nat):Int)<=1000000000:=by omega
    have aj:IntKind.i64.wrap ((X.length:Int)+1)=(X.length:Int)+1:=by rw [IntKind.wrap_i64];omega
    have S:=Hm d;rw [<- d] at V;rw [<- d];obtain ⟨v0,G,v1,r1,rfl,hG,⟨F,A,hI,rfl⟩,rfl⟩:=V;clear d f hX hY;obtain ⟨g,cc,hv,-⟩:=QI H.o (by omega)
    injection hv with hv1 _ hv2
    subst hv1 hv2;clear b m u;have y:Qc.Ok B w ⟨173,2,(Q5 mkGrp Q8 (k) x.locs).length,v0,G⟩:=U.o _ (by rw [p];exact mR (mL mS));rw [QP] at y;obtain ⟨a0,d0,rfl⟩:=QJ y;have J:=Hm y;clear y;have O:Hid (LR RGrp (Q5 mkGrp Q8 (k) x.locs) G []):=Hm hG;clear hG;have v:Qc.Ok B w ⟨170,5,(Q5 mkIn QO (k+((Qb Q8 x.locs:Nat):Int)) x.body).length,v1,F⟩:=U.o _ (by rw [p];exact mR (mL (mC mS)));rw [QP] at v;obtain ⟨a1,d1,rfl⟩:=QJ v;have I:=Hm v;clear v;have L:Hid (∀ r ∈ A,Qc.Ok B w r):=Hm (λr hr=>U.o r (by rw [p];exact mR (mL (mC (mC hr)))));have M:Hid (LR RIn (Q5 mkIn QO (k+((Qb Q8 x.locs:Nat):Int)) x.body) F A):=Hm hI;clear hI;have y0:w.cell? ⟨g,X.length*2,none⟩=some (.slice a0 x.locs.length d0):=(World.ownsRow.cellAt H.o (X.length*2) (by omega)).trans (by rw [E];exact Jp s rfl);have y1:w.cell? ⟨g,X.length*2+1,none⟩=some (.slice a1 x.body.length d1):=(World.ownsRow.cellAt H.o (X.length*2+1) (by omega)).trans (by rw [E];exact Qt s (j:=1) rfl);clear E p s
    go_wp2_with fail
    refine (heldGrp_c x.locs a0 d0 G (k) B w J.o O.o (by omega) (by omega)).mono ?_
    rintro e z ⟨rfl,rfl⟩;have ap:¬ k+((Qb Q8 x.locs:Nat):Int)<0:=by omega
    go_wp2_with fail
    refine (heldIn_c x.body a1 d1 F A (k+((Qb Q8 x.locs:Nat):Int)) B w I.o L.o M.o (by have:=Xe (sz:=QO) (λx=>by simp [QO];try omega) x.body;omega) (by omega) (by omega)).mono ?_
    rintro e z ⟨rfl,rfl⟩;have ao:¬ k+((Qb Q8 x.locs:Nat):Int)+((Qb QO x.body:Nat):Int)<0:=by omega
    go_wp2_with fail
    go_round
    case rel =>
     refine ⟨X++[x],Y,by rw [t.o];simp,?_,by rw [show (((X++[x]).length:Nat):Int)=(X.length:Int)+1 by simp]⟩
     rw [QR,S.o];rw [show Je x=0+Qb Q8 x.locs+Qb QO x.body from rfl];congr 1;push_cast;omega
    case measure =>
     have:X.length<l.length:=by omega
     simp [intOf];omega
theorem heldY:(∀ (l:List Ele) (a:Option Addr) (c:Nat) (C:List Value) (K:List Qc) (m:Int) (B:Nat) (w:World) (h:w.ownsRow B 79 2 (.slice a l.length c) l.length C) (F:∀ r ∈ K,r.Ok B w) (f:LR REle (Q5 mkEle Ja m l) C K) (hn:l.length<=1000000000) (h0:0<=m) (h1:m+Qb Ja l<=1000000000),Calls Tryz.prog 110 #[.slice a l.length c,.int .i64 m] w λe z=>e=.returned (.int .i64 (m+(Qb Ja l:Nat)))/\w=z)/\(∀ (l:List Dat) (a:Option Addr) (c:Nat) (C:List Value) (K:List Qc) (m:Int) (B:Nat) (w:World) (h:w.ownsRow B 85 2 (.slice a l.length c) l.length C) (F:∀ r ∈ K,r.Ok B w) (f:LR RDat (Q5 mkDat Jo m l) C K) (hn:l.length<=1000000000) (h0:0<=m) (h1:m+Qb Jo l<=1000000000),Calls Tryz.prog 112 #[.slice a l.length c,.int .i64 m] w λe z=>e=.returned (.int .i64 (m+(Qb Jo l:Nat)))/\w=z):=by
 refine ⟨?c0,?c1⟩
 case' c0=>have b:=0
 case' c1=>have u:=0
 all_goals
  intro l a c C K m B w h F f hn h0 h1
  have H:=Hm h;have M:=Hm F;have ad:=Hm f;clear h f F
  first|(replace b:=b;go_enter Tryz.func110,Tryz.ntmps110)|(go_enter Tryz.func112,Tryz.ntmps112)
  go_wp2_with fail
  first|(replace b:=b;go_loop [1,5] (λkv iv=>∃ (X Y:List Ele),l=X++Y/\kv=.int .i64 (m+(Qb Ja X:Nat))/\iv=.int .i64 (X.length:Int)) (λ_ i=>l.length-(intOf i).toNat))|(go_loop [1,5] (λkv iv=>∃ (X Y:List Dat),l=X++Y/\kv=.int .i64 (m+(Qb Jo X:Nat))/\iv=.int .i64 (X.length:Int)) (λ_ i=>l.length-(intOf i).toNat))
  case atStart=>exact ⟨[],l,rfl,by simp [Qb],rfl⟩
  case round =>
   obtain ⟨X,Y,s,rfl,rfl⟩:=hrel;have y:=Hm s;have p:l.length=X.length+Y.length:=by rw [s];simp
   first|(replace b:=b;have n:Qb Ja l=Qb Ja X+Qb Ja Y:=by rw [s,QL])|(have n:Qb Jo l=Qb Jo X+Qb Jo Y:=by rw [s,QL])
   clear s
   rcases Y with _|⟨x,Y⟩
   . have R:¬ (X.length:Int)<(l.length:Int):=by simp at p;omega
     have HE:Hid (l=X):=by
      show _=_
      have:=y.o;simpa using this
     clear p n
     go_wp2_with fail
     go_ret
     exact ⟨by rw [HE.o];rfl,rfl⟩
   . have R:(X.length:Int)<(l.length:Int):=by simp at p;omega
     have f:=ad.o;rw [y.o,Xi,Q5] at f;obtain ⟨c1,cx,c2,k1,kx,k2,G,t,V,hx,hY⟩:=LR.zip f
     first|(replace b:=b;have q:c1.length=X.length*2:=by rw [LR.len (sz:=2) len_REle V,QP])|(have q:c1.length=X.length*2:=by rw [LR.len (sz:=2) len_RDat V,QP])
     first|(replace b:=b;have v:Ja x=0+Qb QO x.off+List.length x.fs:=rfl)|(have v:Jo x=0+Qb QO x.off+List.length x.bs:=rfl)
     rw [QQ,v] at n
     first|(replace b:=b;obtain ⟨d,k⟩:∃ d:Int,d=m+(Qb Ja X:Nat):=⟨_,rfl⟩)|(obtain ⟨d,k⟩:∃ d:Int,d=m+(Qb Jo X:Nat):=⟨_,rfl⟩)
     have ag:0<=d:=by omega
     first|(replace b:=b;have A:d+0+((Qb QO x.off:Nat):Int)+(x.fs.length:Int)<=1000000000:=by omega)|(have A:d+0+((Qb QO x.off:Nat):Int)+(x.bs.length:Int)<=1000000000:=by omega)
     have ao:IntKind.i64.wrap ((X.length:Int)+1)=(X.length:Int)+1:=by rw [IntKind.wrap_i64];omega
     have E:=Hm k;rw [<- k] at hx;rw [<- k];obtain ⟨v0,v1,r1,rfl,⟨Z,O,hI,rfl⟩,rfl⟩:=hx;clear k f V hY;obtain ⟨g,cc,hv,-⟩:=QI H.o (by omega)
     injection hv with hv1 _ hv2
     subst hv1 hv2;clear p n v;have b:Qc.Ok B w ⟨170,5,(Q5 mkIn QO (d) x.off).length,v0,Z⟩:=M.o _ (by rw [t];exact mR (mL (mL mS)));rw [QP] at b;obtain ⟨a0,d0,rfl⟩:=QJ b;have aa:=Hm b;clear b;have ab:Hid (∀ r ∈ O,Qc.Ok B w r):=Hm (λr hr=>M.o r (by rw [t];exact mR (mL (mL (mC hr)))));have ac:Hid (LR RIn (Q5 mkIn QO (d) x.off) Z O):=Hm hI;clear hI
     first|(replace b:=b;have u:Qc.Ok B w ⟨2,1,(mkI (d+((Qb QO x.off:Nat):Int)) x.fs.length).length,v1,I (mkI (d+((Qb QO x.off:Nat):Int)) x.fs.length)⟩:=M.o _ (by rw [t];exact mR (mL (mR mS))))|(have u:Qc.Ok B w ⟨5,1,(mkB (d+((Qb QO x.off:Nat):Int)) x.bs.length).length,v1,U (mkB (d+((Qb QO x.off:Nat):Int)) x.bs.length)⟩:=M.o _ (by rw [t];exact mR (mL (mR mS))))
     first|(replace b:=b;rw [XA] at u)|(rw [mkB_len] at u)
     obtain ⟨L,J,rfl⟩:=QJ u;have D:=Hm u;clear u;have y0:w.cell? ⟨g,X.length*2,none⟩=some (.slice a0 x.off.length d0):=(World.ownsRow.cellAt H.o (X.length*2) (by omega)).trans (by rw [G];exact Jp q rfl)
     first|(replace b:=b;have y1:w.cell? ⟨g,X.length*2+1,none⟩=some (.slice L x.fs.length J):=(World.ownsRow.cellAt H.o (X.length*2+1) (by omega)).trans (by rw [G];exact Qt q (j:=1) rfl))|(have y1:w.cell? ⟨g,X.length*2+1,none⟩=some (.slice L x.bs.length J):=(World.ownsRow.cellAt H.o (X.length*2+1) (by omega)).trans (by rw [G];exact Qt q (j:=1) rfl))
     clear G t q
     go_wp2_with fail
     refine (heldIn_c x.off a0 d0 Z O (d) B w aa.o ab.o ac.o (by have:=Xe (sz:=QO) (λx=>by simp [QO];try omega) x.off;omega) (by omega) (by omega)).mono ?_
     rintro e z ⟨rfl,rfl⟩;have aq:¬ d+((Qb QO x.off:Nat):Int)<0:=by omega
     go_wp2_with fail
     first|(replace b:=b;refine (heldI_c x.fs.length L J (d+((Qb QO x.off:Nat):Int)) B w D.o (by omega) (by omega)).mono ?_)|(refine (heldB_c x.bs.length L J (d+((Qb QO x.off:Nat):Int)) B w D.o (by omega) (by omega)).mono ?_)
     rintro e z ⟨rfl,rfl⟩
     first|(replace b:=b;have S:¬ d+((Qb QO x.off:Nat):Int)+(x.fs.length:Int)<0:=by omega)|(have S:¬ d+((Qb QO x.off:Nat):Int)+(x.bs.length:Int)<0:=by omega)
     go_wp2_with fail
     go_round
     case rel =>
      refine ⟨X++[x],Y,by rw [y.o];simp,?_,by rw [show (((X++[x]).length:Nat):Int)=(X.length:Int)+1 by simp]⟩
      first|(replace b:=b;rw [QR,E.o];rw [show Ja x=0+Qb QO x.off+List.length x.fs from rfl];congr 1;push_cast;omega)|(rw [QR,E.o];rw [show Jo x=0+Qb QO x.off+List.length x.bs from rfl];congr 1;push_cast;omega)
     case measure =>
      have:X.length<l.length:=by omega
      simp [intOf];omega
def heldEle_c:=heldY.1
def heldDat_c:=heldY.2
end Go.Proofs.YtedcmcdbejjgcaaGreat.Ms
