import Derived.Test.YtejkdbnngphgaaaGreatDoorGba
set_option linter.all false
set_option maxHeartbeats 400000000
set_option maxRecDepth 100000
namespace Go.Proofs
open Value renaming int->U,slice->S,bool->G,string->Xs,agg->Ag
open IntKind renaming i64->O
open Ending renaming returned->Z
open Obj renaming cells->Fc
open Go renaming World->J,Calls->Ec,Value->Vu,Addr->Ad
open Go.RowKit renaming Below->Bw
open Tryz renaming prog->Q
open Tryz
open List renaming length_nil->Kg,length_cons->Kj,getElem?_set_ne->Kz,foldl_cons->Km,foldl_nil->Tq,length_append->Kb,getD->Ty,getElem?_eq_getElem->Kv,drop_eq_getElem_cons->Tx,append_nil->Tb,getElem?_set_self->Ky,length->N
open List.Perm renaming swap->Kq,cons->Tp,append_left->Lm,refl->Im
open Nat renaming zero_add->Kk,add_zero->Hc
open Value renaming oneCell'->Hq,ownBlock->Lc
open Act renaming defers_put'->Ek
open Option renaming isNone_map->Eg,map_eq_some_iff->Tz,bind_some->Pq,map_map->Mb,map_some->Lw
open IntKind renaming wrap_i64->Kw
open Int renaming tmod_eq_emod_of_nonneg->Pd
namespace YtejkdbnngphgaaaGreatDoor.Yz
open Go.RowKit Go.Sort
variable [PK]
def XO (x:Qp):Vu:=Ag #[U O x.min,U O x.max,G x.has]
theorem mlim_c (p:Nat)(a:Option Ad)(c:Nat)(ws:List Wd)(bd:Bool)(w:J)(h:Pb w p bd)(hW:Wv w a p ws)(hl:∀x∈ws,N x<=1048576):Ec Q 70 #[ptr p 0,S a (N ws) c] w (MsP Q5 XO p ws bd w):=by
 obtain⟨g,hg⟩:∃g,g=w.heap.size:=⟨_,rfl⟩;obtain⟨H,r⟩:∃g,g=w.heap.size+1:=⟨_,rfl⟩;obtain⟨V,hV⟩:∃V,V=(w.alloc (Fc #[U O 0,U O 0,G false] 120)).alloc (Fc #[U O 0,U O 0,G false] 120):=⟨_,rfl⟩;have j:Hid (Lb w p a ws bd [box 120 3 H [U O 0,U O 0,G false],box 120 3 g [U O 0,U O 0,G false]] V):=by have:=((Lb.start h hW).box (cur:=#[U O 0,U O 0,G false]) 120 3 rfl).box (cur:=#[U O 0,U O 0,G false]) 120 3 rfl;rw[hV,r,hg];refine Hm ?_;simpa using this
 have HL:=Hm hl;clear hl h;match ws,hW,j,HL with
 |[],hW,j,HL =>
  clear hW HL
  simp only[Kg]
  go_enter func70,ntmps70
  go_upto_region 2 with fail
  rw[<- hV,<- r,<- hg];clear hV hg r;have I:=Hm (QG p bd _ j.o.pb)
  go_wp2_with fail
  refine I.o.mono ?_
  rintro e wb ⟨rfl,F,m⟩;replace j:=Hm (j.o.call F m);clear F m I;have f:=j.o;have r0:=(f.b0 0).1;have r1:=(f.b0 1).1;have r2:=(f.b0 2).1;have d:=f.perm (Kq _ _ _);obtain⟨s0,t0⟩:=d.b0 0;obtain⟨s1,t1⟩:=d.b0 1;obtain⟨s2,t2⟩:=d.b0 2;have HF:=Hm (((d.set 0 (U O 0)).set 1 (U O 0)).set 2 (G false));clear f d j
  go_wp2
  refine Jp (λB=>Lb w p a [] true (box 120 3 g [U O 0,U O 0,G false]::[box 120 3 H [U O 0,U O 0,G false]]) B) HF.o ?_
  intro B k
  have R:=(k.b0 0).1;have M:=(k.b0 1).1;have L:=(k.b0 2).1
  refine bodyPost_ret (v:=XO ⟨0,0,false⟩) (by simp[results,results70,go_sem,R,M,L,XO]) rfl ⟨⟨0,0,false⟩,rfl,?_,k.g,?_⟩
  . simpa[Q5]using k.pb
  . intro y _ D
    simp[Q5]at D
 |[s],hW,j,HL =>
  obtain⟨b,o,rfl⟩:=hW.at (by simp);clear hW
  simp only[Kj,Kg,Kk]
  cases hk1:okN 0 4294967295 s with
  |false =>
   obtain⟨ad,aa⟩:=j.o.b0 0;have E:=j.o.wd 0 (x:=s) rfl
   simp only[Hc]at E
   have K1:=Hm (JM s V (by have:=HL.o s (by simp);omega));have q:=Hm hk1;rw[hk1]at K1;clear hk1
   go_enter func70,ntmps70
   go_upto_region 2 with fail
   rw[<- hV,<- r,<- hg];clear hV hg r
   go_wp2_with fail
   refine K1.o.mono ?_
   rintro e w1 ⟨rfl,x,rfl,hx⟩;have HX:=Hm hx;clear hx K1
   go_upto_region 7 with fail
   refine Qh (λUz0=>Lb w p (some ⟨b,o,none⟩) [s] bd [box 120 3 H [U O x,U O 0,G false],box 120 3 g [U O 0,U O 0,G false]] Uz0) (j.o.set 0 (U O x)) ?_
   intro V2 A
   replace j:=Hm A;clear A ad aa E;have I:=Hm (QG p bd _ j.o.pb)
   go_wp2_with fail
   refine I.o.mono ?_
   rintro e wb ⟨rfl,F,m⟩;replace j:=Hm (j.o.call F m);clear F m I;have f:=j.o;have r0:=(f.b0 0).1;have r1:=(f.b0 1).1;have r2:=(f.b0 2).1;have d:=f.perm (Kq _ _ _);obtain⟨s0,t0⟩:=d.b0 0;obtain⟨s1,t1⟩:=d.b0 1;obtain⟨s2,t2⟩:=d.b0 2;have HF:=Hm (((d.set 0 (U O x)).set 1 (U O 0)).set 2 (G false));clear f d j
   go_wp2
   refine Jp (λB=>Lb w p (some ⟨b,o,none⟩) [s] true (box 120 3 g [U O x,U O 0,G false]::[box 120 3 H [U O x,U O 0,G false]]) B) HF.o ?_
   intro B k
   have R:=(k.b0 0).1;have M:=(k.b0 1).1;have L:=(k.b0 2).1
   refine bodyPost_ret (v:=XO ⟨x,0,false⟩) (by simp[results,results70,go_sem,R,M,L,XO]) rfl ⟨⟨x,0,false⟩,rfl,?_,k.g,?_⟩
   . simpa[Q5,okU,q.o]using k.pb
   . intro y _ D
     simp[Q5,okU,q.o]at D
  |true =>
   obtain⟨ad,aa⟩:=j.o.b0 0;have E:=j.o.wd 0 (x:=s) rfl
   simp only[Hc]at E
   have K1:=Hm (JM s V (by have:=HL.o s (by simp);omega));have q:=Hm hk1;rw[hk1]at K1;clear hk1
   go_enter func70,ntmps70
   go_upto_region 2 with fail
   rw[<- hV,<- r,<- hg];clear hV hg r
   go_wp2_with fail
   refine K1.o.mono ?_
   rintro e w1 ⟨rfl,x,rfl,hx⟩;have HX:=Hm hx;clear hx K1
   go_upto_region 7 with fail
   refine Qh (λUz0=>Lb w p (some ⟨b,o,none⟩) [s] bd [box 120 3 H [U O x,U O 0,G false],box 120 3 g [U O 0,U O 0,G false]] Uz0) (j.o.set 0 (U O x)) ?_
   intro V2 A
   replace j:=Hm A;clear A ad aa E;have f:=j.o;have r0:=(f.b0 0).1;have r1:=(f.b0 1).1;have r2:=(f.b0 2).1;have d:=f.perm (Kq _ _ _);obtain⟨s0,t0⟩:=d.b0 0;obtain⟨s1,t1⟩:=d.b0 1;obtain⟨s2,t2⟩:=d.b0 2;have HF:=Hm (((d.set 0 (U O x)).set 1 (U O 0)).set 2 (G false));clear f d j
   go_wp2
   refine Jp (λB=>Lb w p (some ⟨b,o,none⟩) [s] bd (box 120 3 g [U O x,U O 0,G false]::[box 120 3 H [U O x,U O 0,G false]]) B) HF.o ?_
   intro B k
   have R:=(k.b0 0).1;have M:=(k.b0 1).1;have L:=(k.b0 2).1
   refine bodyPost_ret (v:=XO ⟨x,0,false⟩) (by simp[results,results70,go_sem,R,M,L,XO]) rfl ⟨⟨x,0,false⟩,rfl,?_,k.g,?_⟩
   . simpa[Q5,okU,q.o]using k.pb
   . intro y _ D
     simp[Q5,okU,q.o]at D
     rw[<- D]
     simp[nv,HX.o trivial]
 |[s,t],hW,j,HL =>
  obtain⟨b,o,rfl⟩:=hW.at (by simp);clear hW
  simp only[Kj,Kg,Kk]
  cases hk1:okN 0 4294967295 s with
  |false =>
   obtain⟨ad,aa⟩:=j.o.b0 0;have E:=j.o.wd 0 (x:=s) rfl
   simp only[Hc]at E
   have K1:=Hm (JM s V (by have:=HL.o s (by simp);omega));have q:=Hm hk1;rw[hk1]at K1;clear hk1
   go_enter func70,ntmps70
   go_upto_region 2 with fail
   rw[<- hV,<- r,<- hg];clear hV hg r
   go_wp2_with fail
   refine K1.o.mono ?_
   rintro e w1 ⟨rfl,x,rfl,hx⟩;have HX:=Hm hx;clear hx K1
   go_upto_region 7 with fail
   refine Qh (λUz0=>Lb w p (some ⟨b,o,none⟩) [s,t] bd [box 120 3 H [U O x,U O 0,G false],box 120 3 g [U O 0,U O 0,G false]] Uz0) (j.o.set 0 (U O x)) ?_
   intro V2 A
   replace j:=Hm A;clear A ad aa E;have I:=Hm (QG p bd _ j.o.pb)
   go_wp2_with fail
   refine I.o.mono ?_
   rintro e wb ⟨rfl,F,m⟩;replace j:=Hm (j.o.call F m);clear F m I
   cases hk2:okN 0 4294967295 t with
   |false =>
    obtain⟨ac,Y⟩:=j.o.b0 1;obtain⟨ab,X⟩:=j.o.b0 2;have E:=j.o.wd 1 (x:=t) rfl;have K2:=Hm (JM t _ (by have:=HL.o t (by simp);omega):Ec Q 138 #[Xs (Sz0 t)] wb _);have C:=Hm hk2;rw[hk2]at K2;clear hk2
    go_wp2_with fail
    refine K2.o.mono ?_
    rintro e w1 ⟨rfl,y,rfl,D⟩;have HY:=Hm D;clear D K2
    go_upto_region 13 with fail
    refine Qh (λUz0=>Lb w p (some ⟨b,o,none⟩) [s,t] true [box 120 3 H [U O x,U O y,G true],box 120 3 g [U O 0,U O 0,G false]] Uz0) ((j.o.set 1 (U O y)).set 2 (G true)) ?_
    intro V3 z
    replace j:=Hm z;clear z ac Y ab X E;have I:=Hm (QG p true _ j.o.pb)
    go_wp2_with fail
    refine I.o.mono ?_
    rintro e wb ⟨rfl,F,m⟩;replace j:=Hm (j.o.call F m);clear F m I;have f:=j.o;have r0:=(f.b0 0).1;have r1:=(f.b0 1).1;have r2:=(f.b0 2).1;have d:=f.perm (Kq _ _ _);obtain⟨s0,t0⟩:=d.b0 0;obtain⟨s1,t1⟩:=d.b0 1;obtain⟨s2,t2⟩:=d.b0 2;have HF:=Hm (((d.set 0 (U O x)).set 1 (U O y)).set 2 (G true));clear f d j
    go_wp2
    refine Jp (λB=>Lb w p (some ⟨b,o,none⟩) [s,t] true (box 120 3 g [U O x,U O y,G true]::[box 120 3 H [U O x,U O y,G true]]) B) HF.o ?_
    intro B k
    have R:=(k.b0 0).1;have M:=(k.b0 1).1;have L:=(k.b0 2).1
    refine bodyPost_ret (v:=XO ⟨x,y,true⟩) (by simp[results,results70,go_sem,R,M,L,XO]) rfl ⟨⟨x,y,true⟩,rfl,?_,k.g,?_⟩
    . simpa[Q5,okU,q.o,C.o]using k.pb
    . intro v _ hv
      simp[Q5,okU,q.o,C.o]at hv
   |true =>
    obtain⟨ac,Y⟩:=j.o.b0 1;obtain⟨ab,X⟩:=j.o.b0 2;have E:=j.o.wd 1 (x:=t) rfl;have K2:=Hm (JM t _ (by have:=HL.o t (by simp);omega):Ec Q 138 #[Xs (Sz0 t)] wb _);have C:=Hm hk2;rw[hk2]at K2;clear hk2
    go_wp2_with fail
    refine K2.o.mono ?_
    rintro e w1 ⟨rfl,y,rfl,D⟩;have HY:=Hm D;clear D K2
    go_upto_region 13 with fail
    refine Qh (λUz0=>Lb w p (some ⟨b,o,none⟩) [s,t] true [box 120 3 H [U O x,U O y,G true],box 120 3 g [U O 0,U O 0,G false]] Uz0) ((j.o.set 1 (U O y)).set 2 (G true)) ?_
    intro V3 z
    replace j:=Hm z;clear z ac Y ab X E;have f:=j.o;have r0:=(f.b0 0).1;have r1:=(f.b0 1).1;have r2:=(f.b0 2).1;have d:=f.perm (Kq _ _ _);obtain⟨s0,t0⟩:=d.b0 0;obtain⟨s1,t1⟩:=d.b0 1;obtain⟨s2,t2⟩:=d.b0 2;have HF:=Hm (((d.set 0 (U O x)).set 1 (U O y)).set 2 (G true));clear f d j
    go_wp2
    refine Jp (λB=>Lb w p (some ⟨b,o,none⟩) [s,t] true (box 120 3 g [U O x,U O y,G true]::[box 120 3 H [U O x,U O y,G true]]) B) HF.o ?_
    intro B k
    have R:=(k.b0 0).1;have M:=(k.b0 1).1;have L:=(k.b0 2).1
    refine bodyPost_ret (v:=XO ⟨x,y,true⟩) (by simp[results,results70,go_sem,R,M,L,XO]) rfl ⟨⟨x,y,true⟩,rfl,?_,k.g,?_⟩
    . simpa[Q5,okU,q.o,C.o]using k.pb
    . intro v _ hv
      simp[Q5,okU,q.o,C.o]at hv
  |true =>
   obtain⟨ad,aa⟩:=j.o.b0 0;have E:=j.o.wd 0 (x:=s) rfl
   simp only[Hc]at E
   have K1:=Hm (JM s V (by have:=HL.o s (by simp);omega));have q:=Hm hk1;rw[hk1]at K1;clear hk1
   go_enter func70,ntmps70
   go_upto_region 2 with fail
   rw[<- hV,<- r,<- hg];clear hV hg r
   go_wp2_with fail
   refine K1.o.mono ?_
   rintro e w1 ⟨rfl,x,rfl,hx⟩;have HX:=Hm hx;clear hx K1
   go_upto_region 7 with fail
   refine Qh (λUz0=>Lb w p (some ⟨b,o,none⟩) [s,t] bd [box 120 3 H [U O x,U O 0,G false],box 120 3 g [U O 0,U O 0,G false]] Uz0) (j.o.set 0 (U O x)) ?_
   intro V2 A
   replace j:=Hm A;clear A ad aa E
   cases hk2:okN 0 4294967295 t with
   |false =>
    obtain⟨ac,Y⟩:=j.o.b0 1;obtain⟨ab,X⟩:=j.o.b0 2;have E:=j.o.wd 1 (x:=t) rfl;have K2:=Hm (JM t _ (by have:=HL.o t (by simp);omega):Ec Q 138 #[Xs (Sz0 t)] V2 _);have C:=Hm hk2;rw[hk2]at K2;clear hk2
    go_wp2_with fail
    refine K2.o.mono ?_
    rintro e w1 ⟨rfl,y,rfl,D⟩;have HY:=Hm D;clear D K2
    go_upto_region 13 with fail
    refine Qh (λUz0=>Lb w p (some ⟨b,o,none⟩) [s,t] bd [box 120 3 H [U O x,U O y,G true],box 120 3 g [U O 0,U O 0,G false]] Uz0) ((j.o.set 1 (U O y)).set 2 (G true)) ?_
    intro V3 z
    replace j:=Hm z;clear z ac Y ab X E;have I:=Hm (QG p bd _ j.o.pb)
    go_wp2_with fail
    refine I.o.mono ?_
    rintro e wb ⟨rfl,F,m⟩;replace j:=Hm (j.o.call F m);clear F m I;have f:=j.o;have r0:=(f.b0 0).1;have r1:=(f.b0 1).1;have r2:=(f.b0 2).1;have d:=f.perm (Kq _ _ _);obtain⟨s0,t0⟩:=d.b0 0;obtain⟨s1,t1⟩:=d.b0 1;obtain⟨s2,t2⟩:=d.b0 2;have HF:=Hm (((d.set 0 (U O x)).set 1 (U O y)).set 2 (G true));clear f d j
    go_wp2
    refine Jp (λB=>Lb w p (some ⟨b,o,none⟩) [s,t] true (box 120 3 g [U O x,U O y,G true]::[box 120 3 H [U O x,U O y,G true]]) B) HF.o ?_
    intro B k
    have R:=(k.b0 0).1;have M:=(k.b0 1).1;have L:=(k.b0 2).1
    refine bodyPost_ret (v:=XO ⟨x,y,true⟩) (by simp[results,results70,go_sem,R,M,L,XO]) rfl ⟨⟨x,y,true⟩,rfl,?_,k.g,?_⟩
    . simpa[Q5,okU,q.o,C.o]using k.pb
    . intro v _ hv
      simp[Q5,okU,q.o,C.o]at hv
   |true =>
    obtain⟨ac,Y⟩:=j.o.b0 1;obtain⟨ab,X⟩:=j.o.b0 2;have E:=j.o.wd 1 (x:=t) rfl;have K2:=Hm (JM t _ (by have:=HL.o t (by simp);omega):Ec Q 138 #[Xs (Sz0 t)] V2 _);have C:=Hm hk2;rw[hk2]at K2;clear hk2
    go_wp2_with fail
    refine K2.o.mono ?_
    rintro e w1 ⟨rfl,y,rfl,D⟩;have HY:=Hm D;clear D K2
    go_upto_region 13 with fail
    refine Qh (λUz0=>Lb w p (some ⟨b,o,none⟩) [s,t] bd [box 120 3 H [U O x,U O y,G true],box 120 3 g [U O 0,U O 0,G false]] Uz0) ((j.o.set 1 (U O y)).set 2 (G true)) ?_
    intro V3 z
    replace j:=Hm z;clear z ac Y ab X E;have f:=j.o;have r0:=(f.b0 0).1;have r1:=(f.b0 1).1;have r2:=(f.b0 2).1;have d:=f.perm (Kq _ _ _);obtain⟨s0,t0⟩:=d.b0 0;obtain⟨s1,t1⟩:=d.b0 1;obtain⟨s2,t2⟩:=d.b0 2;have HF:=Hm (((d.set 0 (U O x)).set 1 (U O y)).set 2 (G true));clear f d j
    go_wp2
    refine Jp (λB=>Lb w p (some ⟨b,o,none⟩) [s,t] bd (box 120 3 g [U O x,U O y,G true]::[box 120 3 H [U O x,U O y,G true]]) B) HF.o ?_
    intro B k
    have R:=(k.b0 0).1;have M:=(k.b0 1).1;have L:=(k.b0 2).1
    refine bodyPost_ret (v:=XO ⟨x,y,true⟩) (by simp[results,results70,go_sem,R,M,L,XO]) rfl ⟨⟨x,y,true⟩,rfl,?_,k.g,?_⟩
    . simpa[Q5,okU,q.o,C.o]using k.pb
    . intro v _ hv
      simp[Q5,okU,q.o,C.o]at hv
      rw[<- hv]
      simp[nv,HX.o trivial,HY.o trivial]
 |s::t::u::l,hW,j,HL =>
  clear hW HL;obtain⟨n,hn⟩:∃n,n=(s::t::u::l).length:=⟨_,rfl⟩;rw[<- hn];have a8:¬(n:Int)<1:=by simp at hn;omega
  have a7:(2:Int)<(n:Int):=by simp at hn;omega
  clear hn
  go_enter func70,ntmps70
  go_upto_region 2 with fail
  rw[<- hV,<- r,<- hg];clear hV hg r;have I:=Hm (QG p bd _ j.o.pb)
  go_wp2_with fail
  refine I.o.mono ?_
  rintro e wb ⟨rfl,F,m⟩;replace j:=Hm (j.o.call F m);clear F m I;have f:=j.o;have r0:=(f.b0 0).1;have r1:=(f.b0 1).1;have r2:=(f.b0 2).1;have d:=f.perm (Kq _ _ _);obtain⟨s0,t0⟩:=d.b0 0;obtain⟨s1,t1⟩:=d.b0 1;obtain⟨s2,t2⟩:=d.b0 2;have HF:=Hm (((d.set 0 (U O 0)).set 1 (U O 0)).set 2 (G false));clear f d j
  go_wp2
  refine Jp (λB=>Lb w p a (s::t::u::l) true (box 120 3 g [U O 0,U O 0,G false]::[box 120 3 H [U O 0,U O 0,G false]]) B) HF.o ?_
  intro B k
  have R:=(k.b0 0).1;have M:=(k.b0 1).1;have L:=(k.b0 2).1
  refine bodyPost_ret (v:=XO ⟨0,0,false⟩) (by simp[results,results70,go_sem,R,M,L,XO]) rfl ⟨⟨0,0,false⟩,rfl,?_,k.g,?_⟩
  . simpa[Q5]using k.pb
  . intro y _ D
    simp[Q5]at D
def gtW (x:Q8):Vu:=Ag #[U O x.ty,G x.mu]
def cW:Wd:=[99,111,110,115,116]
def vW:Wd:=[118,97,114]
theorem cW_eq (s:Wd):((Sz0 s).toList==[99,111,110,115,116])=decide (s=cW):=by
 have:=Xt s cW;rwa [show(Sz0 cW).toList=[99,111,110,115,116] by rw[ByteArray.toList_eq,QB];rfl]at this
theorem vW_eq (s:Wd):((Sz0 s).toList==[118,97,114])=decide (s=vW):=by
 have:=Xt s vW;rwa [show(Sz0 vW).toList=[118,97,114] by rw[ByteArray.toList_eq,QB];rfl]at this
theorem okM_no {m:Wd}(h1:m≠cW)(b:m≠vW):okM m=false:=by
 unfold okM;rw[lkL_no];· rfl
 intro i a;have:i=0\/i=1:=by simp[mtL]at a;omega
 rcases this with rfl|rfl
 . exact λe=>h1 e.symm
 exact λe=>b e.symm
theorem mglob_c (p:Nat)(a:Option Ad)(c:Nat)(ws:List Wd)(bd:Bool)(w:J)(h:Pb w p bd)(L:Wv w a p ws):Ec Q 71 #[ptr p 0,S a (N ws) c] w (MsP gtF gtW p ws bd w):=by
 obtain⟨g,B⟩:∃g,g=w.heap.size:=⟨_,rfl⟩;obtain⟨V,C⟩:∃V,V=w.alloc (Fc #[U O 0,G false] 74):=⟨_,rfl⟩;have d:Hid (Lb w p a ws bd [box 74 2 g [U O 0,G false]] V):=by have:=(Lb.start h L).box (cur:=#[U O 0,G false]) 74 2 rfl;rw[C,B];refine Hm ?_;simpa using this
 clear h;match ws,L,d with
 |[],L,d =>
  clear L
  simp only[Kg]
  go_enter func71,ntmps71
  go_upto_region 1 with fail
  rw[<- C,<- B];clear C B;have D:=Hm (QG p bd _ d.o.pb)
  go_wp2_with fail
  refine D.o.mono ?_
  rintro e wb ⟨rfl,A,j⟩;replace d:=Hm (d.o.call A j);clear A j D;obtain⟨s0,t0⟩:=d.o.b0 0;obtain⟨s1,Y⟩:=d.o.b0 1;have H:=Hm ((d.o.set 0 (U O 0)).set 1 (G false));clear d
  go_wp2
  refine Jp (λq=>Lb w p a [] true [box 74 2 g [U O 0,G false]] q) H.o ?_
  intro q f
  have F:=(f.b0 0).1;have E:=(f.b0 1).1
  refine bodyPost_ret (v:=gtW ⟨0,false⟩) (by simp[results,results71,go_sem,F,E,gtW]) rfl ⟨⟨0,false⟩,rfl,?_,f.g,?_⟩
  . simpa[gtF]using f.pb
  . intro y _ z
    simp[gtF]at z
 |[s],L,d =>
  clear L
  simp only[Kj,Kg,Kk]
  go_enter func71,ntmps71
  go_upto_region 1 with fail
  rw[<- C,<- B];clear C B;have D:=Hm (QG p bd _ d.o.pb)
  go_wp2_with fail
  refine D.o.mono ?_
  rintro e wb ⟨rfl,A,j⟩;replace d:=Hm (d.o.call A j);clear A j D;obtain⟨s0,t0⟩:=d.o.b0 0;obtain⟨s1,Y⟩:=d.o.b0 1;have H:=Hm ((d.o.set 0 (U O 0)).set 1 (G false));clear d
  go_wp2
  refine Jp (λq=>Lb w p a [s] true [box 74 2 g [U O 0,G false]] q) H.o ?_
  intro q f
  have F:=(f.b0 0).1;have E:=(f.b0 1).1
  refine bodyPost_ret (v:=gtW ⟨0,false⟩) (by simp[results,results71,go_sem,F,E,gtW]) rfl ⟨⟨0,false⟩,rfl,?_,f.g,?_⟩
  . simpa[gtF]using f.pb
  . intro y _ z
    simp[gtF]at z
 |[s,m],L,d =>
  obtain⟨b,o,rfl⟩:=L.at (by simp);clear L
  simp only[Kj,Kg,Kk]
  have X:=d.o.wd 0 (x:=s) rfl
  simp only[Hc]at X
  have R:=d.o.wd 1 (x:=m) rfl
  by_cases k:m=cW
  . have hc:=cW_eq m;have hv:=vW_eq m;rw[show decide (m=cW)=true by rw[k];decide]at hc;rw[show decide (m=vW)=false by rw[k];decide]at hv;have I:=Hm k;clear k
    cases hkt:(!(tyN s==0))with
    |false =>
     have M:=Hm (sty_c s V);have r:=Hm hkt;rw[hkt]at M;clear hkt
     go_enter func71,ntmps71
     go_upto_region 1 with fail
     rw[<- C,<- B];clear C B
     go_wp2_with fail
     refine M.o.mono ?_
     rintro e w1 ⟨rfl,rfl⟩;clear X R;have D:=Hm (QG p bd _ d.o.pb)
     go_wp2_with fail
     refine D.o.mono ?_
     rintro e wb ⟨rfl,A,j⟩;replace d:=Hm (d.o.call A j);clear A j D;have R:=d.o.wd 1 (x:=m) rfl;obtain⟨s0,t0⟩:=d.o.b0 0;obtain⟨s1,Y⟩:=d.o.b0 1;have H:=Hm ((d.o.set 0 (U O (tyN s))).set 1 (G false));clear d
     go_wp2
     refine Jp (λq=>Lb w p (some ⟨b,o,none⟩) [s,m] true [box 74 2 g [U O (tyN s),G false]] q) H.o ?_
     intro q f
     have F:=(f.b0 0).1;have E:=(f.b0 1).1
     refine bodyPost_ret (v:=gtW ⟨(tyN s),false⟩) (by simp[results,results71,go_sem,F,E,gtW]) rfl ⟨⟨(tyN s),false⟩,rfl,?_,f.g,?_⟩
     . have k:=(by rw[I.o];decide:okM m=true)
       simpa[gtF,okT,k,r.o]using f.pb
     . intro y _ z
       have k:=(by rw[I.o];decide:okM m=true)
       simp[gtF,okT,k,r.o]at z
    |true =>
     have M:=Hm (sty_c s V);have r:=Hm hkt;rw[hkt]at M;clear hkt
     go_enter func71,ntmps71
     go_upto_region 1 with fail
     rw[<- C,<- B];clear C B
     go_wp2_with fail
     refine M.o.mono ?_
     rintro e w1 ⟨rfl,rfl⟩;obtain⟨s0,t0⟩:=d.o.b0 0;obtain⟨s1,Y⟩:=d.o.b0 1;have H:=Hm ((d.o.set 0 (U O (tyN s))).set 1 (G false));clear d
     go_wp2
     refine Jp (λq=>Lb w p (some ⟨b,o,none⟩) [s,m] bd [box 74 2 g [U O (tyN s),G false]] q) H.o ?_
     intro q f
     have F:=(f.b0 0).1;have E:=(f.b0 1).1
     refine bodyPost_ret (v:=gtW ⟨(tyN s),false⟩) (by simp[results,results71,go_sem,F,E,gtW]) rfl ⟨⟨(tyN s),false⟩,rfl,?_,f.g,?_⟩
     . have k:=(by rw[I.o];decide:okM m=true)
       simpa[gtF,okT,k,r.o]using f.pb
     . intro y _ z
       have k:=(by rw[I.o];decide:okM m=true)
       simp[gtF,okT,k,r.o]at z
       rw[<- z,I.o]
       rfl
  have h1:=k;clear k
  by_cases k:m=vW
  . have hc:=cW_eq m;have hv:=vW_eq m;rw[show decide (m=cW)=false by rw[k];decide]at hc;rw[show decide (m=vW)=true by rw[k];decide]at hv;have I:=Hm k;clear k
    cases hkt:(!(tyN s==0))with
    |false =>
     have M:=Hm (sty_c s V);have r:=Hm hkt;rw[hkt]at M;clear hkt
     go_enter func71,ntmps71
     go_upto_region 1 with fail
     rw[<- C,<- B];clear C B
     go_wp2_with fail
     refine M.o.mono ?_
     rintro e w1 ⟨rfl,rfl⟩;clear X R;have D:=Hm (QG p bd _ d.o.pb)
     go_wp2_with fail
     refine D.o.mono ?_
     rintro e wb ⟨rfl,A,j⟩;replace d:=Hm (d.o.call A j);clear A j D;have R:=d.o.wd 1 (x:=m) rfl;obtain⟨s0,t0⟩:=d.o.b0 0;obtain⟨s1,Y⟩:=d.o.b0 1;have H:=Hm ((d.o.set 0 (U O (tyN s))).set 1 (G true));clear d
     go_wp2
     refine Jp (λq=>Lb w p (some ⟨b,o,none⟩) [s,m] true [box 74 2 g [U O (tyN s),G true]] q) H.o ?_
     intro q f
     have F:=(f.b0 0).1;have E:=(f.b0 1).1
     refine bodyPost_ret (v:=gtW ⟨(tyN s),true⟩) (by simp[results,results71,go_sem,F,E,gtW]) rfl ⟨⟨(tyN s),true⟩,rfl,?_,f.g,?_⟩
     . have k:=(by rw[I.o];decide:okM m=true)
       simpa[gtF,okT,k,r.o]using f.pb
     . intro y _ z
       have k:=(by rw[I.o];decide:okM m=true)
       simp[gtF,okT,k,r.o]at z
    |true =>
     have M:=Hm (sty_c s V);have r:=Hm hkt;rw[hkt]at M;clear hkt
     go_enter func71,ntmps71
     go_upto_region 1 with fail
     rw[<- C,<- B];clear C B
     go_wp2_with fail
     refine M.o.mono ?_
     rintro e w1 ⟨rfl,rfl⟩;obtain⟨s0,t0⟩:=d.o.b0 0;obtain⟨s1,Y⟩:=d.o.b0 1;have H:=Hm ((d.o.set 0 (U O (tyN s))).set 1 (G true));clear d
     go_wp2
     refine Jp (λq=>Lb w p (some ⟨b,o,none⟩) [s,m] bd [box 74 2 g [U O (tyN s),G true]] q) H.o ?_
     intro q f
     have F:=(f.b0 0).1;have E:=(f.b0 1).1
     refine bodyPost_ret (v:=gtW ⟨(tyN s),true⟩) (by simp[results,results71,go_sem,F,E,gtW]) rfl ⟨⟨(tyN s),true⟩,rfl,?_,f.g,?_⟩
     . have k:=(by rw[I.o];decide:okM m=true)
       simpa[gtF,okT,k,r.o]using f.pb
     . intro y _ z
       have k:=(by rw[I.o];decide:okM m=true)
       simp[gtF,okT,k,r.o]at z
       rw[<- z,I.o]
       rfl
  have h2:=k;clear k;have hc:=cW_eq m;have hv:=vW_eq m;rw[decide_eq_false h1]at hc;rw[decide_eq_false h2]at hv;have I:=Hm (okM_no h1 h2);clear h1 h2
  go_enter func71,ntmps71
  go_upto_region 1 with fail
  rw[<- C,<- B];clear C B;clear X;have D:=Hm (QG p bd _ d.o.pb)
  go_wp2_with fail
  refine D.o.mono ?_
  rintro e wb ⟨rfl,A,j⟩;replace d:=Hm (d.o.call A j);clear A j D;obtain⟨s0,t0⟩:=d.o.b0 0;obtain⟨s1,Y⟩:=d.o.b0 1;have H:=Hm ((d.o.set 0 (U O 0)).set 1 (G false));clear d
  go_wp2
  refine Jp (λq=>Lb w p (some ⟨b,o,none⟩) [s,m] true [box 74 2 g [U O 0,G false]] q) H.o ?_
  intro q f
  have F:=(f.b0 0).1;have E:=(f.b0 1).1
  refine bodyPost_ret (v:=gtW ⟨0,false⟩) (by simp[results,results71,go_sem,F,E,gtW]) rfl ⟨⟨0,false⟩,rfl,?_,f.g,?_⟩
  . simpa[gtF,I.o]using f.pb
  . intro y _ z
    simp[gtF,I.o]at z
 |s::t::u::l,L,d =>
  clear L;obtain⟨n,hn⟩:∃n,n=(s::t::u::l).length:=⟨_,rfl⟩;rw[<- hn];have ai:¬(n:Int)=2:=by simp at hn;omega
  clear hn
  go_enter func71,ntmps71
  go_upto_region 1 with fail
  rw[<- C,<- B];clear C B;have D:=Hm (QG p bd _ d.o.pb)
  go_wp2_with fail
  refine D.o.mono ?_
  rintro e wb ⟨rfl,A,j⟩;replace d:=Hm (d.o.call A j);clear A j D;obtain⟨s0,t0⟩:=d.o.b0 0;obtain⟨s1,Y⟩:=d.o.b0 1;have H:=Hm ((d.o.set 0 (U O 0)).set 1 (G false));clear d
  go_wp2
  refine Jp (λq=>Lb w p a (s::t::u::l) true [box 74 2 g [U O 0,G false]] q) H.o ?_
  intro q f
  have F:=(f.b0 0).1;have E:=(f.b0 1).1
  refine bodyPost_ret (v:=gtW ⟨0,false⟩) (by simp[results,results71,go_sem,F,E,gtW]) rfl ⟨⟨0,false⟩,rfl,?_,f.g,?_⟩
  . simpa[gtF]using f.pb
  . intro y _ z
    simp[gtF]at z
end YtejkdbnngphgaaaGreatDoor.Yz
namespace YtejkdbnngphgaaaGreatDoor.Yz
open Go.RowKit Go.Sort
variable [PK]
theorem impF_no {ws:List Wd}(h:N ws<4):Xy ws=none:=by
 match ws,h with
 |[],_=>rfl
 |[_],_=>rfl
 |[_,_],_=>rfl
 |[a,b,c],_ =>
  simp only[Xy,pre3]
  split
  · simp[XD,uF,if1,gtF,Q5]
  . rfl
 |_::_::_::_::_,h=>simp at h;omega
theorem impF_eq (s t k:Wd)(r:List Wd):Xy (s::t::k::r)=if JA s&&(JA t&&okK k)then XD s t k r else none:=rfl
theorem mimp_c (D:Nat)(w0:J)(zs:List (Nat × Obj))(p:Nat)(cells:List Vu)(X:List Qb)(m:Mod)(w:J)(a:Option Ad)(c:Nat)(ws:List Wd)(h:Rd2 D w0 zs p cells X m w a c ws)(hz:N m.cj<=1048576):Ec Q 68 #[ptr p 0,S a (N ws) c] w (EnM ((Xy ws).map λx=>{ m with cj:=m.cj++[x] }) D w0 zs p cells X):=by
 have HR:=Hm h.lb;have HH:=Hm h;by_cases h4:N ws<4
 . (have ck:(N ws:Int)<4:=by omega);have HF:=Hm (impF_no h4);clear h h4;go_enter func68,ntmps68;have KB:=Hm (QG p false _ HR.o.pb);(go_wp2_with fail);refine KB.o.mono ?_;rintro e wb ⟨rfl,A,l⟩;replace HR:=Hm (HR.o.call A l);clear A l KB;go_wp2;refine bodyPost_ret (results_none rfl _ _ _) rfl ?_;exact HH.o.bads HR.o (by rw[HF.o];rfl)
 obtain⟨s,t,k,r,rfl⟩:∃s t k r,ws=s::t::k::r:=by
  match ws,h4 with
  |s::t::k::r,_=>exact⟨s,t,k,r,rfl⟩
  |[],h=>simp at h
  |[_],h=>simp at h
  |[_,_],h=>simp at h
 obtain⟨b,o,rfl⟩:=h.wv.at (by simp);have K1:=Hm (λW=>mkind_c k W);have cw:=HR.o.wd 2 (x:=k) rfl;obtain⟨n,hn⟩:∃n,n=(s::t::k::r).length:=⟨_,rfl⟩;have ch:1<=N r:=by simp at h4;omega
 have bv:n=N r+3:=by rw[hn];simp
 have ck:¬(n:Int)<4:=by omega
 have dn:¬(n:Int)<3:=by omega
 have dp:n<=c:=by have:=h.hc;omega
 rw[<- hn];have dc:=Hm (And.intro hn bv);obtain⟨q,hq⟩:∃q,q=kdM k:=⟨_,rfl⟩;have HQ:=Hm hq;rw[<- hq]at K1;clear h h4 hn bv hq ch;go_enter func68,ntmps68;go_wp2_with fail
 refine(K1.o _).mono ?_;rintro e w1 ⟨rfl,bz⟩;replace HR:=Hm (HR.o.keep bz);clear bz;clear cw K1;go_upto_region 3 with fail
 obtain⟨g,hg⟩:∃g,g=w1.heap.size:=⟨_,rfl⟩;obtain⟨V1,a9⟩:∃V,V=w1.alloc (Fc #[Xs ⟨#[]⟩,Xs ⟨#[]⟩,U O q,U O 0,U O 0,U O 0,G false,U O 0,G false] 143):=⟨_,rfl⟩;have d:Hid (Lb w p (some ⟨b,o,none⟩) (s::t::k::r) false [box 143 9 g [Xs ⟨#[]⟩,Xs ⟨#[]⟩,U O q,U O 0,U O 0,U O 0,G false,U O 0,G false]] V1):=by refine Hm ?_;rw[a9,hg];exact HR.o.box (cur:=#[Xs ⟨#[]⟩,Xs ⟨#[]⟩,U O q,U O 0,U O 0,U O 0,G false,U O 0,G false]) 143 9 rfl
 rw[<- a9,<- hg];clear a9 hg HR;have cw:=d.o.wd 0 (x:=s) rfl;simp only[Hc]at cw;obtain⟨z1,v⟩:∃z',z'=(false || !JA s):=⟨_,rfl⟩;have b8:=Hm v;clear v;have I:=Hm (mname_c p s false V1 d.o.pb (HH.o.hl s (by simp)));go_wp2_with fail
 refine I.o.mono ?_;rintro e w3 ⟨R,rfl,A,l,hy⟩;rw[<- b8.o]at A;have db:=Hm hy;replace d:=Hm (d.o.call A l);clear A l hy I cw;obtain⟨c8,cz⟩:=d.o.b0 0;go_upto_region 4 with fail
 refine Qh (λUz0=>Lb w p (some ⟨b,o,none⟩) (s::t::k::r) z1 [box 143 9 g [Xs (Sz0 R),Xs ⟨#[]⟩,U O q,U O 0,U O 0,U O 0,G false,U O 0,G false]] Uz0) (d.o.set 0 (Xs (Sz0 R))) ?_;intro V2 aq;replace d:=Hm aq;clear aq c8 cz;have cw:=d.o.wd 1 (x:=t) rfl;obtain⟨z2,v⟩:∃z',z'=(z1 || !JA t):=⟨_,rfl⟩;have b7:=Hm v;clear v;have I:=Hm (mname_c p t z1 V2 d.o.pb (HH.o.hl t (by simp)));go_wp2_with fail
 refine I.o.mono ?_;rintro e w4 ⟨Y,rfl,A,l,hy⟩;rw[<- b7.o]at A;have da:=Hm hy;replace d:=Hm (d.o.call A l);clear A l hy I cw;obtain⟨c7,cy⟩:=d.o.b0 1;go_upto_region 5 with fail
 refine Qh (λUz0=>Lb w p (some ⟨b,o,none⟩) (s::t::k::r) z2 [box 143 9 g [Xs (Sz0 R),Xs (Sz0 Y),U O q,U O 0,U O 0,U O 0,G false,U O 0,G false]] Uz0) (d.o.set 1 (Xs (Sz0 Y))) ?_;intro V3 aq;replace d:=Hm aq;clear aq c7 cy;have c2:=(d.o.b0 2).1;rename_i Kr ba Ks co;have KE:Hid (∀(a0:Act) (W0:J) (B:Bool) (ty mn mx gt:Int) (hs gm:Bool),a0.tmps.size=65->a0.defers=[]->a0.tmps[0]?.getD undef=ptr p 0->a0.tmps[4]?.getD undef=ptr g 0->Lb w p (some ⟨b,o,none⟩) (s::t::k::r) B [box 143 9 g [Xs (Sz0 R),Xs (Sz0 Y),U O q,U O ty,U O mn,U O mx,G hs,U O gt,G gm]] W0->(B=true->Xy (s::t::k::r)=none)->(B=false->Xy (s::t::k::r)=some { mod:=Sz0 R,nm:=Sz0 Y,kind:=q,ty:=ty,lim:=⟨mn,mx,hs⟩,gl:=⟨gt,gm⟩ })->Kr a0 W0):=by
  refine Hm ?_;intro a0 W0 B ty mn mx gt hs gm hN hD E h4 hR ax aw;refine ba _ _ ?_;obtain⟨L,ah,bw⟩:=HH.o.ex;obtain⟨vl,cl,kk,e1,av,pm⟩:=ah.cj.at_;obtain⟨n,hn⟩:∃n,n=N m.cj:=⟨_,rfl⟩;have HN:Hid (n<=1048576):=Hm (by omega);obtain⟨C,ao⟩:∃cs,cs=cells.set 19 (G B):=⟨_,rfl⟩;have HC:Hid (C[1]?=some vl):=Hm (by rw[ao,Kz (by decide)];exact e1);obtain⟨aj,hr⟩:∃r,r=[]++((L.eraseIdx 1).flatten++kk++X):=⟨_,rfl⟩;have HM:Hid (Mq D w0 zs (rB p C::⟨143,9,n,vl,cl⟩::box 143 9 g [Xs (Sz0 R),Xs (Sz0 Y),U O q,U O ty,U O mn,U O mx,G hs,U O gt,G gm]::aj) W0):=by refine Hm ?_;rw[ao,hr,hn];exact(hR.backq bw HH.o.hk).perm ((((Je pm).cons _).trans (Kq _ _ _)).cons _)
  have HE:=Hm (And.intro ah (And.intro av (And.intro ao (And.intro hr (And.intro hn (And.intro ax aw))))));clear ah bw e1 av pm hn ao hr hz hR ax aw ba co c2 d;refine Rp.rg (nN:=65) [ptr p 0,ptr p 0,ptr p 0,ptr p 0,ptr p 1,vl,Ag #[Xs (Sz0 R),Xs (Sz0 Y),U O q,U O ty,U O mn,U O mx,G hs,U O gt,G gm],undef,undef,ptr p 0,ptr p 0,ptr p 1,undef] [7,8,12] 2 (Fpu D w0 zs p 1 143 9 n vl cl [Xs (Sz0 R),Xs (Sz0 Y),U O q,U O ty,U O mn,U O mx,G hs,U O gt,G gm] 143 9 g [Xs (Sz0 R),Xs (Sz0 Y),U O q,U O ty,U O mn,U O mx,G hs,U O gt,G gm] C aj) ?_ ?_ ?_ (hN:=hN)
  . exact⟨λ_=>⟨(HM.o.b0 1 HC.o).1,λj u hu hj=>HM.o.b1 j hu hj⟩,rfl,HM.o.keep bFz.drew⟩
  . refine Rp.os 0 (ptr p 0) ?_ (hx:=E);refine Rp.os 0 (ptr p 0) ?_ (hx:=E);refine Rp.o1 1 54 ?_;refine Rp.o1 2 55 ?_;refine Rp.o1 3 56 ?_;refine Rp.l1 4 57 (λk us W hk M=>(M.1 hk).1) ?_;refine Rp.Qj.c (by kernel_rfl) (λa W kk us Kc f hk hb hu M hK=>?_) ?_
    . have e4:a.tmps[4]?.getD undef=ptr g 0:=(Rp.JQ f 4 (by kernel_rfl)).trans h4;have dx:=(M.1 hk).2 0 _ rfl (by decide);have ao:=(M.1 hk).2 1 _ rfl (by decide);have dw:=(M.1 hk).2 2 _ rfl (by decide);have dv:=(M.1 hk).2 3 _ rfl (by decide);have du:=(M.1 hk).2 4 _ rfl (by decide);have dt:=(M.1 hk).2 5 _ rfl (by decide);have ds:=(M.1 hk).2 6 _ rfl (by decide);have dr:=(M.1 hk).2 7 _ rfl (by decide);have dq:=(M.1 hk).2 8 _ rfl (by decide);refine Rp.QA (Ag #[Xs (Sz0 R),Xs (Sz0 Y),U O q,U O ty,U O mn,U O mx,G hs,U O gt,G gm]) (Rp.Qd rfl) rfl ?_ hK;clear f hK M hu hb;go_simp;try rfl
    refine Rp.hv 0 (λa W us f hu M=>?_) ?_
    . have d5:=Rp.va f 6 59;obtain⟨bu,rfl,hm⟩:=M;refine⟨(S (some ⟨W.heap.size,0,none⟩) 1 1),W.alloc (Fc #[Xs (Sz0 R),Xs (Sz0 Y),U O q,U O ty,U O mn,U O mx,G hs,U O gt,G gm] 143),?_,?_⟩
      . clear f hu;go_simp;try rfl
      have a8:=hm.keep (bFz.alloc lRz (Fc #[Xs (Sz0 R),Xs (Sz0 Y),U O q,U O ty,U O mn,U O mx,G hs,U O gt,G gm] 143));exact⟨λ_=>⟨(a8.b0 1 HC.o).1,λj u hu hj=>a8.b1 j hu hj⟩,W.heap.size,rfl,a8,Qq _ _ _⟩
    refine Rp.ha 1 (λa W us f hu M Kc hK=>?_) ?_
    . have c3:=Rp.va f 5 58;have c1:=Rp.vu hu 0 60;obtain⟨bu,g1,rfl,hm,cn⟩:=M;have ho:W.ownsRow D 143 9 vl n cl:=hm.mo.own.tail.head;refine Rp.ap (news:=[Xs (Sz0 R),Xs (Sz0 Y),U O q,U O ty,U O mn,U O mx,G hs,U O gt,G gm]) c3 ho c1 cn (by simp[Hq]) info_into150 (by have:=HN.o;unfold maxLen;omega) (by have:=HN.o;omega) hm.le (λv' w' h1 h2 h3=>?_) hK;have a7:Mq D w0 zs (rB p C::⟨143,9,n+1,v',cl++[Xs (Sz0 R),Xs (Sz0 Y),U O q,U O ty,U O mn,U O mx,G hs,U O gt,G gm]⟩::box 143 9 g [Xs (Sz0 R),Xs (Sz0 Y),U O q,U O ty,U O mn,U O mx,G hs,U O gt,G gm]::aj) w':=hm.push2 h2 h1 h3;exact⟨λh=>⟨(a7.b0 1 HC.o).1,λj u hu hj=>a7.b1 j hu hj⟩,g1,v',rfl,a7⟩
    refine Rp.o1 0 53 ?_;refine Rp.o1 9 62 ?_;refine Rp.o1 10 63 ?_;refine Rp.ht 2 (λa W us f hu M=>?_) ?_
    . have d3:=Rp.va f 11 64;have d4:=Rp.vu hu 1 61;obtain⟨bu,g1,v',rfl,hm⟩:=M;obtain⟨d6,ff⟩:=hm.b0 1 HC.o;have ho:W.ownsRow D 143 9 v' (n+1) (cl++[Xs (Sz0 R),Xs (Sz0 Y),U O q,U O ty,U O mn,U O mx,G hs,U O gt,G gm]):=hm.mo.own.tail.head;obtain⟨a',c',rfl⟩:=Qg ho;refine⟨W.setCell ⟨p,1,none⟩ (S a' (n+1) c'),?_,?_⟩
      . clear f hu ho;go_simp;try rfl
      exact⟨λh=>by omega,g1,_,rfl,hm.set 1 _⟩
    exact Rp.Qj.nil
  intro us a W f;have ea:=Rp.ca f [53,54,55,56,57,58,59,60,61,62,63,64] (hN:=hN);have M:=f.ph;simp only[Km,Tq,Rp.cv f 0 53,Rp.cv f 1 54,Rp.cv f 2 55,Rp.cv f 3 56,Rp.cv f 4 57,Rp.cv f 5 58,Rp.cv f 6 59,Rp.cu f 0 60,Rp.cu f 1 61,Rp.cv f 9 62,Rp.cv f 10 63,Rp.cv f 11 64]at ea;clear f;subst ea;obtain⟨-,g1,v',rfl,hm⟩:=M;refine bodyPost_end (results_none rfl _ _ _) (by simp only[Ek];exact hD) ?_;have hE:=HE.o;obtain⟨ah,av,rfl,rfl,rfl,ax,aw⟩:=hE;refine EnM.fin (off:=1) (j:=1) (z:=B) (kk:=kk) (r:=[]) (by decide) (by rw[ah.ll];decide) (λ_ hq=>hq) hm (λh=>by rw[ax h];rfl) (λh=>⟨_,by rw[aw h];rfl,?_⟩);have:=(ah.set_far (i:=19) (by decide) (G B)).set_imps (u:=v') (av.snoc (x:={ mod:=Sz0 R,nm:=Sz0 Y,kind:=q,ty:=ty,lim:=⟨mn,mx,hs⟩,gl:=⟨gt,gm⟩ }) (cs:=[Xs (Sz0 R),Xs (Sz0 Y),U O q,U O ty,U O mn,U O mx,G hs,U O gt,G gm]) (rs:=[]) ⟨rfl,rfl⟩);simpa only[Kb,Kj,Kg,Kk]using this
 clear ba;cases hk:okK k with
 |false =>
  obtain rfl:q=-1:=HQ.o.trans (kdM_no hk);have HK:=Hm hk;clear hk;have KB:=Hm (QG p z2 _ d.o.pb)
  go_wp2_with fail
  refine KB.o.mono ?_
  rintro e wb ⟨rfl,A,l⟩;replace d:=Hm (d.o.call A l);clear A l KB
  go_wp2
  exact KE.o _ _ true 0 0 0 0 false false rfl rfl rfl rfl d.o (λ_=>by rw[impF_eq,HK.o];simp) (λh=>by cases h)
 |true =>
  have HK:=Hm hk;have hq:=HQ.o.trans (kdM_ok hk);have au:Hid (¬c=3/\N r=n-3):=Hm ⟨by omega,by have:=dc.o.2;omega⟩
  have ay:Hid (Wv V3 (some ⟨b,o+3,none⟩) p r):=by
   refine Hm ?_
   have:=d.o.wv.drop 3 (by simp) HH.o.hc
   rw[if_neg au.o.1]at this
   exact this
  have bl:Hid (∀x∈r,N x<=1048576):=Hm (λx hx=>HH.o.hl x (by simp[hx]));clear hk
  have HX:Hid (∀(B:Bool),B=(z2 || (XD s t k r).isNone)->(B=true->Xy (s::t::k::r)=none)/\(B=false->∃x,XD s t k r=some x/\Xy (s::t::k::r)=some x/\R=Qm s/\Y=Qm t/\z2=false)):=by
   refine Hm ?_
   intro B hz
   rw[impF_eq,HK.o,hz,b7.o,b8.o]
   refine⟨λh=>?_,λh=>?_⟩
   . cases h1:JA s with
     |false=>simp
     |true =>
      cases h2:JA t with
      |false=>simp
      |true=>simpa[h1,h2]using h
   . simp at h
     obtain⟨⟨h1,h2⟩,h3⟩:=h;obtain⟨x,hx⟩:=Option.isSome_iff_exists.1 h3
     exact⟨x,hx,by simp[h1,h2,hx],db.o h1,da.o h2,by simp[h1,h2]⟩
  rcases kdN_of k with E|E|E|E
  . obtain rfl:q=0:=hq.trans E;have HG:Hid (XD s t k r=(uF r).map λy=>{ mod:=Sz0 (Qm s),nm:=Sz0 (Qm t),kind:=0,ty:=y,lim:=Qp.z,gl:=Q8.z }):=Hm (by unfold XD;rw[if_pos E]);have I:=Hm (mu32_c p (some ⟨b,o+3,none⟩) (c-3) r z2 V3 d.o.pb ay.o bl.o);rw[au.o.2]at I;obtain⟨B,v⟩:∃z',z'=(z2 || (uF r).isNone):=⟨_,rfl⟩;have F:=Hm v;clear v hq E
    go_wp2_with fail
    refine I.o.mono ?_
    rintro e w5 ⟨x,rfl,A,l,hy⟩;rw[<- F.o]at A;have HY:=Hm hy;replace d:=Hm (d.o.call A l);clear A l hy I c2;obtain⟨d9,d2⟩:=d.o.b0 3
    go_wp2
    have H:=HX.o B (by rw[HG.o,F.o,Eg])
    refine KE.o _ _ B x 0 0 0 false false rfl rfl rfl rfl (d.o.set 3 (U O x)) H.1 (λh=>?_)
    obtain⟨y,e1,e2,e3,e4,e5⟩:=H.2 h;rw[HG.o,Tz]at e1;obtain⟨x',e6,rfl⟩:=e1
    have:=HY.o x' e5 e6
    subst this;rw[e2,e3,e4]
    rfl
  . obtain rfl:q=1:=hq.trans E;have HG:Hid (XD s t k r=(Q5 r).map λy=>{ mod:=Sz0 (Qm s),nm:=Sz0 (Qm t),kind:=1,ty:=0,lim:=y,gl:=Q8.z }):=Hm (by unfold XD;rw[if_neg (by rw[E];decide),if_neg (by rw[E];decide),E]);have I:=Hm (mlim_c p (some ⟨b,o+3,none⟩) (c-3) r z2 V3 d.o.pb ay.o bl.o);rw[au.o.2]at I;obtain⟨B,v⟩:∃z',z'=(z2 || (Q5 r).isNone):=⟨_,rfl⟩;have F:=Hm v;clear v hq E
    go_wp2_with fail
    refine I.o.mono ?_
    rintro e w5 ⟨⟨xa,xb,xc⟩,he,A,l,hy⟩
    simp only[XO]at he
    subst he;rw[<- F.o]at A;have HY:=Hm hy;replace d:=Hm (d.o.call A l);clear A l hy I c2;obtain⟨c6,cx⟩:=d.o.b0 4;obtain⟨c5,ct⟩:=d.o.b0 5;obtain⟨c4,cr⟩:=d.o.b0 6
    go_wp2
    have H:=HX.o B (by rw[HG.o,F.o,Eg])
    refine KE.o _ _ B 0 xa xb 0 xc false rfl rfl rfl rfl (((d.o.set 4 (U O xa)).set 5 (U O xb)).set 6 (G xc)) H.1 (λh=>?_)
    obtain⟨y,e1,e2,e3,e4,e5⟩:=H.2 h;rw[HG.o,Tz]at e1;obtain⟨x',e6,rfl⟩:=e1
    have:=HY.o x' e5 e6
    cases this
    rw[e2,e3,e4]
    rfl
  . obtain rfl:q=2:=hq.trans E;have HG:Hid (XD s t k r=(Q5 r).map λy=>{ mod:=Sz0 (Qm s),nm:=Sz0 (Qm t),kind:=2,ty:=0,lim:=y,gl:=Q8.z }):=Hm (by unfold XD;rw[if_neg (by rw[E];decide),if_neg (by rw[E];decide),E]);have I:=Hm (mlim_c p (some ⟨b,o+3,none⟩) (c-3) r z2 V3 d.o.pb ay.o bl.o);rw[au.o.2]at I;obtain⟨B,v⟩:∃z',z'=(z2 || (Q5 r).isNone):=⟨_,rfl⟩;have F:=Hm v;clear v hq E
    go_wp2_with fail
    refine I.o.mono ?_
    rintro e w5 ⟨⟨xa,xb,xc⟩,he,A,l,hy⟩
    simp only[XO]at he
    subst he;rw[<- F.o]at A;have HY:=Hm hy;replace d:=Hm (d.o.call A l);clear A l hy I c2;obtain⟨c6,cx⟩:=d.o.b0 4;obtain⟨c5,ct⟩:=d.o.b0 5;obtain⟨c4,cr⟩:=d.o.b0 6
    go_wp2
    have H:=HX.o B (by rw[HG.o,F.o,Eg])
    refine KE.o _ _ B 0 xa xb 0 xc false rfl rfl rfl rfl (((d.o.set 4 (U O xa)).set 5 (U O xb)).set 6 (G xc)) H.1 (λh=>?_)
    obtain⟨y,e1,e2,e3,e4,e5⟩:=H.2 h;rw[HG.o,Tz]at e1;obtain⟨x',e6,rfl⟩:=e1
    have:=HY.o x' e5 e6
    cases this
    rw[e2,e3,e4]
    rfl
  . obtain rfl:q=3:=hq.trans E;have HG:Hid (XD s t k r=(gtF r).map λy=>{ mod:=Sz0 (Qm s),nm:=Sz0 (Qm t),kind:=3,ty:=0,lim:=Qp.z,gl:=y }):=Hm (by unfold XD;rw[if_neg (by rw[E];decide),if_pos E]);have I:=Hm (mglob_c p (some ⟨b,o+3,none⟩) (c-3) r z2 V3 d.o.pb ay.o);rw[au.o.2]at I;obtain⟨B,v⟩:∃z',z'=(z2 || (gtF r).isNone):=⟨_,rfl⟩;have F:=Hm v;clear v hq E
    go_wp2_with fail
    refine I.o.mono ?_
    rintro e w5 ⟨⟨xa,xb⟩,he,A,l,hy⟩
    simp only[gtW]at he
    subst he;rw[<- F.o]at A;have HY:=Hm hy;replace d:=Hm (d.o.call A l);clear A l hy I c2;obtain⟨d8,d1⟩:=d.o.b0 7;obtain⟨d7,d0⟩:=d.o.b0 8
    go_wp2
    have H:=HX.o B (by rw[HG.o,F.o,Eg])
    refine KE.o _ _ B 0 0 0 xa false xb rfl rfl rfl rfl ((d.o.set 7 (U O xa)).set 8 (G xb)) H.1 (λh=>?_)
    obtain⟨y,e1,e2,e3,e4,e5⟩:=H.2 h;rw[HG.o,Tz]at e1;obtain⟨x',e6,rfl⟩:=e1
    have:=HY.o x' e5 e6
    cases this
    rw[e2,e3,e4]
    rfl
end YtejkdbnngphgaaaGreatDoor.Yz
namespace YtejkdbnngphgaaaGreatDoor.Yz
open Go.RowKit Go.Sort
variable {V w0 w:J}{rs:List Qb}{D p:Nat}
theorem lt_of_some {k:Nat}{o:Obj}(h:V.heap[k]?=some o):k<V.heap.size:=by
 rcases Nat.lt_or_ge k V.heap.size with a|a
 . exact a
 rw[Array.getElem?_eq_none a]at h;cases h
theorem bz_c (w:J)(d:Wd):∃cap cur fz W5,(convert 9 22 (Xs (Sz0 d))).run Q w=.ok (S (some ⟨w.heap.size,0,none⟩) (N d) cap) W5/\Bw w.heap.size w W5/\W5.heap[w.heap.size]?=some (Fc cur 5 fz)/\∀j,j<(Iy d).length->cur[j]?=some (U .u8 ((Iy d).getD j 0)):=by
 have b:=Lib.run_convert_string_bytes w 9 22 5 (Sz0 d) underlying9 underlying22 underlying5;rw[QJ]at b;refine⟨_,_,_,Lib.bytesWorld w 5 (Sz0 d),b,⟨rfl,rfl,rfl,by rw[Lib.bytesWorld_size];omega,λj hj=>Lib.bytesWorld_at_old w 5 (Sz0 d) j hj⟩,Lib.bytesWorld_at_new w 5 (Sz0 d),λj hj=>?_⟩;have a:j<N d:=by simpa using hj
 have h:=Lib.bytesWorld_cell w 5 (Sz0 d) j (by rw[QJ];exact a);simp only[World.cell?,Lib.bytesWorld_at_new,Pq]at h;have e:((Sz0 d).data.toList.getD j 0).toNat=((Iy d).getD j 0).toNat:=by rw[QB];simp[Ty,Kv a]
 have c:((Iy d).getD j 0)=(((Iy d).getD j 0).toNat:Int):=by simp[Ty,Kv a]
 rw[c,<- e];first|exact h|simpa using h
theorem Mq.addz {a:List (Nat × Obj)}{q:Nat}{o:Obj}(h:Mq D w0 a rs V)(h1:V.heap[q]?=some o)(c:D<=q)(b:q∉blk rs):Mq D w0 ((q,o)::a) rs V:=by
 refine⟨h.mo,λx hx=>?_⟩;rcases List.mem_cons.1 hx with rfl|hx
 . exact⟨h1,c,b⟩
 exact h.z x hx
variable [PK]
theorem Lb.pc {a:Option Ad}{ws:List Wd}{bd:Bool}{cells:List Vu}(h:Lb w p a ws bd rs V)(c:PK.k=cells){j:Nat}(d:j<19){u:Vu}(b:cells[j]?=some u):V.cell? ⟨p,j,none⟩=some u:=by
 have:=World.ownsRow.cellAt h.pb.own j (by omega);rw[c,Kz (by omega)]at this;exact this.trans b
theorem Rd2.zn {g:List (Nat × Obj)}{cells b:List Vu}{c:List Qb}{q:Nat}(h:Mq D w0 g (rB p cells::rs) w)(l:w.heap.size<=q)(j:q∉blk c):q∉blk (rB p b::(c++rs)):=λhk=>by
 have a:q∈p::blk (c++rs):=hk;have f:∀k∈p::blk rs,k<w.heap.size:=λk hk=>(h.mo.own.lt (show k∈blk (rB p cells::rs)from hk)).2
 rcases List.mem_cons.1 a with e|a
 . have:=f p (mS ..);omega
 . rw[JD]at a
   rcases List.mem_append.1 a with d|d
   . exact j d
   . have:=f q (mC d);omega
def cusA (sec:Int)(m:Mod)(ws:List Wd):Option Mod:=(cusF ws).bind λx=>if x.aft=sec then some { m with gx:=m.gx++[x] }else none
theorem cus_fin {R:List (Nat × Obj)}{cells:List Vu}{X:List Qb}{m:Mod}{a:Option Ad}{c:Nat}{ws:List Wd}(h:Rd2 D w0 R p cells X m w a c ws)(hz:N m.gx<=1048576){F:Option Mod}{a0:Act}{W0:J}{z3:Bool}{g:Nat}{x:Int}{y:Wd}{dn t:Nat}{l:Nat}{V:Obj}(hN:a0.tmps.size=59)(hD:a0.defers=[])(h0:a0.tmps[0]?.getD undef=ptr p 0)(h4:a0.tmps[4]?.getD undef=ptr g 0)(hR:Lb w p a ws z3 [box 131 3 g [U O x,Xs (Sz0 y),S (some ⟨l,0,none⟩) dn t]] W0)(ab:W0.heap[l]?=some V/\g<l/\w.heap.size<=l) (M:z3=true->F=none) (I:z3=false->∃en,F=some { m with gx:=m.gx++[en] }/\RCusZ ((l,V)::R) en [U O x,Xs (Sz0 y),S (some ⟨l,0,none⟩) dn t] []):Code.wp Q (lastO f66.body) (bodyPost Q f66 (EnM F D w0 R p cells X)) a0 W0:=by
 simp only[f66,lastO,lastC];obtain⟨L,s,E⟩:=h.ex;obtain⟨vl,cl,kk,e1,H,pm⟩:=s.gx.at_;obtain⟨n,hn⟩:∃n,n=N m.gx:=⟨_,rfl⟩;have HN:Hid (n<=1048576):=Hm (by omega);obtain⟨d,B⟩:∃cs,cs=cells.set 19 (G z3):=⟨_,rfl⟩;have HC:Hid (d[12]?=some vl):=Hm (by rw[B,Kz (by decide)];exact e1);obtain⟨v,hr⟩:∃rr,rr=[]++((L.eraseIdx 10).flatten++kk++X):=⟨_,rfl⟩;have HM:Hid (Mq D w0 ((l,V)::R) (rB p d::⟨131,3,n,vl,cl⟩::box 131 3 g [U O x,Xs (Sz0 y),S (some ⟨l,0,none⟩) dn t]::v) W0):=by
  refine Hm ?_;rw[B,hr,hn];have C:=hR.backq E h.hk;have C:=C.addz ab.1 (by have:=E.mo.le;omega) (Rd2.zn E ab.2.2 (fun hk=>by
   have:=ab.2
   simp[blk,Lc]at hk
   omega))
  refine C.perm (Tp _ ?_);refine(Lm _ (Je pm)).trans ?_;exact List.perm_middle.trans (Tp _ (Im _))
 have HE:=Hm (And.intro s (And.intro H (And.intro B (And.intro hr (And.intro hn (And.intro M I))))));clear s E e1 H pm hn B hr hz hR M I;refine Rp.rg (nN:=59) [ptr p 0,ptr p 0,ptr p 0,ptr p 0,ptr p 12,vl,Ag #[U O x,Xs (Sz0 y),S (some ⟨l,0,none⟩) dn t],undef,undef,ptr p 0,ptr p 0,ptr p 12,undef] [7,8,12] 2 (Fpu D w0 ((l,V)::R) p 12 131 3 n vl cl [U O x,Xs (Sz0 y),S (some ⟨l,0,none⟩) dn t] 131 3 g [U O x,Xs (Sz0 y),S (some ⟨l,0,none⟩) dn t] d v) ?_ ?_ ?_ (hN:=hN)
 . exact⟨λ_=>⟨(HM.o.b0 12 HC.o).1,λj u hu hj=>HM.o.b1 j hu hj⟩,rfl,HM.o.keep bFz.drew⟩
 . refine Rp.os 0 (ptr p 0) ?_ (hx:=h0);refine Rp.os 0 (ptr p 0) ?_ (hx:=h0);refine Rp.o1 1 48 ?_;refine Rp.o1 2 49 ?_;refine Rp.o1 3 50 ?_;refine Rp.l1 4 51 (λk us W hk q=>(q.1 hk).1) ?_;refine Rp.Qj.c (by kernel_rfl) (λa W kk us Kc f hk hb hu q hK=>?_) ?_
   . have e4:a.tmps[4]?.getD undef=ptr g 0:=(Rp.JQ f 4 (by kernel_rfl)).trans h4;have a8:=(q.1 hk).2 0 _ rfl (by decide);have B:=(q.1 hk).2 1 _ rfl (by decide);have a7:=(q.1 hk).2 2 _ rfl (by decide);refine Rp.QA (Ag #[U O x,Xs (Sz0 y),S (some ⟨l,0,none⟩) dn t]) (Rp.Qd rfl) rfl ?_ hK;clear f hK q hu hb;go_simp;try rfl
   refine Rp.hv 0 (λa W us f hu q=>?_) ?_
   . have bf:=Rp.va f 6 53;obtain⟨ag,rfl,A⟩:=q;refine⟨(S (some ⟨W.heap.size,0,none⟩) 1 1),W.alloc (Fc #[U O x,Xs (Sz0 y),S (some ⟨l,0,none⟩) dn t] 131),?_,?_⟩
     . clear f hu;go_simp;try rfl
     have aa:=A.keep (bFz.alloc lRz (Fc #[U O x,Xs (Sz0 y),S (some ⟨l,0,none⟩) dn t] 131));exact⟨λ_=>⟨(aa.b0 12 HC.o).1,λj u hu hj=>aa.b1 j hu hj⟩,W.heap.size,rfl,aa,Qq _ _ _⟩
   refine Rp.ha 1 (λa W us f hu q Kc hK=>?_) ?_
   . have ay:=Rp.va f 5 52;have ax:=Rp.vu hu 0 54;obtain⟨ag,g1,rfl,A,av⟩:=q;have ho:W.ownsRow D 131 3 vl n cl:=A.mo.own.tail.head;refine Rp.ap (news:=[U O x,Xs (Sz0 y),S (some ⟨l,0,none⟩) dn t]) ay ho ax av (by simp[Hq]) info_131 (by have:=HN.o;unfold maxLen;omega) (by have:=HN.o;omega) A.le (λv' w' h1 h2 h3=>?_) hK;have Y:Mq D w0 ((l,V)::R) (rB p d::⟨131,3,n+1,v',cl++[U O x,Xs (Sz0 y),S (some ⟨l,0,none⟩) dn t]⟩::box 131 3 g [U O x,Xs (Sz0 y),S (some ⟨l,0,none⟩) dn t]::v) w':=A.push2 h2 h1 h3;exact⟨λh=>⟨(Y.b0 12 HC.o).1,λj u hu hj=>Y.b1 j hu hj⟩,g1,v',rfl,Y⟩
   refine Rp.o1 0 47 ?_;refine Rp.o1 9 56 ?_;refine Rp.o1 10 57 ?_;refine Rp.ht 2 (λa W us f hu q=>?_) ?_
   . have bc:=Rp.va f 11 58;have bd:=Rp.vu hu 1 55;obtain⟨ag,g1,v',rfl,A⟩:=q;obtain⟨bh,ff⟩:=A.b0 12 HC.o;have ho:W.ownsRow D 131 3 v' (n+1) (cl++[U O x,Xs (Sz0 y),S (some ⟨l,0,none⟩) dn t]):=A.mo.own.tail.head;obtain⟨a',c',rfl⟩:=Qg ho;refine⟨W.setCell ⟨p,12,none⟩ (S a' (n+1) c'),?_,?_⟩
     . clear f hu ho;go_simp;try rfl
     exact⟨λh=>by omega,g1,_,rfl,A.set 12 _⟩
   exact Rp.Qj.nil
 intro us a W f;have ea:=Rp.ca f [47,48,49,50,51,52,53,54,55,56,57,58] (hN:=hN);have q:=f.ph;simp only[Km,Tq,Rp.cv f 0 47,Rp.cv f 1 48,Rp.cv f 2 49,Rp.cv f 3 50,Rp.cv f 4 51,Rp.cv f 5 52,Rp.cv f 6 53,Rp.cu f 0 54,Rp.cu f 1 55,Rp.cv f 9 56,Rp.cv f 10 57,Rp.cv f 11 58]at ea;clear f;subst ea;obtain⟨-,g1,v',rfl,A⟩:=q;refine bodyPost_end (results_none rfl _ _ _) (by simp only[Ek];exact hD) ?_;have hE:=HE.o;obtain⟨s,H,rfl,rfl,rfl,M,I⟩:=hE;refine EnM.fin (zs':=((l,V)::R)) (off:=12) (j:=10) (z:=z3) (kk:=kk) (r:=[]) (by decide) (by rw[s.ll];decide) (λ_ C=>mC C) A M (λh=>?_);obtain⟨en,e1,e2⟩:=I h;refine⟨_,e1,?_⟩;have:=((s.mono (zs':=((l,V)::R)) (λ_ C=>mC C)).set_far (i:=19) (by decide) (G z3)).set_customs (u:=v') ((lr_mono H (λx c k ⟨vb,a,b,z⟩=>⟨vb,a,b,z.mono (λ_ C=>mC C)⟩)).snoc e2);simpa only[Kb,Kj,Kg,Kk]using this
theorem mcus_c (sec:Int)(D:Nat)(w0:J)(zs:List (Nat × Obj))(p:Nat)(cells:List Vu)(X:List Qb)(m:Mod)(w:J)(a:Option Ad)(c:Nat)(ws:List Wd)(h:Rd2 D w0 zs p cells X m w a c ws)(Y:cells[13]?=some (U O sec))(hz:N m.gx<=1048576):Ec Q 66 #[ptr p 0,S a (N ws) c] w (EnM (cusA sec m ws) D w0 zs p cells X):=by
 have HR:=Hm h.lb;have L:=Hm h;have HS:=Hm Y;by_cases h3:N ws=3
 . obtain⟨s,t,u,rfl⟩:=three h3;obtain⟨b,o,rfl⟩:=h.wv.at (by simp);simp only[Kj,Kg,Kk];(have bo:¬(c:Int)<1:=by have:=h.hc;simp at this;omega);(have bp:¬c=0:=by omega);clear h h3 Y;go_enter func66,ntmps66;(go_upto_region 3 with fail);obtain⟨g,hg⟩:∃g,g=w.heap.size:=⟨_,rfl⟩;obtain⟨V1,af⟩:∃V,V=w.alloc (Fc #[U O 0,Xs ⟨#[]⟩,S none 0 0] 131):=⟨_,rfl⟩;(have l:Hid (Lb w p (some ⟨b,o,none⟩) [s,t,u] false [box 131 3 g [U O 0,Xs ⟨#[]⟩,S none 0 0]] V1):=by refine Hm ?_;rw[af,hg];exact HR.o.box (cur:=#[U O 0,Xs ⟨#[]⟩,S none 0 0]) 131 3 rfl);rw[<- af,<- hg];clear af hg HR;obtain⟨z1,H⟩:∃z',z'=(false || (uF [s]).isNone):=⟨_,rfl⟩;have aw:=Hm H;clear H;have KC:=Hm (mu32_c p (some ⟨b,o,none⟩) c [s] false V1 l.o.pb (l.o.wv.take 1) (λx hx=>L.o.hl x (by simp at hx;simp[hx])));(go_wp2_with fail);refine KC.o.mono ?_;rintro e w2 ⟨x,rfl,C,n,hy⟩;rw[<- aw.o]at C;have HX:=Hm hy;replace l:=Hm (l.o.call C n);clear C n hy KC ;obtain⟨bd,a9⟩:=l.o.b0 0;(go_upto_region 4 with fail);refine Qh (λUz0=>Lb w p (some ⟨b,o,none⟩) [s,t,u] z1 [box 131 3 g [U O x,Xs ⟨#[]⟩,S none 0 0]] Uz0) (l.o.set 0 (U O x)) ?_;intro V2 A;replace l:=Hm A;clear A bd a9;have cw:=l.o.wd 1 (x:=t) rfl;obtain⟨z2,H⟩:∃z',z'=(z1 || !JA t):=⟨_,rfl⟩;have av:=Hm H;clear H;have KC:=Hm (mname_c p t z1 V2 l.o.pb (L.o.hl t (by simp)));(go_wp2_with fail);refine KC.o.mono ?_;rintro e w3 ⟨y,rfl,C,n,hy⟩;rw[<- av.o]at C;have HY:=Hm hy;replace l:=Hm (l.o.call C n);clear C n hy KC cw;obtain⟨bc,a8⟩:=l.o.b0 1;(go_upto_region 5 with fail);refine Qh (λUz0=>Lb w p (some ⟨b,o,none⟩) [s,t,u] z2 [box 131 3 g [U O x,Xs (Sz0 y),S none 0 0]] Uz0) (l.o.set 1 (Xs (Sz0 y))) ?_;intro V3 A;replace l:=Hm A;clear A bc a8;have cw:=l.o.wd 2 (x:=u) rfl;have KC:=Hm (mtext_c u V3 (L.o.hl u (by simp)));(go_wp2_with fail);refine KC.o.mono ?_
   rintro e w4 ⟨d,rfl,hb,hd⟩;have HD:=Hm hd;replace l:=Hm (l.o.keep hb);clear hb hd KC cw;obtain⟨dc,cur,fz,W5,ao,au,ad,ar⟩:=bz_c w4 d;obtain⟨B,R⟩:∃q,q=w4.heap.size:=⟨_,rfl⟩;rw[<- R]at ao ad;have v:Hid (W5.heap[B]?=some (Fc cur 5 fz)/\g<B/\w.heap.size<=B/\∀j,j<(Iy d).length->cur[j]?=some (U .u8 ((Iy d).getD j 0))):=by
    refine Hm ⟨ad,?_,?_,ar⟩
    . rw[R];exact(l.o.own.lt (k:=g) (QF.2 ⟨_,mS ..,rfl⟩)).2
    rw[R];exact l.o.g.size
   have r:=Hm (l.o.keep au);clear au ad ar l R;obtain⟨bb,a7⟩:=r.o.b0 2;(go_upto_region 7 with fail);refine Qh (λUz0=>Lb w p (some ⟨b,o,none⟩) [s,t,u] z2 [box 131 3 g [U O x,Xs (Sz0 y),S (some ⟨B,0,none⟩) (N d) dc]] Uz0/\Uz0.heap[B]?=some (Fc cur 5 fz)) ⟨r.o.set 2 (S (some ⟨B,0,none⟩) (N d) dc),(Below.heap_setCell _ _ _ _ (λe=>by have:=v.o.2.1;simp at e;omega)).trans v.o.1⟩ ?_;intro I A;replace r:=Hm A;clear A ao bb a7;have c0:=(r.o.1.b0 0).1;have br:=r.o.1.pc L.o.hk (by decide) HS.o;have HF:Hid (∀z3:Bool,z3=(z2 || !(okS u&&x==sec))->(z3=true->cusA sec m [s,t,u]=none)/\(z3=false->∃en,cusA sec m [s,t,u]=some { m with gx:=m.gx++[en] }/\RCusZ ((B,Fc cur 5 fz)::zs) en [U O x,Xs (Sz0 y),S (some ⟨B,0,none⟩) (N d) dc] [])):=by
    refine Hm ?_;intro z3 E;(have aq:cusF [s,t,u]=if okU s&&(JA t&&okS u)then some ⟨nv s,Sz0 (Qm t),Iy (Qm u)⟩else none:=rfl;rw[av.o,aw.o]at E);refine⟨λh=>?_,λh=>?_⟩
    . unfold cusA;rw[aq];by_cases M:(okU s&&(JA t&&okS u))=true
      . rw[if_pos M];simp at M;have hx:=HX.o (nv s) trivial (by simp[uF,if1,M.1]);rw[h]at E;simp[uF,if1,M]at E;simp only[Pq];rw[if_neg (by rw[<- hx];exact E)]
      rw[if_neg M];rfl
    rw[h]at E;simp[uF,if1]at E;obtain⟨⟨h1,h2⟩,h3,h4⟩:=E;have hx:=HX.o (nv s) trivial (by simp[uF,if1,h1]);have hy:=HY.o h2;have hd:=HD.o h3;refine⟨⟨nv s,Sz0 (Qm t),Iy (Qm u)⟩,?_,?_⟩
    . unfold cusA;rw[aq,if_pos (by simp[h1,h2,h3])];simp only[Pq];rw[if_pos (by rw[<- hx];exact h4)]
    refine⟨_,by rw[<- hx,<- hy],rfl,B,dc,cur,fz,?_,mS ..,?_⟩
    . rw[<- hd];simp
    rw[<- hd];exact v.o.2.2.2
   cases M:okS u with
   |false =>
    go_quiet (fail)
    have z:=Hm (r.o.1.keep (show Bw I.heap.size I (I.drewN nq)from⟨rfl,rfl,rfl,lRz,λ_ _=>rfl⟩));have F:Hid ((I.drewN nq).heap[B]?=some (Fc cur 5 fz)/\B≠p):=Hm ⟨r.o.2,by have:=r.o.1.hi;have:=L.o.hh;have:=v.o.2.2.1;omega⟩;have KB:=Hm (QG p z2 _ z.o.pb)
    go_wp2_with fail
    refine KB.o.mono ?_
    rintro e wb ⟨rfl,C,n⟩;have GZ:Hid (wb.heap[B]?=some (Fc cur 5 fz)):=Hm ((n.block B (lt_of_some F.o.1) (λe=>F.o.2 (Option.some.inj e))).trans F.o.1);replace z:=Hm (z.o.call C n);clear C n KB
    go_upto_region 9 with fail
    have hf:=HF.o true (by rw[M];simp)
    refine cus_fin L.o hz rfl rfl rfl rfl z.o ⟨GZ.o,v.o.2.1,v.o.2.2.1⟩ hf.1 hf.2
   |true =>
    by_cases hx:x=sec
    . have hb:(x != sec)=false:=by simp[hx]
      have ax:=Hm (HF.o z2 (by rw[M];simp[hx]));clear hx
      go_quiet (fail)
      go_upto_region 9 with fail
      refine cus_fin L.o hz rfl rfl rfl rfl (r.o.1.keep (show Bw I.heap.size I (I.drewN nq)from⟨rfl,rfl,rfl,lRz,λ_ _=>rfl⟩)) ⟨r.o.2,v.o.2.1,v.o.2.2.1⟩ ax.o.1 ax.o.2
    . have hb:(x != sec)=true:=by simp[hx]
      have bf:=Hm hx;clear hx
      go_quiet (fail)
      have z:=Hm (r.o.1.keep (show Bw I.heap.size I (I.drewN nq)from⟨rfl,rfl,rfl,lRz,λ_ _=>rfl⟩));have F:Hid ((I.drewN nq).heap[B]?=some (Fc cur 5 fz)/\B≠p):=Hm ⟨r.o.2,by have:=r.o.1.hi;have:=L.o.hh;have:=v.o.2.2.1;omega⟩;have KB:=Hm (QG p z2 _ z.o.pb)
      go_wp2_with fail
      refine KB.o.mono ?_
      rintro e wb ⟨rfl,C,n⟩;have GZ:Hid (wb.heap[B]?=some (Fc cur 5 fz)):=Hm ((n.block B (lt_of_some F.o.1) (λe=>F.o.2 (Option.some.inj e))).trans F.o.1);replace z:=Hm (z.o.call C n);clear C n KB
      go_upto_region 9 with fail
      have hf:=HF.o true (by rw[M];simp[bf.o])
      refine cus_fin L.o hz rfl rfl rfl rfl z.o ⟨GZ.o,v.o.2.1,v.o.2.2.1⟩ hf.1 hf.2
 have bn:¬(N ws:Int)=3:=by omega
 have HF:=Hm (if3_no (o1:=okU) (o2:=JA) (o3:=okS) (f:=λa b c=>(⟨nv a,Sz0 (Qm b),Iy (Qm c)⟩:Cus)) h3);clear h h3;go_enter func66,ntmps66;have KB:=Hm (QG p false _ HR.o.pb);go_wp2_with fail
 refine KB.o.mono ?_;rintro e wb ⟨rfl,C,n⟩;replace HR:=Hm (HR.o.call C n);clear C n KB;go_wp2;refine bodyPost_ret (results_none rfl _ _ _) rfl ?_;exact L.o.bads HR.o (by unfold cusA cusF;rw[HF.o];rfl)
end YtejkdbnngphgaaaGreatDoor.Yz
namespace YtejkdbnngphgaaaGreatDoor.Yz
open Go.RowKit Go.Sort
variable {ws:List Wd}{k:Nat}
variable [PK]
def GrI (ws:List Wd)(k:Nat)(gs:List Grp)(tot:Int):Prop:=k<=N ws/\N gs*2=k/\JH ws=(JH (ws.drop k)).map (gs++·)/\(∀l,J6 (gs++l) 0=J6 l tot)/\0<=tot/\tot<=4294967295
theorem GrI.start (ws:List Wd):GrI ws 0 [] 0:=⟨Nat.zero_le _,rfl,by rw[List.drop_zero];cases JH ws<;>rfl,λl=>rfl,by omega,by omega⟩
theorem okT_ty {t:Wd}(h:okT t=true):tyB (tyN t)=true:=by
 unfold okT at h;unfold tyN at h⊢;unfold tyB;split
 · decide
 split
 · decide
 split
 · decide
 split
 · decide
 rename_i d c b a;rw[if_neg d,if_neg c,if_neg b,if_neg a]at h;simp at h
theorem okU_nv {n:Wd}(h:okU n=true):0<=nv n/\nv n<=4294967295/\okP n=some (nv n):=by
 unfold okU okN at h;cases hv:okP n with
 |none=>rw[hv]at h;cases h
 |some v =>
  rw[hv]at h
  simp at h
  unfold nv;rw[hv]
  exact⟨h.1,h.2.1,rfl⟩
theorem drop_two (h:k+1<N ws):ws.drop k=ws.getD k []::ws.getD (k+1) []::ws.drop (k+2):=by
 rw[Tx (by omega),Tx h];simp[Ty,Kv h,Kv (show k<N ws by omega)]
theorem GrI.step {gs:List Grp}{d:Int}(h:GrI ws k gs d)(j:k+1<N ws):((okU (ws.getD k [])&&okT (ws.getD (k+1) []))=false->Js ws=none)/\(okU (ws.getD k [])=true->okT (ws.getD (k+1) [])=true->4294967295<d+nv (ws.getD k [])->Js ws=none)/\(okU (ws.getD k [])=true->okT (ws.getD (k+1) [])=true->d+nv (ws.getD k [])<=4294967295->GrI ws (k+2) (gs++[⟨nv (ws.getD k []),tyN (ws.getD (k+1) [])⟩]) (d+nv (ws.getD k []))):=by
 obtain⟨r,q,f,m,p,o⟩:=h;rw[drop_two j]at f;generalize ws.getD k []=n at *;generalize ws.getD (k+1) []=t at *;have g:okU n=true->okT t=true->∀l,J6 (gs++⟨nv n,tyN t⟩::l) 0=(u32B (d+nv n)&&J6 l (d+nv n)):=λa b l=>by rw[m];have:=okU_nv a;simp[J6,grpB,okT_ty b,show u32B (nv n)=true by simp[u32B];omega]
 refine⟨λh=>?_,λa b c=>?_,λa b c=>?_⟩
 . (have:JH ws=none:=by rw[f];unfold JH;rw[if_neg (by rw[h];decide)];rfl);unfold Js;rw[this]
 . (have e:JH ws=(JH (ws.drop (k+2))).map (λl=>gs++⟨nv n,tyN t⟩::l):=by rw[f];(conv=>lhs;unfold JH);rw[if_pos (by rw[a,b];rfl),Mb];rfl);unfold Js;rw[e];cases JH (ws.drop (k+2))with
   |none=>rfl
   |some l =>
    simp only[Lw]
    rw[g a b l,show u32B (d+nv n)=false by simp[u32B];omega]
    rfl
 have:=okU_nv a;refine⟨by omega,by simp;omega,?_,λl=>?_,by omega,c⟩
 . rw[f];(conv=>lhs;unfold JH);rw[if_pos (by rw[a,b];rfl),Mb];(congr 1);(funext l);simp
 rw[List.append_assoc];show J6 (gs++⟨nv n,tyN t⟩::l) 0=_;rw[g a b l,show u32B (d+nv n)=true by simp[u32B];omega];rfl
theorem GrI.fin {gs:List Grp}{b:Int}(h:GrI ws k gs b)(f:¬k+1<N ws):(N ws%2=1->Js ws=none)/\(N ws%2=0->Js ws=some gs):=by
 obtain⟨m,l,a,d,j,g⟩:=h;refine⟨λh=>?_,λh=>?_⟩
 . (have c:(ws.drop k).length=1:=by simp;omega);obtain⟨x,hx⟩:=List.length_eq_one_iff.1 c;rw[hx]at a;unfold Js;rw[a];rfl
 have c:ws.drop k=[]:=List.length_eq_zero_iff.1 (by simp;omega);rw[c]at a;have:=d [];rw[Tb]at this;unfold Js;rw[a];simp only[JH,Lw,Tb];rw[this];rfl
theorem cod_fin {D:Nat}{w0:J}{H:List (Nat × Obj)}{p:Nat}{cells:List Vu}{X:List Qb}{m:Mod}{w:J}{a:Option Ad}{c:Nat}(h:Rd2 D w0 H p cells X m w a c ws)(hz:N m.gq<=1048576){F:Option Mod}{a0:Act}{W0:J}{I:Bool}{g:Nat}{r:List Qb}{b:Vu}(hN:a0.tmps.size=77)(hD:a0.defers=[])(h0:a0.tmps[0]?.getD undef=ptr p 0)(h4:a0.tmps[4]?.getD undef=ptr g 0)(hR:Lb w p a ws I (box 81 2 g [b,S none 0 0]::r) W0)(h1:∀u∈([b,S none 0 0]:List Vu),u.oneCell'=true) (B:I=true->F=none) (A:I=false->∃en,F=some { m with gq:=m.gq++[en] }/\RCod en [b,S none 0 0] r):Code.wp Q (lastO f74.body) (bodyPost Q f74 (EnM F D w0 H p cells X)) a0 W0:=by
 simp only[f74,lastO,lastC];obtain⟨L,l,aa⟩:=h.ex;obtain⟨R,cl,kk,e1,y,pm⟩:=l.gq.at_;obtain⟨n,hn⟩:∃n,n=N m.gq:=⟨_,rfl⟩;have HN:Hid (n<=1048576):=Hm (by omega);obtain⟨d,v⟩:∃cs,cs=cells.set 19 (G I):=⟨_,rfl⟩;have HC:Hid (d[10]?=some R):=Hm (by rw[v,Kz (by decide)];exact e1);obtain⟨s,hr⟩:∃rr,rr=r++((L.eraseIdx 8).flatten++kk++X):=⟨_,rfl⟩;have HM:Hid (Mq D w0 H (rB p d::⟨81,2,n,R,cl⟩::box 81 2 g [b,S none 0 0]::s) W0):=by refine Hm ?_;rw[v,hr,hn];have hq:=hR.backq aa h.hk;refine hq.perm (Tp _ ?_);refine(Lm _ (Je pm)).trans ?_;exact List.perm_middle.trans (Tp _ (Im _))
 have HE:=Hm (And.intro l (And.intro y (And.intro v (And.intro hr (And.intro hn (And.intro B A))))));clear l aa e1 y pm hn v hr hz hR B A;refine Rp.rg (nN:=77) [ptr p 0,ptr p 0,ptr p 0,ptr p 0,ptr p 10,R,Ag #[b,S none 0 0],undef,undef,ptr p 0,ptr p 0,ptr p 10,undef] [7,8,12] 2 (Fpu D w0 H p 10 81 2 n R cl [b,S none 0 0] 81 2 g [b,S none 0 0] d s) ?_ ?_ ?_ (hN:=hN)
 . exact⟨λ_=>⟨(HM.o.b0 10 HC.o).1,λj u hu hj=>HM.o.b1 j hu hj⟩,rfl,HM.o.keep bFz.drew⟩
 . refine Rp.os 0 (ptr p 0) ?_ (hx:=h0);refine Rp.os 0 (ptr p 0) ?_ (hx:=h0);refine Rp.o1 1 66 ?_;refine Rp.o1 2 67 ?_;refine Rp.o1 3 68 ?_;refine Rp.l1 4 69 (λk V W hk q=>(q.1 hk).1) ?_;refine Rp.Qj.c (by kernel_rfl) (λa W kk V Kc f hk hb hu q hK=>?_) ?_
   . have e4:a.tmps[4]?.getD undef=ptr g 0:=(Rp.JQ f 4 (by kernel_rfl)).trans h4;have a2:=(q.1 hk).2 0 _ rfl (by decide);have v:=(q.1 hk).2 1 _ rfl (by decide);refine Rp.QA (Ag #[b,S none 0 0]) (Rp.Qd rfl) rfl ?_ hK;clear f hK q hu hb;go_simp;try rfl
   refine Rp.hv 0 (λa W V f hu q=>?_) ?_
   . have a8:=Rp.va f 6 71;obtain⟨Y,rfl,t⟩:=q;refine⟨(S (some ⟨W.heap.size,0,none⟩) 1 1),W.alloc (Fc #[b,S none 0 0] 81),?_,?_⟩
     . clear f hu;go_simp;try rfl
     have E:=t.keep (bFz.alloc lRz (Fc #[b,S none 0 0] 81));exact⟨λ_=>⟨(E.b0 10 HC.o).1,λj u hu hj=>E.b1 j hu hj⟩,W.heap.size,rfl,E,Qq _ _ _⟩
   refine Rp.ha 1 (λa W V f hu q Kc hK=>?_) ?_
   . have aq:=Rp.va f 5 70;have ao:=Rp.vu hu 0 72;obtain⟨Y,g1,rfl,t,aj⟩:=q;have ho:W.ownsRow D 81 2 R n cl:=t.mo.own.tail.head;refine Rp.ap (news:=[b,S none 0 0]) aq ho ao aj h1 info_keep163 (by have:=HN.o;unfold maxLen;omega) (by have:=HN.o;omega) t.le (λM w' h1 h2 h3=>?_) hK;have C:Mq D w0 H (rB p d::⟨81,2,n+1,M,cl++[b,S none 0 0]⟩::box 81 2 g [b,S none 0 0]::s) w':=t.push2 h2 h1 h3;exact⟨λh=>⟨(C.b0 10 HC.o).1,λj u hu hj=>C.b1 j hu hj⟩,g1,M,rfl,C⟩
   refine Rp.o1 0 65 ?_;refine Rp.o1 9 74 ?_;refine Rp.o1 10 75 ?_;refine Rp.ht 2 (λa W V f hu q=>?_) ?_
   . have a6:=Rp.va f 11 76;have a7:=Rp.vu hu 1 73;obtain⟨Y,g1,M,rfl,t⟩:=q;obtain⟨ba,ff⟩:=t.b0 10 HC.o;have ho:W.ownsRow D 81 2 M (n+1) (cl++[b,S none 0 0]):=t.mo.own.tail.head;obtain⟨a',c',rfl⟩:=Qg ho;refine⟨W.setCell ⟨p,10,none⟩ (S a' (n+1) c'),?_,?_⟩
     . clear f hu ho;go_simp;try rfl
     exact⟨λh=>by omega,g1,_,rfl,t.set 10 _⟩
   exact Rp.Qj.nil
 intro V a W f;have ea:=Rp.ca f [65,66,67,68,69,70,71,72,73,74,75,76] (hN:=hN);have q:=f.ph;simp only[Km,Tq,Rp.cv f 0 65,Rp.cv f 1 66,Rp.cv f 2 67,Rp.cv f 3 68,Rp.cv f 4 69,Rp.cv f 5 70,Rp.cv f 6 71,Rp.cu f 0 72,Rp.cu f 1 73,Rp.cv f 9 74,Rp.cv f 10 75,Rp.cv f 11 76]at ea;clear f;subst ea;obtain⟨-,g1,M,rfl,t⟩:=q;refine bodyPost_end (results_none rfl _ _ _) (by simp only[Ek];exact hD) ?_;have hE:=HE.o;obtain⟨l,y,rfl,rfl,rfl,B,A⟩:=hE;refine EnM.fin (zs':=H) (off:=10) (j:=8) (z:=I) (kk:=kk) (r:=r) (by decide) (by rw[l.ll];decide) (λ_ hq=>hq) t B (λh=>?_);obtain⟨en,e1,e2⟩:=A h;refine⟨_,e1,?_⟩;have:=(l.set_far (i:=19) (by decide) (G I)).set_codes (u:=M) (y.snoc e2);simpa only[Kb,Kj,Kg,Kk]using this
theorem mcod_c (D:Nat)(w0:J)(zs:List (Nat × Obj))(p:Nat)(cells:List Vu)(X:List Qb)(m:Mod)(w:J)(a:Option Ad)(c:Nat)(ws:List Wd)(h:Rd2 D w0 zs p cells X m w a c ws)(hz:N m.gq<=1048576)(hn:N ws<=1048576):Ec Q 74 #[ptr p 0,S a (N ws) c] w (EnM ((Js ws).map λx=>{ m with gq:=m.gq++[⟨x,[]⟩] }) D w0 zs p cells X):=by
 obtain⟨i0,hi,bv,bu,bt⟩:=info_parts info206;have aw:=Hm h.lb;have F:=Hm h;clear h;obtain⟨g,hg⟩:∃g,g=w.heap.size:=⟨_,rfl⟩;obtain⟨V1,ac⟩:∃V,V=w.alloc (Fc #[S none 0 0,S none 0 0] 81):=⟨_,rfl⟩;have av:Hid (Lb w p a ws false [box 81 2 g [S none 0 0,S none 0 0],⟨206,2,0,S none 0 0,[]⟩,⟨70,5,0,S none 0 0,[]⟩] V1):=by
  refine Hm ?_;have h1:=aw.o.box (cur:=#[S none 0 0,S none 0 0]) 81 2 rfl;rw[<- ac,<- hg]at h1;have h2:Own w.heap.size V1 [⟨206,2,0,S none 0 0,[]⟩,⟨70,5,0,S none 0 0,[]⟩]:=⟨fun r hr=>by
   have:r=⟨206,2,0,S none 0 0,[]⟩\/r=⟨70,5,0,S none 0 0,[]⟩:=by simpa using hr
   rcases this with rfl | rfl <;> exact⟨rfl,.inl ⟨rfl,rfl⟩⟩,by simp[blk,Lc]⟩
  exact⟨h1.own.app (b:=[⟨206,2,0,S none 0 0,[]⟩,⟨70,5,0,S none 0 0,[]⟩]) h2 (λk _ hk=>by simp[blk,Lc]at hk),h1.pb,h1.g,h1.wv,h1.hi⟩
 clear aw;go_enter func74,ntmps74;go_upto_region 3 with fail
 rw[<- ac,<- hg];clear ac hg;go_loopw [5,6] (λvt vi wr=>∃(k:Nat) (B:Int) (gs:List Grp) (vl:Vu),vt=U O B/\vi=U O (k:Int)/\Lb w p a ws false [box 81 2 g [vl,S none 0 0],⟨206,2,N gs,vl,gcs gs⟩,⟨70,5,0,S none 0 0,[]⟩] wr/\Hid (GrI ws k gs B)) (λ_ vi _=>N ws-(intOf vi).toNat)
 case atStart=>exact⟨0,0,[],_,rfl,rfl,av.o,GrI.start ws⟩
 clear av;obtain⟨k,B,gs,vl,rfl,rfl,hR,hh⟩:=hrel;obtain⟨la,lc,rfl⟩:=Qg (show wr.ownsRow w.heap.size 206 2 vl (N gs) (gcs gs)from hR.own.all ⟨206,2,N gs,vl,gcs gs⟩ (by simp));have f:=Hm hR;clear hR;obtain⟨g1,g2,-,-,g5,g6⟩:=hh.o;have bg:Hid (N gs<=1048576):=Hm (by omega);have bs:IntKind.i64.wrap ((k:Int)+1)=(k:Int)+1:=by rw[Kw];omega
 clear g2;by_cases z:k+1<N ws
 . (have a8:(k:Int)+1<(N ws:Int):=by omega);obtain⟨b,o,rfl⟩:=f.o.wv.at (by intro e;rw[e]at z;simp at z);have b5:=f.o.wd k (show ws[k]?=some (ws.getD k []) by simp[Ty,Kv (show k<N ws by omega)]);have b4:=f.o.wd (k+1) (show ws[k+1]?=some (ws.getD (k+1) []) by simp[Ty,Kv z]);(have br:IntKind.i64.wrap ((k:Int)+2)=(k:Int)+2:=by rw[Kw];omega);obtain⟨s1,s2,s3⟩:=hh.o.step z;have HM:Hid (ws.getD k []∈ws/\ws.getD (k+1) []∈ws):=Hm ⟨by simp[Ty,show k<N ws by omega],by simp[Ty,z]⟩;generalize ws.getD k []=n at *;generalize ws.getD (k+1) []=t at *;have ar:=Hm s1;have aq:=Hm s2;have ao:=Hm s3;clear s1 s2 s3;cases hk1:okU n with
   |false =>
    have A:=Hm hk1;have HF:Hid (Js ws=none):=Hm (ar.o (by rw[hk1];rfl))
    cases hk2:okT t with
    |false =>
     have s:=Hm hk2;clear hk1 hk2;have l:=Hm (JM n wr (by have:=F.o.hl n HM.o.1;omega));have j:=Hm (sty_c t wr);rw[show okN 0 4294967295 n=false from A.o]at l;rw[show(!(tyN t==0))=false from s.o]at j
     go_wp2_with fail
     refine l.o.mono ?_
     rintro e I ⟨rfl,x,rfl,hx⟩;clear hx l
     go_wp2_with fail
     refine j.o.mono ?_
     rintro e I ⟨rfl,rfl⟩;clear j;have E:=Hm (QG p false _ f.o.pb)
     go_wp2_with fail
     refine E.o.mono ?_
     rintro e wb ⟨rfl,v,d⟩;replace f:=Hm (f.o.call v d);clear v d E
     go_wp2
     refine bodyPost_ret (results_none rfl _ _ _) rfl ?_
     exact F.o.bads f.o (by rw[HF.o];rfl)
    |true =>
     have s:=Hm hk2;clear hk1 hk2;have l:=Hm (JM n wr (by have:=F.o.hl n HM.o.1;omega));have j:=Hm (sty_c t wr);rw[show okN 0 4294967295 n=false from A.o]at l;rw[show(!(tyN t==0))=true from s.o]at j
     go_wp2_with fail
     refine l.o.mono ?_
     rintro e I ⟨rfl,x,rfl,hx⟩;clear hx l
     go_wp2_with fail
     refine j.o.mono ?_
     rintro e I ⟨rfl,rfl⟩;clear j;have E:=Hm (QG p false _ f.o.pb)
     go_wp2_with fail
     refine E.o.mono ?_
     rintro e wb ⟨rfl,v,d⟩;replace f:=Hm (f.o.call v d);clear v d E
     go_wp2
     refine bodyPost_ret (results_none rfl _ _ _) rfl ?_
     exact F.o.bads f.o (by rw[HF.o];rfl)
   |true =>
    have A:=Hm hk1
    cases hk2:okT t with
    |false =>
     have s:=Hm hk2;have HF:Hid (Js ws=none):=Hm (ar.o (by rw[hk1,hk2];rfl));clear hk1 hk2;have l:=Hm (JM n wr (by have:=F.o.hl n HM.o.1;omega));have j:=Hm (sty_c t wr);rw[show okN 0 4294967295 n=true from A.o]at l;rw[show(!(tyN t==0))=false from s.o]at j
     go_wp2_with fail
     refine l.o.mono ?_
     rintro e I ⟨rfl,x,rfl,hx⟩;clear hx l
     go_wp2_with fail
     refine j.o.mono ?_
     rintro e I ⟨rfl,rfl⟩;clear j;have E:=Hm (QG p false _ f.o.pb)
     go_wp2_with fail
     refine E.o.mono ?_
     rintro e wb ⟨rfl,v,d⟩;replace f:=Hm (f.o.call v d);clear v d E
     go_wp2
     refine bodyPost_ret (results_none rfl _ _ _) rfl ?_
     exact F.o.bads f.o (by rw[HF.o];rfl)
    |true =>
     have s:=Hm hk2;have aa:=okU_nv hk1;obtain⟨q,hq⟩:∃q,q=B+nv n:=⟨_,rfl⟩;have hw:IntKind.i64.wrap (B+nv n)=q:=by rw[hq,Kw];omega
     have ax:=Hm aa;rw[<- hq]at aq ao
     by_cases ht:4294967295<q
     . have HF:Hid (Js ws=none):=Hm (aq.o hk1 hk2 ht);clear hk1 hk2 hq aa;have l:=Hm (JM n wr (by have:=F.o.hl n HM.o.1;omega));have j:=Hm (sty_c t wr);rw[show okN 0 4294967295 n=true from A.o]at l;rw[show(!(tyN t==0))=true from s.o]at j
       go_wp2_with fail
       refine l.o.mono ?_
       rintro e I ⟨rfl,x,rfl,hx⟩;obtain rfl:nv n=x:=Option.some.inj (ax.o.2.2.symm.trans (hx trivial));clear hx l
       go_wp2_with fail
       refine j.o.mono ?_
       rintro e I ⟨rfl,rfl⟩;clear j;have E:=Hm (QG p false _ f.o.pb)
       go_wp2_with fail
       refine E.o.mono ?_
       rintro e wb ⟨rfl,v,d⟩;replace f:=Hm (f.o.call v d);clear v d E
       go_wp2
       refine bodyPost_ret (results_none rfl _ _ _) rfl ?_
       exact F.o.bads f.o (by rw[HF.o];rfl)
     . have ab:=ao.o hk1 hk2 (by omega);obtain⟨H,L⟩:∃x,x=nv n:=⟨_,rfl⟩;obtain⟨y,hy⟩:∃y,y=tyN t:=⟨_,rfl⟩;rw[<- L,<- hy]at ab;have bf:=Hm ab;have bc:=Hm L;have bb:=Hm hy;rw[<- L]at hw;clear hk1 hk2 hq aa ab L hy;have l:=Hm (JM n wr (by have:=F.o.hl n HM.o.1;omega));have j:=Hm (sty_c t wr);rw[show okN 0 4294967295 n=true from A.o]at l;rw[show(!(tyN t==0))=true from s.o,<- bb.o]at j
       go_wp2_with fail
       refine l.o.mono ?_
       rintro e I ⟨rfl,x,rfl,hx⟩;obtain rfl:H=x:=bc.o.trans (Option.some.inj (ax.o.2.2.symm.trans (hx trivial)));clear hx l
       go_wp2_with fail
       refine j.o.mono ?_
       rintro e I ⟨rfl,rfl⟩;clear j;obtain⟨c0,f0⟩:=f.o.b0 0;have HO:Hid (wr.ownsRow w.heap.size 206 2 (S la (N gs) lc) (N gs) (gcs gs)):=Hm (f.o.own.all ⟨206,2,N gs,S la (N gs) lc,gcs gs⟩ (by simp));have bd:=Hm (f.o.perm (rs':=⟨206,2,N gs,S la (N gs) lc,gcs gs⟩::[box 81 2 g [(S la (N gs) lc),S none 0 0],⟨70,5,0,S none 0 0,[]⟩]) (Kq _ _ _));have b2:w.heap.size<=wr.heap.size:=f.o.g.size;have bz:=bg.o
       go_wp2_with (at_builtin;refine wal info206 (HO.o.alloc _) [U O H,U O y] (Qq _ _ _) (one2 _ _ rfl rfl) ?_;intro v3 w3 C ak a7 Y;have au:=Hm ((bd.o.push (r':=⟨206,2,(gs++[(⟨H,y⟩:Grp)]).length,v3,gcs (gs++[(⟨H,y⟩:Grp)])⟩) (bFz.alloc lRz _) ak (by show w3.ownsRow w.heap.size 206 2 v3 (gs++[(⟨H,y⟩:Grp)]).length (gcs (gs++[(⟨H,y⟩:Grp)]));rw[gcs_snoc,Kb];exact C) Y).perm (rs':=box 81 2 g [(S la (N gs) lc),S none 0 0]::⟨206,2,(gs++[(⟨H,y⟩:Grp)]).length,v3,gcs (gs++[(⟨H,y⟩:Grp)])⟩::[⟨70,5,0,S none 0 0,[]⟩]) (Kq _ _ _));obtain⟨a4,a3,rfl⟩:=Qg C;obtain⟨d0,e0⟩:=au.o.b0 0;clear C ak a7 Y)
       go_roundw
       case rel=>exact⟨k+2,_,gs++[(⟨H,y⟩:Grp)],_,rfl,by go_num,au.o.set 0 (S a4 (N gs+1) a3),bf.o⟩
       case measure=>simp[intOf];omega
 have a8:¬(k:Int)+1<(N ws:Int):=by omega
 have R:=hh.o.fin z;have az:=Hm R;clear R hh;have M:∀u∈([(S la (N gs) lc),S none 0 0]:List Vu),u.oneCell'=true:=by simp[Hq]
 have H1:=Hm M;clear M;rcases Nat.mod_two_eq_zero_or_one (N ws)with h2|h2
 . (have aj:((N ws:Int).tmod 2)=0:=by rw[Pd (by omega)];omega);have H2:=Hm h2;clear h2;(go_upto_region 13 with fail);exact cod_fin F.o hz rfl rfl rfl rfl f.o H1.o (λe=>by cases e) (λ_=>⟨⟨gs,[]⟩,by rw[az.o.2 H2.o];rfl,_,gcs gs,_,_,rfl,lr_gcs gs,⟨[],[],LR.nil _,rfl⟩,rfl⟩)
 have aj:((N ws:Int).tmod 2)=1:=by rw[Pd (by omega)];omega
 have H2:=Hm h2;clear h2;go_wp2_with fail
 refine(QG p false _ f.o.pb).mono ?_;rintro e wb ⟨rfl,v,d⟩;replace f:=Hm (f.o.call v d);clear v d;go_upto_region 13 with fail
 exact cod_fin F.o hz rfl rfl rfl rfl f.o H1.o (λ_=>by rw[az.o.1 H2.o];rfl) (λe=>by cases e)
end YtejkdbnngphgaaaGreatDoor.Yz
namespace YtejkdbnngphgaaaGreatDoor.Yz
open Go.RowKit Go.Sort
variable {w0 V W:J}{X:List Qb}{D p k:Nat}{F:Option Mod}
abbrev RdI (D:Nat)(w0:J)(zs:List (Nat × Obj))(p:Nat)(cells:List Vu)(X:List Qb)(m:Mod)(V:J)(a:Option Ad)(c:Nat)(ws:List Wd):Prop:=@Rd2 ⟨cells,V.heap.size⟩ D w0 zs p cells X m V a c ws
theorem RdI.sec {j:List (Nat × Obj)}{cells:List Vu}{m:Mod}{a:Option Ad}{c:Nat}{ws:List Wd}(h:RdI D w0 j p cells X m V a c ws)(k:Int):RdI D w0 j p (cells.set 13 (U O k)) X m (V.setCell ⟨p,13,none⟩ (U O k)) a c ws:=by
 letI:PK:=⟨cells,V.heap.size⟩
 obtain⟨L,d,f⟩:=h.ex;refine @Rd2.mk ⟨_,_⟩ _ _ _ _ _ _ _ _ _ _ _ rfl rfl (by rw[Kz (by decide)];exact h.bad) ⟨L,d.set_far (by decide) _,f.set 13 _⟩ ?_ h.hl h.hc;rcases h.wv with e|⟨b,o,e,⟨q,l⟩,n⟩
 . exact .inl e
 have g:b<V.heap.size:=q;refine .inr ⟨b,o,e,⟨by show b<(V.setCell _ _).heap.size;simpa using g,l⟩,λi hi=>(World.cell?_of_block (Below.heap_setCell _ _ _ _ (λe=>l (by simp at e;exact e)))).trans (n i hi)⟩
def ItM (F:Option Mod)(k:Nat)(D:Nat)(w0:J)(zs:List (Nat × Obj))(p:Nat)(cells:List Vu)(X:List Qb)(e:Ending)(w':J):Prop:=e=Z (.tuple #[])/\((F=none/\∃cells' rs',Mo D w0 (rB p cells'::rs') w'/\cells'[19]?=some (G true))\/∃m' cells' L zs',(∀q∈zs,q∈zs')/\F=some m'/\MRz zs' m' cells' L/\Mq D w0 zs' (rB p cells'::(L.flatten++X)) w'/\cells'[13]?=(if k=0 then cells[13]? else some (U O (k:Int)))/\cells'[15]?=some (G (decide (k=6) || decide (9<=k)))/\cells'[16]?=some (S none 0 0)/\cells'[17]?=some (G false)/\cells'[18]?=some (G false)/\cells'[19]?=some (G false))
theorem EnM.tail {y:List (Nat × Obj)}{cells cells0:List Vu}{e:Ending}(k:Nat)(h:EnM F D w0 y p cells X e W)(n:cells[13]?=(if k=0 then cells0[13]? else some (U O (k:Int)))):e=Z (.tuple #[])/\(∃u,W.cell? ⟨p,15,none⟩=some u)/\(∃u,W.cell? ⟨p,16,none⟩=some u)/\(∃u,W.cell? ⟨p,17,none⟩=some u)/\(∃u,W.cell? ⟨p,18,none⟩=some u)/\(∀j,W.frozen? ⟨p,j,none⟩=false)/\ItM F k D w0 y p cells0 X (Z (.tuple #[])) ((((W.setCell ⟨p,15,none⟩ (G (decide (k=6) || decide (9<=k)))).setCell ⟨p,16,none⟩ (S none 0 0)).setCell ⟨p,17,none⟩ (G false)).setCell ⟨p,18,none⟩ (G false)):=by
 obtain⟨z,h⟩:=h;have c:∀{d:List Vu} {rs:List Qb},Mo D w0 (rB p d::rs) W->(∃u,W.cell? ⟨p,15,none⟩=some u)/\(∃u,W.cell? ⟨p,16,none⟩=some u)/\(∃u,W.cell? ⟨p,17,none⟩=some u)/\(∃u,W.cell? ⟨p,18,none⟩=some u)/\(∀j,W.frozen? ⟨p,j,none⟩=false):=fun {d rs} a=>by have C:=a.len;have B:W.ownsRow D 51 20 (S (some ⟨p,0,none⟩) 1 1) 1 d:=a.own.head;have hc:∀j,j<20->∃u,W.cell? ⟨p,j,none⟩=some u:=λj hj=>⟨_,(a.b0 j (Kv (by omega)) hj).1⟩;exact⟨hc 15 (by decide),hc 16 (by decide),hc 17 (by decide),hc 18 (by decide),λj=>World.ownsRow.frozenAt B j⟩
 rcases h with ⟨o,d,rs,a,b⟩|⟨A,d,L,f,g,o,m,a,l,b⟩
 . obtain⟨v,t,s,r,q⟩:=c a;refine⟨z,v,t,s,r,q,rfl,.inl ⟨o,_,_,(((a.set 15 _).set 16 _).set 17 _).set 18 _,?_⟩⟩;rw[Kz (by decide),Kz (by decide),Kz (by decide),Kz (by decide)];exact b
 obtain⟨v,t,s,r,q⟩:=c a.mo;have C:=a.mo.len;refine⟨z,v,t,s,r,q,rfl,.inr ⟨A,_,L,f,g,o,(((m.set_far (i:=15) (by decide) _).set_far (i:=16) (by decide) _).set_far (i:=17) (by decide) _).set_far (i:=18) (by decide) _,(((a.set 15 _).set 16 _).set 17 _).set 18 _,?_,?_,?_,?_,?_,?_⟩⟩
 . rw[Kz (by decide),Kz (by decide),Kz (by decide),Kz (by decide),l 13 (by decide) (by decide)];exact n
 . rw[Kz (by decide),Kz (by decide),Kz (by decide),Ky (by omega)]
 . rw[Kz (by decide),Kz (by decide),Ky (by simp;omega)]
 . rw[Kz (by decide),Ky (by simp;omega)]
 . rw[Ky (by simp;omega)]
 rw[Kz (by decide),Kz (by decide),Kz (by decide),Kz (by decide)];exact b
def XI (k:Nat)(last:Int):Bool:=decide ((k:Int)<last) || (decide (k=8)&&decide (last=8))
def guF (k:Nat)(last:Int)(F:Option Mod):Option Mod:=if XI k last then none else F
theorem Xz {last:Int}(h:XI k last=true):guF k last F=none:=by unfold guF;rw[if_pos h]
theorem guF_on {last:Int}(h:XI k last=false):guF k last F=F:=by unfold guF;rw[if_neg (by rw[h];decide)]
theorem ItM.bads {d:List (Nat × Obj)}{cells:List Vu}{m:Mod}{a:Option Ad}{c:Nat}{ws:List Wd}(h:RdI D w0 d p cells X m V a c ws)(hl:@Lb ⟨cells,V.heap.size⟩ V p a ws true [] W)(f:F=none):ItM F k D w0 d p cells X (Z (.tuple #[])) W:=by
 have:=@Rd2.bads ⟨cells,V.heap.size⟩ _ _ _ _ _ _ _ _ _ _ _ _ _ h hl F f;obtain⟨-,b|⟨g,_,_,_,_,b,-⟩⟩:=this
 . exact⟨rfl,.inl b⟩
 rw[f]at b;cases b
theorem mit0_c (last:Int)(D:Nat)(w0:J)(f:List (Nat × Obj))(p:Nat)(cells:List Vu)(X:List Qb)(m:Mod)(V:J)(a:Option Ad)(c:Nat)(ws:List Wd)(h:RdI D w0 f p cells X m V a c ws)(b:cells[13]?=some (U O last))(s:N m.gx<=1048576)(F:N ws<=1048576):Ec Q 22 #[ptr p 0,U O 0,S a (N ws) c] V (ItM (cusA last m ws) 0 D w0 f p cells X):=by
 letI:PK:=⟨cells,V.heap.size⟩
 have k:=Hm (mcus_c last D w0 f p cells X m V a c ws h b s);clear h b;go_enter func22,ntmps22;go_wp2_with fail
 refine k.o.mono ?_;rintro e E j;obtain⟨rfl,⟨r,C⟩,⟨q,B⟩,⟨n,A⟩,⟨l,z⟩,d,g⟩:=j.tail 0 (cells0:=cells) rfl;have y:=d 15;have v:=d 16;have u:=d 17;have t:=d 18;have HI:=Hm g;clear j d g k;go_wp2;go_end0;exact HI.o
theorem mitY:(∀(last:Int) (D:Nat) (w0:J) (n:List (Nat × Obj)) (p:Nat) (cells:List Vu) (X:List Qb) (m:Mod) (V:J) (a:Option Ad) (c:Nat) (ws:List Wd) (h:RdI D w0 n p cells X m V a c ws) (j:cells[13]?=some (U O last)) (u:N m.types<=1048576) (M:N ws<=1048576),Ec Q 22 #[ptr p 0,U O 1,S a (N ws) c] V (ItM (guF 1 last ((ftF ws).map λx=>{ m with types:=m.types++[x] })) 1 D w0 n p cells X))/\(∀(last:Int) (D:Nat) (w0:J) (n:List (Nat × Obj)) (p:Nat) (cells:List Vu) (X:List Qb) (m:Mod) (V:J) (a:Option Ad) (c:Nat) (ws:List Wd) (h:RdI D w0 n p cells X m V a c ws) (j:cells[13]?=some (U O last)) (u:N m.cj<=1048576) (M:N ws<=1048576),Ec Q 22 #[ptr p 0,U O 2,S a (N ws) c] V (ItM (guF 2 last ((Xy ws).map λx=>{ m with cj:=m.cj++[x] })) 2 D w0 n p cells X))/\(∀(last:Int) (D:Nat) (w0:J) (n:List (Nat × Obj)) (p:Nat) (cells:List Vu) (X:List Qb) (m:Mod) (V:J) (a:Option Ad) (c:Nat) (ws:List Wd) (h:RdI D w0 n p cells X m V a c ws) (j:cells[13]?=some (U O last)) (u:N m.fj<=1048576) (M:N ws<=1048576),Ec Q 22 #[ptr p 0,U O 7,S a (N ws) c] V (ItM (guF 7 last ((XV ws).map λx=>{ m with fj:=m.fj++[x] })) 7 D w0 n p cells X))/\(∀(last:Int) (D:Nat) (w0:J) (n:List (Nat × Obj)) (p:Nat) (cells:List Vu) (X:List Qb) (m:Mod) (V:J) (a:Option Ad) (c:Nat) (ws:List Wd) (h:RdI D w0 n p cells X m V a c ws) (j:cells[13]?=some (U O last)) (u:N m.gq<=1048576) (M:N ws<=1048576),Ec Q 22 #[ptr p 0,U O 10,S a (N ws) c] V (ItM (guF 10 last ((Js ws).map λx=>{ m with gq:=m.gq++[⟨x,[]⟩] })) 10 D w0 n p cells X)):=by
 refine⟨?c0,?c1,?c2,?c3⟩;case' c0=>have g:=0
 case' c1=>have f:=0
 case' c2=>have d:=0
 case' c3=>have aj:=0
 all_goals
  intro last D w0 n p cells X m V a c ws h j u M
  letI:PK:=⟨cells,V.heap.size⟩
  obtain⟨L,ae,C⟩:=h.ex;obtain⟨ag,af⟩:=C.b0 13 j;have k:13<N cells:=by have:=C.mo.len;omega
  clear ae C
  first|(replace g:=g;by_cases hl:(1:Int)<last)|(replace f:=f;by_cases hl:(2:Int)<last)|(replace d:=d;by_cases hl:(7:Int)<last)|(by_cases hl:(10:Int)<last)
  . have HR:=Hm h.lb;have KB:=Hm (QG p false _ HR.o.pb);have HH:=Hm h;have HL:=Hm hl;clear h
    go_enter func22,ntmps22
    go_wp2_with fail
    refine KB.o.mono ?_
    rintro e wb ⟨rfl,hp,R⟩;replace HR:=Hm (HR.o.call hp R);clear hp R KB
    go_wp2
    refine bodyPost_ret (results_none rfl _ _ _) rfl ?_
    exact ItM.bads HH.o HR.o (Xz (by have:=HL.o;simp[XI];omega))
  . rw[guF_on (by simp[XI];omega)]
    first|(replace g:=g;have t:=h.sec 1)|(replace f:=f;have t:=h.sec 2)|(replace d:=d;have t:=h.sec 7)|(have t:=h.sec 10)
    first|(replace g:=g;have l:Hid ((cells.set 13 (U O 1))[13]?=some (U O (((1:Nat):Int)))):=Hm (Ky k))|(replace f:=f;have l:Hid ((cells.set 13 (U O 2))[13]?=some (U O (((2:Nat):Int)))):=Hm (Ky k))|(replace d:=d;have l:Hid ((cells.set 13 (U O 7))[13]?=some (U O (((7:Nat):Int)))):=Hm (Ky k))|(have l:Hid ((cells.set 13 (U O 10))[13]?=some (U O (((10:Nat):Int)))):=Hm (Ky k))
    first|(replace g:=g;obtain⟨s,r⟩:∃W,W=V.setCell ⟨p,13,none⟩ (U O 1):=⟨_,rfl⟩)|(replace f:=f;obtain⟨s,r⟩:∃W,W=V.setCell ⟨p,13,none⟩ (U O 2):=⟨_,rfl⟩)|(replace d:=d;obtain⟨s,r⟩:∃W,W=V.setCell ⟨p,13,none⟩ (U O 7):=⟨_,rfl⟩)|(obtain⟨s,r⟩:∃W,W=V.setCell ⟨p,13,none⟩ (U O 10):=⟨_,rfl⟩)
    first|(replace g:=g;obtain⟨b,q⟩:∃cs,cs=cells.set 13 (U O 1):=⟨_,rfl⟩)|(replace f:=f;obtain⟨b,q⟩:∃cs,cs=cells.set 13 (U O 2):=⟨_,rfl⟩)|(replace d:=d;obtain⟨b,q⟩:∃cs,cs=cells.set 13 (U O 7):=⟨_,rfl⟩)|(obtain⟨b,q⟩:∃cs,cs=cells.set 13 (U O 10):=⟨_,rfl⟩)
    rw[<- r,<- q]at t;rw[<- q]at l
    first|(replace g:=g;have KK:=Hm (@mtyp_c ⟨b,s.heap.size⟩ D w0 n p b X m s a c ws t u M))|(replace f:=f;have KK:=Hm (@mimp_c ⟨b,s.heap.size⟩ D w0 n p b X m s a c ws t u))|(replace d:=d;have KK:=Hm (@mexp_c ⟨b,s.heap.size⟩ D w0 n p b X m s a c ws t u))|(have KK:=Hm (@mcod_c ⟨b,s.heap.size⟩ D w0 n p b X m s a c ws t u M))
    clear t q h j k
    go_enter func22,ntmps22
    go_upto_region 4 with fail
    rw[<- r];clear r ag af
    go_wp2_with fail
    refine KK.o.mono ?_
    rintro e w1 hE
    first|(replace g:=g;obtain⟨rfl,⟨B,I⟩,⟨A,H⟩,⟨z,F⟩,⟨y,E⟩,v,Y⟩:=hE.tail 1 (cells0:=cells) l.o)|(replace f:=f;obtain⟨rfl,⟨B,I⟩,⟨A,H⟩,⟨z,F⟩,⟨y,E⟩,v,Y⟩:=hE.tail 2 (cells0:=cells) l.o)|(replace d:=d;obtain⟨rfl,⟨B,I⟩,⟨A,H⟩,⟨z,F⟩,⟨y,E⟩,v,Y⟩:=hE.tail 7 (cells0:=cells) l.o)|(obtain⟨rfl,⟨B,I⟩,⟨A,H⟩,⟨z,F⟩,⟨y,E⟩,v,Y⟩:=hE.tail 10 (cells0:=cells) l.o)
    have ar:=v 15;have aq:=v 16;have ao:=v 17;have ak:=v 18;have HI:=Hm Y;clear hE v Y KK
    go_wp2
    go_end0
    exact HI.o
def mit1_c:=mitY.1
def mit2_c:=mitY.2.1
def mit7_c:=mitY.2.2.1
def mit10_c:=mitY.2.2.2
theorem EnM.fin2 {k zs':List (Nat × Obj)}{off j:Nat}{cells:List Vu}{kk r:List Qb}{L:List (List Qb)}{e:Qb}{z:Bool}{d:Vu}(a:off<13)(m:j<N L)(f:∀q∈k,q∈zs')(g:Mq D w0 zs' (rB p ((cells.set 19 (G z)).set off d)::e::(r++((L.eraseIdx j).flatten++kk++X))) W)(h1:z=true->F=none)(n:z=false->∃c,F=some c/\MRz zs' c ((cells.set 19 (G z)).set off d) (L.set j (e::(kk++r)))):EnM F D w0 k p cells X (Z (.tuple #[])) W:=by
 have l:=g.mo.len;have b:((cells.set 19 (G z)).set off d)[19]?=some (G z):=by rw[Kz (by omega)];exact Ky (by simp at l;omega)
 refine⟨rfl,?_⟩;cases z with
 |true=>exact .inl ⟨h1 rfl,_,_,g.mo,b⟩
 |false =>
  obtain⟨c,s,o⟩:=n rfl
  refine .inr ⟨c,_,_,zs',f,s,o,?_,((Sm.refl cells).set (.inr (by decide)) _).set (.inl a) _,b⟩
  exact g.perm ((perm_fin (X:=X) (e:=e) (kk:=kk) (r:=r) m).cons _)
theorem Mq.nil {c:List (Nat × Obj)}{rs:List Qb}(h:Mq D w0 c rs V)(T sz:Nat):Mq D w0 c (⟨T,sz,0,S none 0 0,[]⟩::rs) V:=by
 refine⟨⟨⟨λr a=>?_,?_⟩,h.mo.b,h.mo.le⟩,h.z⟩
 . rcases List.mem_cons.1 a with rfl|a
   . exact⟨by simp,.inl ⟨rfl,rfl⟩⟩
   exact h.mo.own.all r a
 exact h.mo.own.nd
theorem Mq.c58 {a:List (Nat × Obj)}{cells:List Vu}{rs:List Qb}(h:Mq D w0 a (rB p cells::rs) V):(∃u,V.cell? ⟨p,15,none⟩=some u)/\(∃u,V.cell? ⟨p,16,none⟩=some u)/\(∃u,V.cell? ⟨p,17,none⟩=some u)/\(∃u,V.cell? ⟨p,18,none⟩=some u)/\(∀j,V.frozen? ⟨p,j,none⟩=false):=by
 have c:=h.mo.len;have b:V.ownsRow D 51 20 (S (some ⟨p,0,none⟩) 1 1) 1 cells:=h.mo.own.head;have hc:∀j,j<20->∃u,V.cell? ⟨p,j,none⟩=some u:=λj hj=>⟨_,(h.b0 j (Kv (by omega)) hj).1⟩;exact⟨hc 15 (by decide),hc 16 (by decide),hc 17 (by decide),hc 18 (by decide),λj=>World.ownsRow.frozenAt b j⟩
theorem nums_eq:∀{ws:List Wd} {vs:List Int},Nms ws vs->ws.all okU=true/\vs=ws.map nv
 |[],[],_=>⟨rfl,rfl⟩
 |_::_,[],h=>h.elim
 |[],_::_,h=>h.elim
 |a::ws,v::vs,h=>by
  obtain⟨d,c⟩:=nums_eq h.2;have b:okU a=true:=h.1.1
  refine⟨by simp only[List.all_cons,b,d];rfl,?_⟩
  rw[List.map_cons,<- c];unfold nv;rw[h.1.2];rfl
theorem mit3_c (last:Int)(D:Nat)(w0:J)(zs:List (Nat × Obj))(p:Nat)(cells:List Vu)(X:List Qb)(m:Mod)(V:J)(a:Option Ad)(c:Nat)(ws:List Wd)(h:RdI D w0 zs p cells X m V a c ws)(l:cells[13]?=some (U O last))(hz:N m.jv<=1048576)(hn:N ws<=1048576):Ec Q 22 #[ptr p 0,U O 3,S a (N ws) c] V (ItM (guF 3 last ((uF ws).map λx=>{ m with jv:=m.jv++[x] })) 3 D w0 zs p cells X):=by
 letI P0:PK:=⟨cells,V.heap.size⟩
 obtain⟨L0,b,C⟩:=h.ex;obtain⟨aw,av⟩:=C.b0 13 l;have A:13<N cells:=by have:=C.mo.len;omega
 clear b C;by_cases hl:(3:Int)<last
 . have v:=Hm h.lb;have KB:=Hm (QG p false _ v.o.pb);have HH:=Hm h;have HL:=Hm hl;clear h;go_enter func22,ntmps22;(go_wp2_with fail);refine KB.o.mono ?_;rintro e wb ⟨rfl,R,q⟩;replace v:=Hm (v.o.call R q);clear R q KB;go_wp2;refine bodyPost_ret (results_none rfl _ _ _) rfl ?_;exact ItM.bads HH.o v.o (Xz (by have:=HL.o;simp[XI];omega))
 rw[guF_on (by simp[XI];omega)];have Y:=h.sec 3;have ah:Hid ((cells.set 13 (U O 3))[13]?=some (U O (((3:Nat):Int)))):=Hm (Ky A);obtain⟨V1,I⟩:∃W,W=V.setCell ⟨p,13,none⟩ (U O 3):=⟨_,rfl⟩;obtain⟨g,H⟩:∃cs,cs=cells.set 13 (U O 3):=⟨_,rfl⟩;rw[<- I,<- H]at Y;rw[<- H]at ah;letI P1:PK:=⟨g,V1.heap.size⟩
 have v:=Hm Y.lb;have HH:=Hm Y;have KC:=Hm (mu32_c p a c ws false V1 v.o.pb v.o.wv Y.hl);obtain⟨L,b,E⟩:=Y.ex;obtain⟨vl,cl,kk,e1,s,pm⟩:=b.jv.at_;obtain⟨n,d⟩:∃n,n=N m.jv:=⟨_,rfl⟩;have HN:Hid (n<=1048576):=Hm (by omega);have HE:=Hm (And.intro b (And.intro s (And.intro E (And.intro pm (And.intro e1 d)))));obtain⟨la,lc,rfl⟩:=Qg (show V1.ownsRow D 2 1 vl n cl from E.mo.own.all (⟨2,1,n,vl,cl⟩:Qb) (mC ((Je (X:=X) pm).mem_iff.2 (by rw[d];exact mS ..))));clear Y H h l A b E e1 s pm d hz;go_enter func22,ntmps22;go_upto_region 4 with fail
 rw[<- I];clear I aw av;obtain⟨z,ad⟩:∃z',z'=(false || (uF ws).isNone):=⟨_,rfl⟩;have HZ:=Hm ad;clear ad;go_wp2_with fail
 refine KC.o.mono ?_;rintro e w1 ⟨x,rfl,R,q,hy⟩;rw[<- HZ.o]at R;have HY:=Hm hy;obtain⟨f,t⟩:∃cs,cs=g.set 19 (G z):=⟨_,rfl⟩;obtain⟨ac,hr⟩:∃r,r=[]++((L.eraseIdx 2).flatten++kk++X):=⟨_,rfl⟩;have HC:Hid (f[2]?=some (S la n lc)):=Hm (by rw[t,Kz (by decide)];exact HE.o.2.2.2.2.1);have HM:Hid (Mq D w0 zs (rB p f::⟨2,1,n,S la n lc,cl⟩::ac) w1):=by refine Hm ?_;rw[t,hr];have h1:=(v.o.call R q).backq HE.o.2.2.1 rfl;rw[List.nil_append]at h1⊢;have h2:=Je (X:=X) HE.o.2.2.2.1;rw[<- HE.o.2.2.2.2.2]at h2;exact h1.perm (h2.cons _)
 have a0:=Hm (And.intro t hr);clear R q hy KC t hr v;obtain⟨c2,f2⟩:=HM.o.b0 2 HC.o;have HO:Hid (w1.ownsRow D 2 1 (S la n lc) n cl):=Hm HM.o.mo.own.tail.head;have bj:=HN.o;have bl:=HM.o.le;have az:=Hm (HM.o.keep (bFz.alloc lRz (Fc #[U O x] 2)));go_wp2_with (at_builtin;refine wal info2 (HO.o.alloc _) [U O x] (cell_one_new _ _ _) (oneI _) ?_;intro v3 w3 k af d B;have M:=Hm (az.o.push2 (r':=⟨2,1,n+1,v3,cl++[Value.int O x]⟩) af k B);obtain⟨ab,aa,rfl⟩:=Qg k;obtain⟨d0,e0⟩:=M.o.b0 2 HC.o;obtain⟨⟨bg,bw⟩,⟨bf,bv⟩,⟨bd,bu⟩,⟨bc,bt⟩,hf⟩:=M.o.c58;have br:=hf 15;have bq:=hf 16;have bp:=hf 17;have bo:=hf 18;clear k af d B hf)
 go_end0;have hm:=M.o.set 2 (S ab (n+1) aa);obtain⟨rfl,rfl⟩:=a0.o;obtain⟨b,s,-,-,-,d⟩:=HE.o;refine(EnM.tail 3 (EnM.fin2 (zs':=zs) (off:=2) (j:=2) (z:=z) (kk:=kk) (r:=[]) (F:=(uF ws).map λx=>{ m with jv:=m.jv++[x] }) (by decide) (by rw[b.ll];decide) (λ_ hq=>hq) hm (λh=>?_) (λh=>?_)) (cells0:=cells) ah.o).2.2.2.2.2.2
 . have:=HZ.o.symm.trans h;cases hu:uF ws with
   |none=>rfl
   |some y=>simp[hu]at this
 have h0:=HZ.o.symm.trans h;cases hu:uF ws with
 |none=>simp[hu]at h0
 |some y =>
  have ex:=HY.o y trivial hu;subst ex
  refine⟨_,rfl,?_⟩
  have:=(b.set_far (i:=19) (by decide) (G z)).set_funcs (u:=.slice ab (n+1) aa) (s.snoc (x:=x) (cs:=[U O x]) (rs:=[]) ⟨rfl,rfl⟩)
  simpa only[Kb,Kj,Kg,Kk,d]using this
