import Derived.Test.YtejkdbnngphgaaaGreatDoorGau
import Derived.Test.YtejkdbnngphgaaaGreatDoorGas
set_option linter.all false
set_option maxHeartbeats 400000000
set_option maxRecDepth 100000
namespace Go.Proofs
open Value renaming int->U,slice->S,pointer->Yp,string->Xs
open IntKind renaming i64->O,u64->Ou
open Obj renaming cells->Fc
open Go renaming World->J,Calls->Ec,Value->Vu,Addr->Ad
open Go.RowKit renaming Below->Bw
open Tryz renaming prog->Q
open Tryz
open Nat renaming add_zero->Hc,zero_add->Kk,le_of_lt_succ->Dg
open List renaming getD_cons_zero->Tg,length_cons->Kj,length_nil->Kg,length->N
open World renaming block_lt_of_cell?->Kh
namespace YtejkdbnngphgaaaGreatDoor.Yz
open Go.RowKit Go.Sort
variable [PK]
theorem sri_7 (p b o c:Nat)(s:Wd)(r:List Wd)(w:J)(h:Pb w p false)(hb:b<PK.hi/\b≠p)(hc:∀i,i<(s::r).length->w.cell? ⟨b,o+i,none⟩=some (Xs (Sz0 ((s::r).getD i []))))(ac:(s::r).length<=c)(hl:∀x∈s::r,N x<=1099511627776)(ah:N r<=1099511627776)(hf:QD (Qe (Qt s))=7):Ec Q 23 #[Yp (some ⟨p,0,none⟩),S (some ⟨b,o,none⟩) (s::r).length c] w (SiP 7 (Qt s) r w p):=by
 have cx:=hc 0 (by simp);simp only[Hc,Tg]at cx;obtain⟨W,hW⟩:∃W,W=w.alloc (Fc #[U O 0,U O 0,U O 0,U Ou 0,S none 0 0] 70):=⟨_,rfl⟩;have ar:Bw w.heap.size w W:=by rw[hW];exact bFz.alloc lRz _
 have aq:Hid (W.heap.size=w.heap.size+1):=by show _=_;rw[hW];simp
 have ay:C5 W w.heap.size 0 (U O 0) (U O 0) (U O 0) (U Ou 0) (S none 0 0):=by rw[hW];exact C5.new
 have bd:W.cell? ⟨b,o,none⟩=some (Xs (Sz0 s)):=(ar.cell (p:=⟨b,o,none⟩) (Kh w _ cx)).trans cx;have KC:=Hm (Xi (Sz0 s) W);rw[QB]at KC;have HW:=Hm hW;simp only[Kj]at ac⊢;have a5:=Hm (Xg hb hc ac);have a1:∀x∈r,N x<=1099511627776:=λx hx=>hl x (by simp[hx]);have HL:=Hm a1;have a6:=Hm h;have aj:=h.lt2;have KF:=Hm (λUz0=>Xh (Qt s) Uz0);rw[hf]at KF;have bb:=(form_op (Qt s)).1 hf;clear cx hW hc hl a1 h hf;generalize Qt s=op at *;subst bb;go_enter func23,ntmps23;go_upto_region 1 with fail
 rw[<- HW.o];go_wp2_with fail
 refine KC.o.mono ?_;rintro e w1 ⟨rfl,ai⟩;go_upto_region 3 with fail
 generalize(if c=1 then(some ⟨b,o,none⟩:Option Ad)else some ⟨b,o+1,none⟩)=ra at *;generalize c-1=rc at *;have a0:w.heap.size<w1.heap.size:=by have:=ai.size;have:=aq.o;omega
 have A:Bw w.heap.size w w1:=ar.trans (ai.mono (by have:=aq.o;omega));have az:C5 w1 w.heap.size 0 (U O 0) (U O 0) (U O 0) (U Ou 0) (S none 0 0):=ay.keep ai;refine Qh (λUz0=>Sx w p w1.heap.size ra r false (U O 65) (U O 0) (U O 0) (U Ou 0) (S none 0 0) Uz0) ⟨C5.new,az.past,a6.o.keep (A.alloc A.size _),Qu (A.alloc A.size _),a5.o.keep (A.alloc A.size _) aj,aj,a0⟩ ?_;rintro Uz0 av;have g:=Hm av;have j:=av.x.1.1;clear av a5 a6 ar aq ay bd KC HW ac ai A az a0;go_wp2_with fail
 refine(KF.o _).mono ?_;rintro e w2 ⟨rfl,rfl⟩;clear KF j;match r,ah,HL,g with
 |[],ah,HL,g =>
  simp only[Kg]
  have KB:=Hm (QG p _ _ g.o.pb)
  go_wp2_with fail
  refine KB.o.mono ?_
  rintro e w9 ⟨rfl,d,f⟩;have S9:=Hm (g.o.call f d);clear d f KB g;obtain⟨⟨j,M,L,u,I⟩,-⟩:=S9.o.x;obtain⟨⟨H,F,E,D,C⟩,a⟩:=S9.o.z
  simp only[Kk]at j M L u I H F E D C
  have q:=a 0;have n:=a 1;have m:=a 2;have l:=a 3;have k:=a 4;clear a
  go_wp2
  refine Qx (λV=>C5 V w.heap.size 0 (U O 65) (U O 0) (U O 0) (U Ou 0) (S none 0 0)/\Pb V p true/\w.grownBy V (some p)) (S9.o.fin _ _ _ _ _) ?_
  rintro V ⟨⟨⟨t0,t1,B,Y,X⟩,-⟩,R,gU⟩
  simp only[Kk]at t0 t1 B Y X
  have HU:=Hm (And.intro R gU);clear R gU j M L u I H F E D C q n m l k
  exact bodyPost_ret (v:=inV ⟨65,0,0,0,[]⟩ none 0) (by simp[results,results23,go_sem,t0,t1,B,Y,X]) rfl ⟨⟨65,0,0,0,[]⟩,none,0,true,rfl,rfl,QQ _,HU.o.1,HU.o.2,λh=>absurd h (by decide),λ_ ⟨y,hy⟩=>by rw[arg_7]at hy;obtain⟨s2,v2,e2,-⟩:=hy;cases e2⟩
 |t::B::r,ah,HL,g =>
  simp only[Kj]
  have KB:=Hm (QG p _ _ g.o.pb)
  go_wp2_with fail
  refine KB.o.mono ?_
  rintro e w9 ⟨rfl,d,f⟩;have S9:=Hm (g.o.call f d);clear d f KB g;obtain⟨⟨j,M,L,u,I⟩,-⟩:=S9.o.x;obtain⟨⟨H,F,E,D,C⟩,a⟩:=S9.o.z
  simp only[Kk]at j M L u I H F E D C
  have q:=a 0;have n:=a 1;have m:=a 2;have l:=a 3;have k:=a 4;clear a
  go_wp2
  refine Qx (λV=>C5 V w.heap.size 0 (U O 65) (U O 0) (U O 0) (U Ou 0) (S none 0 0)/\Pb V p true/\w.grownBy V (some p)) (S9.o.fin _ _ _ _ _) ?_
  rintro V ⟨⟨⟨t0,t1,B,Y,X⟩,-⟩,R,gU⟩
  simp only[Kk]at t0 t1 B Y X
  have HU:=Hm (And.intro R gU);clear R gU j M L u I H F E D C q n m l k
  exact bodyPost_ret (v:=inV ⟨65,0,0,0,[]⟩ none 0) (by simp[results,results23,go_sem,t0,t1,B,Y,X]) rfl ⟨⟨65,0,0,0,[]⟩,none,0,true,rfl,rfl,QQ _,HU.o.1,HU.o.2,λh=>absurd h (by decide),λ_ ⟨y,hy⟩=>by rw[arg_7]at hy;obtain⟨s2,v2,e2,-⟩:=hy;cases e2⟩
 |[t],ah,HL,g =>
  rcases g.o.wv with e|⟨b5,o5,rfl,bs,a2⟩
  . cases e
  have ct:=a2 0 (by simp)
  simp only[Hc,Tg]at ct
  clear a2;have KN:=Hm (λV=>con65_c t V (HL.o t (by simp)));have j:=g.o.x.1.1;have u:=g.o.x.1.2.2.2.1;have ao:=g.o.x.2 3
  simp only[Kk]at u ao
  have S5:=Hm g.o.drew
  simp only[Kj,Kg]
  cases hok:okN (-2147483648) 2147483647 t with
  |true =>
   rw[hok]at KN;have aw:=Hm hok;clear hok
   go_upto_region 42 with fail
   go_region_law (first
    | (
     go_simp
     refine(KN.o _).mono ?_
     rintro e w5 ⟨rfl,v,rfl,hv⟩;have HV:=Hm hv;clear hv))
   all_goals
    go_upto_region 44 with fail
    refine Qh (λV=>Sx w p w1.heap.size (some ⟨b5,o5,none⟩) [t] false (U O 65) (U O 0) (U O 0) (U Ou v) (S none 0 0) V) S5.o.set3 ?_
    rintro V6 ae;have SY:=Hm ae;clear ae j u ao S5 g;obtain⟨⟨j,M,L,u,I⟩,-⟩:=SY.o.x;obtain⟨⟨H,F,E,D,C⟩,a⟩:=SY.o.z
    simp only[Kk]at j M L u I H F E D C
    have q:=a 0;have n:=a 1;have m:=a 2;have l:=a 3;have k:=a 4;clear a
    go_wp2
    refine Qx (λV=>C5 V w.heap.size 0 (U O 65) (U O 0) (U O 0) (U Ou v) (S none 0 0)/\Pb V p false/\w.grownBy V (some p)) (SY.o.fin _ _ _ _ _) ?_
    rintro V ⟨⟨⟨t0,t1,B,Y,X⟩,-⟩,R,gU⟩
    simp only[Kk]at t0 t1 B Y X
    have HU:=Hm (And.intro R gU);clear R gU j M L u I H F E D C q n m l k
    exact bodyPost_ret (v:=inV ⟨65,0,0,v,[]⟩ none 0) (by simp[results,results23,go_sem,t0,t1,B,Y,X]) rfl ⟨⟨65,0,0,v,[]⟩,none,0,false,rfl,rfl,QQ _,HU.o.1,HU.o.2,λ_=>⟨by decide,by rw[arg_7];obtain⟨v',h1,rfl⟩:=HV.o trivial;exact⟨t,v',rfl,⟨aw.o,h1⟩,rfl⟩⟩,λ_ _=>rfl⟩
  |false =>
   rw[hok]at KN;have aw:=Hm hok;clear hok
   go_upto_region 42 with fail
   go_region_law (first
    | (
     go_simp
     refine(KN.o _).mono ?_
     rintro e w5 ⟨rfl,v,rfl,hv⟩;have HV:=Hm hv;clear hv))
   all_goals
    go_upto_region 44 with fail
    refine Qh (λV=>Sx w p w1.heap.size (some ⟨b5,o5,none⟩) [t] false (U O 65) (U O 0) (U O 0) (U Ou v) (S none 0 0) V) S5.o.set3 ?_
    rintro V6 ae;have SY:=Hm ae;clear ae j u ao S5 g;have KB:=Hm (QG p _ _ SY.o.pb)
    go_wp2_with fail
    refine KB.o.mono ?_
    rintro e w9 ⟨rfl,d,f⟩;have S9:=Hm (SY.o.call f d);clear d f KB SY;obtain⟨⟨j,M,L,u,I⟩,-⟩:=S9.o.x;obtain⟨⟨H,F,E,D,C⟩,a⟩:=S9.o.z
    simp only[Kk]at j M L u I H F E D C
    have q:=a 0;have n:=a 1;have m:=a 2;have l:=a 3;have k:=a 4;clear a
    go_wp2
    refine Qx (λV=>C5 V w.heap.size 0 (U O 65) (U O 0) (U O 0) (U Ou v) (S none 0 0)/\Pb V p true/\w.grownBy V (some p)) (S9.o.fin _ _ _ _ _) ?_
    rintro V ⟨⟨⟨t0,t1,B,Y,X⟩,-⟩,R,gU⟩
    simp only[Kk]at t0 t1 B Y X
    have HU:=Hm (And.intro R gU);clear R gU j M L u I H F E D C q n m l k
    exact bodyPost_ret (v:=inV ⟨65,0,0,v,[]⟩ none 0) (by simp[results,results23,go_sem,t0,t1,B,Y,X]) rfl ⟨⟨65,0,0,v,[]⟩,none,0,true,rfl,rfl,QQ _,HU.o.1,HU.o.2,λh=>absurd h (by decide),λ_ ⟨y,hy⟩=>by rw[arg_7]at hy;obtain⟨s2,v2,e2,hn,-⟩:=hy;cases e2;exact absurd hn.1 (by rw[aw.o];decide)⟩
theorem sri_8 (p b o c:Nat)(s:Wd)(r:List Wd)(w:J)(h:Pb w p false)(hb:b<PK.hi/\b≠p)(hc:∀i,i<(s::r).length->w.cell? ⟨b,o+i,none⟩=some (Xs (Sz0 ((s::r).getD i []))))(ac:(s::r).length<=c)(hl:∀x∈s::r,N x<=1099511627776)(ah:N r<=1099511627776)(hf:QD (Qe (Qt s))=8):Ec Q 23 #[Yp (some ⟨p,0,none⟩),S (some ⟨b,o,none⟩) (s::r).length c] w (SiP 8 (Qt s) r w p):=by
 have cx:=hc 0 (by simp);simp only[Hc,Tg]at cx;obtain⟨W,hW⟩:∃W,W=w.alloc (Fc #[U O 0,U O 0,U O 0,U Ou 0,S none 0 0] 70):=⟨_,rfl⟩;have ar:Bw w.heap.size w W:=by rw[hW];exact bFz.alloc lRz _
 have aq:Hid (W.heap.size=w.heap.size+1):=by show _=_;rw[hW];simp
 have ay:C5 W w.heap.size 0 (U O 0) (U O 0) (U O 0) (U Ou 0) (S none 0 0):=by rw[hW];exact C5.new
 have bd:W.cell? ⟨b,o,none⟩=some (Xs (Sz0 s)):=(ar.cell (p:=⟨b,o,none⟩) (Kh w _ cx)).trans cx;have KC:=Hm (Xi (Sz0 s) W);rw[QB]at KC;have HW:=Hm hW;simp only[Kj]at ac⊢;have a5:=Hm (Xg hb hc ac);have a1:∀x∈r,N x<=1099511627776:=λx hx=>hl x (by simp[hx]);have HL:=Hm a1;have a6:=Hm h;have aj:=h.lt2;have KF:=Hm (λUz0=>Xh (Qt s) Uz0);rw[hf]at KF;have bb:=(form_op (Qt s)).2.1 hf;clear cx hW hc hl a1 h hf;generalize Qt s=op at *;subst bb;go_enter func23,ntmps23;go_upto_region 1 with fail
 rw[<- HW.o];go_wp2_with fail
 refine KC.o.mono ?_;rintro e w1 ⟨rfl,ai⟩;go_upto_region 3 with fail
 generalize(if c=1 then(some ⟨b,o,none⟩:Option Ad)else some ⟨b,o+1,none⟩)=ra at *;generalize c-1=rc at *;have a0:w.heap.size<w1.heap.size:=by have:=ai.size;have:=aq.o;omega
 have A:Bw w.heap.size w w1:=ar.trans (ai.mono (by have:=aq.o;omega));have az:C5 w1 w.heap.size 0 (U O 0) (U O 0) (U O 0) (U Ou 0) (S none 0 0):=ay.keep ai;refine Qh (λUz0=>Sx w p w1.heap.size ra r false (U O 66) (U O 0) (U O 0) (U Ou 0) (S none 0 0) Uz0) ⟨C5.new,az.past,a6.o.keep (A.alloc A.size _),Qu (A.alloc A.size _),a5.o.keep (A.alloc A.size _) aj,aj,a0⟩ ?_;rintro Uz0 av;have g:=Hm av;have j:=av.x.1.1;clear av a5 a6 ar aq ay bd KC HW ac ai A az a0;go_wp2_with fail
 refine(KF.o _).mono ?_;rintro e w2 ⟨rfl,rfl⟩;clear KF j;match r,ah,HL,g with
 |[],ah,HL,g =>
  simp only[Kg]
  have KB:=Hm (QG p _ _ g.o.pb)
  go_wp2_with fail
  refine KB.o.mono ?_
  rintro e w9 ⟨rfl,d,f⟩;have S9:=Hm (g.o.call f d);clear d f KB g;obtain⟨⟨j,M,L,u,I⟩,-⟩:=S9.o.x;obtain⟨⟨H,F,E,D,C⟩,a⟩:=S9.o.z
  simp only[Kk]at j M L u I H F E D C
  have q:=a 0;have n:=a 1;have m:=a 2;have l:=a 3;have k:=a 4;clear a
  go_wp2
  refine Qx (λV=>C5 V w.heap.size 0 (U O 66) (U O 0) (U O 0) (U Ou 0) (S none 0 0)/\Pb V p true/\w.grownBy V (some p)) (S9.o.fin _ _ _ _ _) ?_
  rintro V ⟨⟨⟨t0,t1,B,Y,X⟩,-⟩,R,gU⟩
  simp only[Kk]at t0 t1 B Y X
  have HU:=Hm (And.intro R gU);clear R gU j M L u I H F E D C q n m l k
  exact bodyPost_ret (v:=inV ⟨66,0,0,0,[]⟩ none 0) (by simp[results,results23,go_sem,t0,t1,B,Y,X]) rfl ⟨⟨66,0,0,0,[]⟩,none,0,true,rfl,rfl,QQ _,HU.o.1,HU.o.2,λh=>absurd h (by decide),λ_ ⟨y,hy⟩=>by rw[arg_8]at hy;obtain⟨s2,v2,e2,-⟩:=hy;cases e2⟩
 |t::B::r,ah,HL,g =>
  simp only[Kj]
  have KB:=Hm (QG p _ _ g.o.pb)
  go_wp2_with fail
  refine KB.o.mono ?_
  rintro e w9 ⟨rfl,d,f⟩;have S9:=Hm (g.o.call f d);clear d f KB g;obtain⟨⟨j,M,L,u,I⟩,-⟩:=S9.o.x;obtain⟨⟨H,F,E,D,C⟩,a⟩:=S9.o.z
  simp only[Kk]at j M L u I H F E D C
  have q:=a 0;have n:=a 1;have m:=a 2;have l:=a 3;have k:=a 4;clear a
  go_wp2
  refine Qx (λV=>C5 V w.heap.size 0 (U O 66) (U O 0) (U O 0) (U Ou 0) (S none 0 0)/\Pb V p true/\w.grownBy V (some p)) (S9.o.fin _ _ _ _ _) ?_
  rintro V ⟨⟨⟨t0,t1,B,Y,X⟩,-⟩,R,gU⟩
  simp only[Kk]at t0 t1 B Y X
  have HU:=Hm (And.intro R gU);clear R gU j M L u I H F E D C q n m l k
  exact bodyPost_ret (v:=inV ⟨66,0,0,0,[]⟩ none 0) (by simp[results,results23,go_sem,t0,t1,B,Y,X]) rfl ⟨⟨66,0,0,0,[]⟩,none,0,true,rfl,rfl,QQ _,HU.o.1,HU.o.2,λh=>absurd h (by decide),λ_ ⟨y,hy⟩=>by rw[arg_8]at hy;obtain⟨s2,v2,e2,-⟩:=hy;cases e2⟩
 |[t],ah,HL,g =>
  rcases g.o.wv with e|⟨b5,o5,rfl,bs,a2⟩
  . cases e
  have ct:=a2 0 (by simp)
  simp only[Hc,Tg]at ct
  clear a2;have KN:=Hm (λV=>con66_c t V (HL.o t (by simp)));have j:=g.o.x.1.1;have u:=g.o.x.1.2.2.2.1;have ao:=g.o.x.2 3
  simp only[Kk]at u ao
  have S5:=Hm g.o.drew
  simp only[Kj,Kg]
  cases hok:okN (-9223372036854775808) 9223372036854775807 t with
  |true =>
   rw[hok]at KN;have aw:=Hm hok;clear hok
   go_upto_region 42 with fail
   go_region_law (first
    | (
     go_simp
     refine(KN.o _).mono ?_
     rintro e w5 ⟨rfl,v,rfl,hv⟩;have HV:=Hm hv;clear hv))
   all_goals
    go_upto_region 44 with fail
    refine Qh (λV=>Sx w p w1.heap.size (some ⟨b5,o5,none⟩) [t] false (U O 66) (U O 0) (U O 0) (U Ou v) (S none 0 0) V) S5.o.set3 ?_
    rintro V6 ae;have SY:=Hm ae;clear ae j u ao S5 g;obtain⟨⟨j,M,L,u,I⟩,-⟩:=SY.o.x;obtain⟨⟨H,F,E,D,C⟩,a⟩:=SY.o.z
    simp only[Kk]at j M L u I H F E D C
    have q:=a 0;have n:=a 1;have m:=a 2;have l:=a 3;have k:=a 4;clear a
    go_wp2
    refine Qx (λV=>C5 V w.heap.size 0 (U O 66) (U O 0) (U O 0) (U Ou v) (S none 0 0)/\Pb V p false/\w.grownBy V (some p)) (SY.o.fin _ _ _ _ _) ?_
    rintro V ⟨⟨⟨t0,t1,B,Y,X⟩,-⟩,R,gU⟩
    simp only[Kk]at t0 t1 B Y X
    have HU:=Hm (And.intro R gU);clear R gU j M L u I H F E D C q n m l k
    exact bodyPost_ret (v:=inV ⟨66,0,0,v,[]⟩ none 0) (by simp[results,results23,go_sem,t0,t1,B,Y,X]) rfl ⟨⟨66,0,0,v,[]⟩,none,0,false,rfl,rfl,QQ _,HU.o.1,HU.o.2,λ_=>⟨by decide,by rw[arg_8];obtain⟨v',h1,rfl⟩:=HV.o trivial;exact⟨t,v',rfl,⟨aw.o,h1⟩,rfl⟩⟩,λ_ _=>rfl⟩
  |false =>
   rw[hok]at KN;have aw:=Hm hok;clear hok
   go_upto_region 42 with fail
   go_region_law (first
    | (
     go_simp
     refine(KN.o _).mono ?_
     rintro e w5 ⟨rfl,v,rfl,hv⟩;have HV:=Hm hv;clear hv))
   all_goals
    go_upto_region 44 with fail
    refine Qh (λV=>Sx w p w1.heap.size (some ⟨b5,o5,none⟩) [t] false (U O 66) (U O 0) (U O 0) (U Ou v) (S none 0 0) V) S5.o.set3 ?_
    rintro V6 ae;have SY:=Hm ae;clear ae j u ao S5 g;have KB:=Hm (QG p _ _ SY.o.pb)
    go_wp2_with fail
    refine KB.o.mono ?_
    rintro e w9 ⟨rfl,d,f⟩;have S9:=Hm (SY.o.call f d);clear d f KB SY;obtain⟨⟨j,M,L,u,I⟩,-⟩:=S9.o.x;obtain⟨⟨H,F,E,D,C⟩,a⟩:=S9.o.z
    simp only[Kk]at j M L u I H F E D C
    have q:=a 0;have n:=a 1;have m:=a 2;have l:=a 3;have k:=a 4;clear a
    go_wp2
    refine Qx (λV=>C5 V w.heap.size 0 (U O 66) (U O 0) (U O 0) (U Ou v) (S none 0 0)/\Pb V p true/\w.grownBy V (some p)) (S9.o.fin _ _ _ _ _) ?_
    rintro V ⟨⟨⟨t0,t1,B,Y,X⟩,-⟩,R,gU⟩
    simp only[Kk]at t0 t1 B Y X
    have HU:=Hm (And.intro R gU);clear R gU j M L u I H F E D C q n m l k
    exact bodyPost_ret (v:=inV ⟨66,0,0,v,[]⟩ none 0) (by simp[results,results23,go_sem,t0,t1,B,Y,X]) rfl ⟨⟨66,0,0,v,[]⟩,none,0,true,rfl,rfl,QQ _,HU.o.1,HU.o.2,λh=>absurd h (by decide),λ_ ⟨y,hy⟩=>by rw[arg_8]at hy;obtain⟨s2,v2,e2,hn,-⟩:=hy;cases e2;exact absurd hn.1 (by rw[aw.o];decide)⟩
theorem sri_9 (p b o c:Nat)(s:Wd)(r:List Wd)(w:J)(h:Pb w p false)(hb:b<PK.hi/\b≠p)(hc:∀i,i<(s::r).length->w.cell? ⟨b,o+i,none⟩=some (Xs (Sz0 ((s::r).getD i []))))(ad:(s::r).length<=c)(hl:∀x∈s::r,N x<=1099511627776)(ai:N r<=1099511627776)(hf:QD (Qe (Qt s))=9):Ec Q 23 #[Yp (some ⟨p,0,none⟩),S (some ⟨b,o,none⟩) (s::r).length c] w (SiP 9 (Qt s) r w p):=by
 have cx:=hc 0 (by simp);simp only[Hc,Tg]at cx;obtain⟨W,hW⟩:∃W,W=w.alloc (Fc #[U O 0,U O 0,U O 0,U Ou 0,S none 0 0] 70):=⟨_,rfl⟩;have au:Bw w.heap.size w W:=by rw[hW];exact bFz.alloc lRz _
 have ar:Hid (W.heap.size=w.heap.size+1):=by show _=_;rw[hW];simp
 have az:C5 W w.heap.size 0 (U O 0) (U O 0) (U O 0) (U Ou 0) (S none 0 0):=by rw[hW];exact C5.new
 have bf:W.cell? ⟨b,o,none⟩=some (Xs (Sz0 s)):=(au.cell (p:=⟨b,o,none⟩) (Kh w _ cx)).trans cx;have KC:=Hm (Xi (Sz0 s) W);rw[QB]at KC;have HW:=Hm hW;simp only[Kj]at ad⊢;have a6:=Hm (Xg hb hc ad);have a2:∀x∈r,N x<=1099511627776:=λx hx=>hl x (by simp[hx]);have HL:=Hm a2;have a7:=Hm h;have ak:=h.lt2;have KF:=Hm (λUz0=>Xh (Qt s) Uz0);rw[hf]at KF;have bc:=(form_op (Qt s)).2.2.1 hf;clear cx hW hc hl a2 h hf;generalize Qt s=op at *;subst bc;go_enter func23,ntmps23;go_upto_region 1 with fail
 rw[<- HW.o];go_wp2_with fail
 refine KC.o.mono ?_;rintro e w1 ⟨rfl,aj⟩;go_upto_region 3 with fail
 generalize(if c=1 then(some ⟨b,o,none⟩:Option Ad)else some ⟨b,o+1,none⟩)=ra at *;generalize c-1=rc at *;have a1:w.heap.size<w1.heap.size:=by have:=aj.size;have:=ar.o;omega
 have B:Bw w.heap.size w w1:=au.trans (aj.mono (by have:=ar.o;omega));have a0:C5 w1 w.heap.size 0 (U O 0) (U O 0) (U O 0) (U Ou 0) (S none 0 0):=az.keep aj;refine Qh (λUz0=>Sx w p w1.heap.size ra r false (U O 67) (U O 0) (U O 0) (U Ou 0) (S none 0 0) Uz0) ⟨C5.new,a0.past,a7.o.keep (B.alloc B.size _),Qu (B.alloc B.size _),a6.o.keep (B.alloc B.size _) ak,ak,a1⟩ ?_;rintro Uz0 aw;have g:=Hm aw;have j:=aw.x.1.1;clear aw a6 a7 au ar az bf KC HW ad aj B a0 a1;go_wp2_with fail
 refine(KF.o _).mono ?_;rintro e w2 ⟨rfl,rfl⟩;clear KF j;match r,ai,HL,g with
 |[],ai,HL,g =>
  simp only[Kg]
  have KB:=Hm (QG p _ _ g.o.pb)
  go_wp2_with fail
  refine KB.o.mono ?_
  rintro e w9 ⟨rfl,d,f⟩;have S9:=Hm (g.o.call f d);clear d f KB g;obtain⟨⟨j,R,M,A,L⟩,-⟩:=S9.o.x;obtain⟨⟨I,H,F,E,D⟩,a⟩:=S9.o.z
  simp only[Kk]at j R M A L I H F E D
  have q:=a 0;have n:=a 1;have m:=a 2;have l:=a 3;have k:=a 4;clear a
  go_wp2
  refine Qx (λV=>C5 V w.heap.size 0 (U O 67) (U O 0) (U O 0) (U Ou 0) (S none 0 0)/\Pb V p true/\w.grownBy V (some p)) (S9.o.fin _ _ _ _ _) ?_
  rintro V ⟨⟨⟨t0,t1,C,t3,Y⟩,-⟩,X,gU⟩
  simp only[Kk]at t0 t1 C t3 Y
  have HU:=Hm (And.intro X gU);clear X gU j R M A L I H F E D q n m l k
  exact bodyPost_ret (v:=inV ⟨67,0,0,0,[]⟩ none 0) (by simp[results,results23,go_sem,t0,t1,C,t3,Y]) rfl ⟨⟨67,0,0,0,[]⟩,none,0,true,rfl,rfl,QQ _,HU.o.1,HU.o.2,λh=>absurd h (by decide),λ_ ⟨y,hy⟩=>by rw[arg_9]at hy;obtain⟨s2,v2,e2,-⟩:=hy;cases e2⟩
 |t::C::r,ai,HL,g =>
  simp only[Kj]
  have KB:=Hm (QG p _ _ g.o.pb)
  go_wp2_with fail
  refine KB.o.mono ?_
  rintro e w9 ⟨rfl,d,f⟩;have S9:=Hm (g.o.call f d);clear d f KB g;obtain⟨⟨j,R,M,A,L⟩,-⟩:=S9.o.x;obtain⟨⟨I,H,F,E,D⟩,a⟩:=S9.o.z
  simp only[Kk]at j R M A L I H F E D
  have q:=a 0;have n:=a 1;have m:=a 2;have l:=a 3;have k:=a 4;clear a
  go_wp2
  refine Qx (λV=>C5 V w.heap.size 0 (U O 67) (U O 0) (U O 0) (U Ou 0) (S none 0 0)/\Pb V p true/\w.grownBy V (some p)) (S9.o.fin _ _ _ _ _) ?_
  rintro V ⟨⟨⟨t0,t1,C,t3,Y⟩,-⟩,X,gU⟩
  simp only[Kk]at t0 t1 C t3 Y
  have HU:=Hm (And.intro X gU);clear X gU j R M A L I H F E D q n m l k
  exact bodyPost_ret (v:=inV ⟨67,0,0,0,[]⟩ none 0) (by simp[results,results23,go_sem,t0,t1,C,t3,Y]) rfl ⟨⟨67,0,0,0,[]⟩,none,0,true,rfl,rfl,QQ _,HU.o.1,HU.o.2,λh=>absurd h (by decide),λ_ ⟨y,hy⟩=>by rw[arg_9]at hy;obtain⟨s2,v2,e2,-⟩:=hy;cases e2⟩
 |[t],ai,HL,g =>
  rcases g.o.wv with e|⟨b5,o5,rfl,bu,a3⟩
  . cases e
  have ct:=a3 0 (by simp)
  simp only[Hc,Tg]at ct
  clear a3;have KN:=Hm (λV=>con67_c t V (HL.o t (by simp)));have j:=g.o.x.1.1;have A:=g.o.x.1.2.2.2.1;have aq:=g.o.x.2 3
  simp only[Kk]at A aq
  have S5:=Hm g.o.drew
  simp only[Kj,Kg]
  cases hok:(Xv 8 t).isSome with
  |true =>
   rw[hok]at KN;have ax:=Hm hok;clear hok
   go_upto_region 42 with fail
   go_region_law (first
    | (
     go_simp
     refine(KN.o _).mono ?_
     rintro e w5 ⟨rfl,v,rfl,hv⟩;have HV:=Hm hv;clear hv))
   all_goals
    go_upto_region 44 with fail
    refine Qh (λV=>Sx w p w1.heap.size (some ⟨b5,o5,none⟩) [t] false (U O 67) (U O 0) (U O 0) (U Ou v) (S none 0 0) V) S5.o.set3 ?_
    rintro V6 af;have SY:=Hm af;clear af j A aq S5 g;obtain⟨⟨j,R,M,A,L⟩,-⟩:=SY.o.x;obtain⟨⟨I,H,F,E,D⟩,a⟩:=SY.o.z
    simp only[Kk]at j R M A L I H F E D
    have q:=a 0;have n:=a 1;have m:=a 2;have l:=a 3;have k:=a 4;clear a
    go_wp2
    refine Qx (λV=>C5 V w.heap.size 0 (U O 67) (U O 0) (U O 0) (U Ou v) (S none 0 0)/\Pb V p false/\w.grownBy V (some p)) (SY.o.fin _ _ _ _ _) ?_
    rintro V ⟨⟨⟨t0,t1,C,t3,Y⟩,-⟩,X,gU⟩
    simp only[Kk]at t0 t1 C t3 Y
    have HU:=Hm (And.intro X gU);clear X gU j R M A L I H F E D q n m l k
    exact bodyPost_ret (v:=inV ⟨67,0,0,v,[]⟩ none 0) (by simp[results,results23,go_sem,t0,t1,C,t3,Y]) rfl ⟨⟨67,0,0,v,[]⟩,none,0,false,rfl,rfl,QQ _,HU.o.1,HU.o.2,λ_=>⟨by decide,by rw[arg_9];obtain⟨u,h1,rfl⟩:=HV.o trivial;obtain⟨k1,k2⟩:=(XW 8 t u).1 h1;exact⟨t,u,rfl,by rw[okB_iff 8 4294967295 t (by decide) (by decide) (by decide)];exact ax.o,Dg (by simpa using k1),k2,rfl⟩⟩,λ_ _=>rfl⟩
  |false =>
   rw[hok]at KN;have ax:=Hm hok;clear hok
   go_upto_region 42 with fail
   go_region_law (first
    | (
     go_simp
     refine(KN.o _).mono ?_
     rintro e w5 ⟨rfl,v,rfl,hv⟩;have HV:=Hm hv;clear hv))
   all_goals
    go_upto_region 44 with fail
    refine Qh (λV=>Sx w p w1.heap.size (some ⟨b5,o5,none⟩) [t] false (U O 67) (U O 0) (U O 0) (U Ou v) (S none 0 0) V) S5.o.set3 ?_
    rintro V6 af;have SY:=Hm af;clear af j A aq S5 g;have KB:=Hm (QG p _ _ SY.o.pb)
    go_wp2_with fail
    refine KB.o.mono ?_
    rintro e w9 ⟨rfl,d,f⟩;have S9:=Hm (SY.o.call f d);clear d f KB SY;obtain⟨⟨j,R,M,A,L⟩,-⟩:=S9.o.x;obtain⟨⟨I,H,F,E,D⟩,a⟩:=S9.o.z
    simp only[Kk]at j R M A L I H F E D
    have q:=a 0;have n:=a 1;have m:=a 2;have l:=a 3;have k:=a 4;clear a
    go_wp2
    refine Qx (λV=>C5 V w.heap.size 0 (U O 67) (U O 0) (U O 0) (U Ou v) (S none 0 0)/\Pb V p true/\w.grownBy V (some p)) (S9.o.fin _ _ _ _ _) ?_
    rintro V ⟨⟨⟨t0,t1,C,t3,Y⟩,-⟩,X,gU⟩
    simp only[Kk]at t0 t1 C t3 Y
    have HU:=Hm (And.intro X gU);clear X gU j R M A L I H F E D q n m l k
    exact bodyPost_ret (v:=inV ⟨67,0,0,v,[]⟩ none 0) (by simp[results,results23,go_sem,t0,t1,C,t3,Y]) rfl ⟨⟨67,0,0,v,[]⟩,none,0,true,rfl,rfl,QQ _,HU.o.1,HU.o.2,λh=>absurd h (by decide),λ_ ⟨y,hy⟩=>by rw[arg_9]at hy;obtain⟨s2,u,e2,hn,-⟩:=hy;cases e2;rw[okB_iff 8 4294967295 t (by decide) (by decide) (by decide),ax.o]at hn;exact absurd hn (by decide)⟩
theorem sri_10 (p b o c:Nat)(s:Wd)(r:List Wd)(w:J)(h:Pb w p false)(hb:b<PK.hi/\b≠p)(hc:∀i,i<(s::r).length->w.cell? ⟨b,o+i,none⟩=some (Xs (Sz0 ((s::r).getD i []))))(ad:(s::r).length<=c)(hl:∀x∈s::r,N x<=1099511627776)(ai:N r<=1099511627776)(hf:QD (Qe (Qt s))=10):Ec Q 23 #[Yp (some ⟨p,0,none⟩),S (some ⟨b,o,none⟩) (s::r).length c] w (SiP 10 (Qt s) r w p):=by
 have cx:=hc 0 (by simp);simp only[Hc,Tg]at cx;obtain⟨W,hW⟩:∃W,W=w.alloc (Fc #[U O 0,U O 0,U O 0,U Ou 0,S none 0 0] 70):=⟨_,rfl⟩;have au:Bw w.heap.size w W:=by rw[hW];exact bFz.alloc lRz _
 have ar:Hid (W.heap.size=w.heap.size+1):=by show _=_;rw[hW];simp
 have az:C5 W w.heap.size 0 (U O 0) (U O 0) (U O 0) (U Ou 0) (S none 0 0):=by rw[hW];exact C5.new
 have bf:W.cell? ⟨b,o,none⟩=some (Xs (Sz0 s)):=(au.cell (p:=⟨b,o,none⟩) (Kh w _ cx)).trans cx;have KC:=Hm (Xi (Sz0 s) W);rw[QB]at KC;have HW:=Hm hW;simp only[Kj]at ad⊢;have a6:=Hm (Xg hb hc ad);have a2:∀x∈r,N x<=1099511627776:=λx hx=>hl x (by simp[hx]);have HL:=Hm a2;have a7:=Hm h;have ak:=h.lt2;have KF:=Hm (λUz0=>Xh (Qt s) Uz0);rw[hf]at KF;have bc:=(form_op (Qt s)).2.2.2 hf;clear cx hW hc hl a2 h hf;generalize Qt s=op at *;subst bc;go_enter func23,ntmps23;go_upto_region 1 with fail
 rw[<- HW.o];go_wp2_with fail
 refine KC.o.mono ?_;rintro e w1 ⟨rfl,aj⟩;go_upto_region 3 with fail
 generalize(if c=1 then(some ⟨b,o,none⟩:Option Ad)else some ⟨b,o+1,none⟩)=ra at *;generalize c-1=rc at *;have a1:w.heap.size<w1.heap.size:=by have:=aj.size;have:=ar.o;omega
 have B:Bw w.heap.size w w1:=au.trans (aj.mono (by have:=ar.o;omega));have a0:C5 w1 w.heap.size 0 (U O 0) (U O 0) (U O 0) (U Ou 0) (S none 0 0):=az.keep aj;refine Qh (λUz0=>Sx w p w1.heap.size ra r false (U O 68) (U O 0) (U O 0) (U Ou 0) (S none 0 0) Uz0) ⟨C5.new,a0.past,a7.o.keep (B.alloc B.size _),Qu (B.alloc B.size _),a6.o.keep (B.alloc B.size _) ak,ak,a1⟩ ?_;rintro Uz0 aw;have g:=Hm aw;have j:=aw.x.1.1;clear aw a6 a7 au ar az bf KC HW ad aj B a0 a1;go_wp2_with fail
 refine(KF.o _).mono ?_;rintro e w2 ⟨rfl,rfl⟩;clear KF j;match r,ai,HL,g with
 |[],ai,HL,g =>
  simp only[Kg]
  have KB:=Hm (QG p _ _ g.o.pb)
  go_wp2_with fail
  refine KB.o.mono ?_
  rintro e w9 ⟨rfl,d,f⟩;have S9:=Hm (g.o.call f d);clear d f KB g;obtain⟨⟨j,R,M,A,L⟩,-⟩:=S9.o.x;obtain⟨⟨I,H,F,E,D⟩,a⟩:=S9.o.z
  simp only[Kk]at j R M A L I H F E D
  have q:=a 0;have n:=a 1;have m:=a 2;have l:=a 3;have k:=a 4;clear a
  go_wp2
  refine Qx (λV=>C5 V w.heap.size 0 (U O 68) (U O 0) (U O 0) (U Ou 0) (S none 0 0)/\Pb V p true/\w.grownBy V (some p)) (S9.o.fin _ _ _ _ _) ?_
  rintro V ⟨⟨⟨t0,t1,C,t3,Y⟩,-⟩,X,gU⟩
  simp only[Kk]at t0 t1 C t3 Y
  have HU:=Hm (And.intro X gU);clear X gU j R M A L I H F E D q n m l k
  exact bodyPost_ret (v:=inV ⟨68,0,0,0,[]⟩ none 0) (by simp[results,results23,go_sem,t0,t1,C,t3,Y]) rfl ⟨⟨68,0,0,0,[]⟩,none,0,true,rfl,rfl,QQ _,HU.o.1,HU.o.2,λh=>absurd h (by decide),λ_ ⟨y,hy⟩=>by rw[arg_10]at hy;obtain⟨s2,v2,e2,-⟩:=hy;cases e2⟩
 |t::C::r,ai,HL,g =>
  simp only[Kj]
  have KB:=Hm (QG p _ _ g.o.pb)
  go_wp2_with fail
  refine KB.o.mono ?_
  rintro e w9 ⟨rfl,d,f⟩;have S9:=Hm (g.o.call f d);clear d f KB g;obtain⟨⟨j,R,M,A,L⟩,-⟩:=S9.o.x;obtain⟨⟨I,H,F,E,D⟩,a⟩:=S9.o.z
  simp only[Kk]at j R M A L I H F E D
  have q:=a 0;have n:=a 1;have m:=a 2;have l:=a 3;have k:=a 4;clear a
  go_wp2
  refine Qx (λV=>C5 V w.heap.size 0 (U O 68) (U O 0) (U O 0) (U Ou 0) (S none 0 0)/\Pb V p true/\w.grownBy V (some p)) (S9.o.fin _ _ _ _ _) ?_
  rintro V ⟨⟨⟨t0,t1,C,t3,Y⟩,-⟩,X,gU⟩
  simp only[Kk]at t0 t1 C t3 Y
  have HU:=Hm (And.intro X gU);clear X gU j R M A L I H F E D q n m l k
  exact bodyPost_ret (v:=inV ⟨68,0,0,0,[]⟩ none 0) (by simp[results,results23,go_sem,t0,t1,C,t3,Y]) rfl ⟨⟨68,0,0,0,[]⟩,none,0,true,rfl,rfl,QQ _,HU.o.1,HU.o.2,λh=>absurd h (by decide),λ_ ⟨y,hy⟩=>by rw[arg_10]at hy;obtain⟨s2,v2,e2,-⟩:=hy;cases e2⟩
 |[t],ai,HL,g =>
  rcases g.o.wv with e|⟨b5,o5,rfl,bu,a3⟩
  . cases e
  have ct:=a3 0 (by simp)
  simp only[Hc,Tg]at ct
  clear a3;have KN:=Hm (λV=>con68_c t V (HL.o t (by simp)));have j:=g.o.x.1.1;have A:=g.o.x.1.2.2.2.1;have aq:=g.o.x.2 3
  simp only[Kk]at A aq
  have S5:=Hm g.o.drew
  simp only[Kj,Kg]
  cases hok:(Xv 16 t).isSome with
  |true =>
   rw[hok]at KN;have ax:=Hm hok;clear hok
   go_upto_region 42 with fail
   go_region_law (first
    | (
     go_simp
     refine(KN.o _).mono ?_
     rintro e w5 ⟨rfl,v,rfl,hv⟩;have HV:=Hm hv;clear hv))
   all_goals
    go_upto_region 44 with fail
    refine Qh (λV=>Sx w p w1.heap.size (some ⟨b5,o5,none⟩) [t] false (U O 68) (U O 0) (U O 0) (U Ou v) (S none 0 0) V) S5.o.set3 ?_
    rintro V6 af;have SY:=Hm af;clear af j A aq S5 g;obtain⟨⟨j,R,M,A,L⟩,-⟩:=SY.o.x;obtain⟨⟨I,H,F,E,D⟩,a⟩:=SY.o.z
    simp only[Kk]at j R M A L I H F E D
    have q:=a 0;have n:=a 1;have m:=a 2;have l:=a 3;have k:=a 4;clear a
    go_wp2
    refine Qx (λV=>C5 V w.heap.size 0 (U O 68) (U O 0) (U O 0) (U Ou v) (S none 0 0)/\Pb V p false/\w.grownBy V (some p)) (SY.o.fin _ _ _ _ _) ?_
    rintro V ⟨⟨⟨t0,t1,C,t3,Y⟩,-⟩,X,gU⟩
    simp only[Kk]at t0 t1 C t3 Y
    have HU:=Hm (And.intro X gU);clear X gU j R M A L I H F E D q n m l k
    exact bodyPost_ret (v:=inV ⟨68,0,0,v,[]⟩ none 0) (by simp[results,results23,go_sem,t0,t1,C,t3,Y]) rfl ⟨⟨68,0,0,v,[]⟩,none,0,false,rfl,rfl,QQ _,HU.o.1,HU.o.2,λ_=>⟨by decide,by rw[arg_10];obtain⟨u,h1,rfl⟩:=HV.o trivial;obtain⟨k1,k2⟩:=(XW 16 t u).1 h1;exact⟨t,u,rfl,by rw[okB_iff 16 18446744073709551615 t (by decide) (by decide) (by decide)];exact ax.o,Dg (by simpa using k1),k2,rfl⟩⟩,λ_ _=>rfl⟩
  |false =>
   rw[hok]at KN;have ax:=Hm hok;clear hok
   go_upto_region 42 with fail
   go_region_law (first
    | (
     go_simp
     refine(KN.o _).mono ?_
     rintro e w5 ⟨rfl,v,rfl,hv⟩;have HV:=Hm hv;clear hv))
   all_goals
    go_upto_region 44 with fail
    refine Qh (λV=>Sx w p w1.heap.size (some ⟨b5,o5,none⟩) [t] false (U O 68) (U O 0) (U O 0) (U Ou v) (S none 0 0) V) S5.o.set3 ?_
    rintro V6 af;have SY:=Hm af;clear af j A aq S5 g;have KB:=Hm (QG p _ _ SY.o.pb)
    go_wp2_with fail
    refine KB.o.mono ?_
    rintro e w9 ⟨rfl,d,f⟩;have S9:=Hm (SY.o.call f d);clear d f KB SY;obtain⟨⟨j,R,M,A,L⟩,-⟩:=S9.o.x;obtain⟨⟨I,H,F,E,D⟩,a⟩:=S9.o.z
    simp only[Kk]at j R M A L I H F E D
    have q:=a 0;have n:=a 1;have m:=a 2;have l:=a 3;have k:=a 4;clear a
    go_wp2
    refine Qx (λV=>C5 V w.heap.size 0 (U O 68) (U O 0) (U O 0) (U Ou v) (S none 0 0)/\Pb V p true/\w.grownBy V (some p)) (S9.o.fin _ _ _ _ _) ?_
    rintro V ⟨⟨⟨t0,t1,C,t3,Y⟩,-⟩,X,gU⟩
    simp only[Kk]at t0 t1 C t3 Y
    have HU:=Hm (And.intro X gU);clear X gU j R M A L I H F E D q n m l k
    exact bodyPost_ret (v:=inV ⟨68,0,0,v,[]⟩ none 0) (by simp[results,results23,go_sem,t0,t1,C,t3,Y]) rfl ⟨⟨68,0,0,v,[]⟩,none,0,true,rfl,rfl,QQ _,HU.o.1,HU.o.2,λh=>absurd h (by decide),λ_ ⟨y,hy⟩=>by rw[arg_10]at hy;obtain⟨s2,u,e2,hn,-⟩:=hy;cases e2;rw[okB_iff 16 18446744073709551615 t (by decide) (by decide) (by decide),ax.o]at hn;exact absurd hn (by decide)⟩
end YtejkdbnngphgaaaGreatDoor.Yz
namespace YtejkdbnngphgaaaGreatDoor.Yz
open Go.RowKit Go.Sort
variable [PK]
theorem ownE_take {w:J}{B e g b n:Nat}{k:List Vu}(h:w.ownsRow B e 1 (S (some ⟨g,0,none⟩) (n+1) b) (n+1) k):w.ownsRow B e 1 (S (some ⟨g,0,none⟩) n b) n (k.take n):=by
 rcases h.2 with ⟨c,_⟩|⟨r,l,j,c,p,o,m,f,d,a⟩
 . simp at c
 simp only[Value.slice.injEq,Option.some.injEq,Addr.mk.injEq,and_true,true_and]at c;obtain⟨rfl,rfl⟩:=c;have q:=h.1;refine⟨by simp;omega,.inr ⟨g,b,j,rfl,p,o,by omega,f,d,?_⟩⟩;rw[<- a,List.take_take];congr 1
 omega
theorem own_hz {w:J}{B n:Nat}{g a:Nat}{vs:List Int}(b:n<=B)(h:w.ownsRow B 2 1 (S (some ⟨g,0,none⟩) (N vs) a) (N vs) (I vs)):Hz n w (some ⟨g,0,none⟩) a vs:=World.ownsRow.mono h b
theorem nms_split:∀(r:List Wd) (vs:List Int) (v:Int),Nms r (vs++[v])->∃a s,r=a++[s]/\Nms a vs/\Nm 0 4294967295 s v
 |[],[],v,g=>g.elim
 |[],_::_,v,g=>g.elim
 |s::r,[],v,g=>by
  match r,g with
  |[],g=>exact⟨[],s,rfl,trivial,g.1⟩
 |s::r,u::vs,v,g=>by
  obtain⟨a,t,e,c,b⟩:=nms_split r vs v g.2
  exact⟨s::a,t,by rw[e];rfl,⟨g.1,c⟩,b⟩
theorem sri_3 (p b o c:Nat)(s:Wd)(r:List Wd)(w:J)(h:Pb w p false)(hb:b<PK.hi/\b≠p)(hc:∀i,i<(s::r).length->w.cell? ⟨b,o+i,none⟩=some (Xs (Sz0 ((s::r).getD i []))))(n:(s::r).length<=c)(hl:∀x∈s::r,N x<=1099511627776)(bp:N r<=1099511627776)(hf:QD (Qe (Qt s))=3):Ec Q 23 #[Yp (some ⟨p,0,none⟩),S (some ⟨b,o,none⟩) (s::r).length c] w (SiP 3 (Qt s) r w p):=by
 have cx:=hc 0 (by simp);simp only[Hc,Tg]at cx;obtain⟨W,hW⟩:∃W,W=w.alloc (Fc #[U O 0,U O 0,U O 0,U Ou 0,S none 0 0] 70):=⟨_,rfl⟩;have ab:Bw w.heap.size w W:=by rw[hW];exact bFz.alloc lRz _
 have X:Hid (W.heap.size=w.heap.size+1):=by show _=_;rw[hW];simp
 have a2:C5 W w.heap.size 0 (U O 0) (U O 0) (U O 0) (U Ou 0) (S none 0 0):=by rw[hW];exact C5.new
 have bs:W.cell? ⟨b,o,none⟩=some (Xs (Sz0 s)):=(ab.cell (p:=⟨b,o,none⟩) (Kh w _ cx)).trans cx;have KC:=Hm (Xi (Sz0 s) W);rw[QB]at KC;have HW:=Hm hW;simp only[Kj]at n⊢;have bf:=Hm (Xg hb hc n);have a7:∀x∈r,N x<=1099511627776:=λx hx=>hl x (by simp[hx]);have HL:=Hm a7;have bg:=Hm h;have C:=h.lt2;have KF:=Hm (λUz0=>Xh (Qt s) Uz0);rw[hf]at KF;clear cx hW hc hl a7 h hf;generalize Qt s=op at *;go_enter func23,ntmps23;go_upto_region 1 with fail
 rw[<- HW.o];go_wp2_with fail
 refine KC.o.mono ?_;rintro e k ⟨rfl,q⟩;go_upto_region 3 with fail
 generalize(if c=1 then(some ⟨b,o,none⟩:Option Ad)else some ⟨b,o+1,none⟩)=ra at *;generalize c-1=rc at *;have a4:w.heap.size<k.heap.size:=by have:=q.size;have:=X.o;omega
 have f:Bw w.heap.size w k:=ab.trans (q.mono (by have:=X.o;omega));have a3:C5 k w.heap.size 0 (U O 0) (U O 0) (U O 0) (U Ou 0) (S none 0 0):=a2.keep q;refine Qh (λUz0=>Sx w p k.heap.size ra r false (U O op) (U O 0) (U O 0) (U Ou 0) (S none 0 0) Uz0) ⟨C5.new,a3.past,bg.o.keep (f.alloc f.size _),Qu (f.alloc f.size _),bf.o.keep (f.alloc f.size _) C,C,a4⟩ ?_;rintro Uz0 ac;have SU:=Hm ac;have M:=ac.x.1.1;clear ac bf bg ab X a2 bs KC HW n q f a3 a4;go_wp2_with fail
 refine(KF.o _).mono ?_;rintro e w2 ⟨rfl,rfl⟩;clear KF M;have KR:=Hm (srn_c p ra rc r false _ SU.o.pb SU.o.wv HL.o bp);go_wp2_with fail
 refine KR.o.mono ?_;rintro e w3 ⟨vv,R,b2,rfl,a,a5,l,m,A1,A2⟩;have S3:=Hm (SU.o.call m l);have HA:=Hm (And.intro a5 (And.intro A1 A2));have ba:k.heap.size<Uz0.heap.size:=Kh Uz0 _ SU.o.x.1.1;have ck:w.heap.size<k.heap.size:=SU.o.hX;have a6:N R<=1099511627776:=by omega
 clear l m A1 A2 KR SU a5;by_cases h2:R=[]
 . subst h2;obtain⟨va,vc,rfl⟩:=QL a;simp only[Kg];clear a;have KB:=Hm (QG p _ _ S3.o.pb);(go_wp2_with fail);refine KB.o.mono ?_;rintro e w9 ⟨rfl,l,m⟩;have S9:=Hm (S3.o.call m l);clear l m KB S3;obtain⟨⟨M,x1,x2,x3,B⟩,-⟩:=S9.o.x;obtain⟨⟨z0,z1,z2,z3,z4⟩,j⟩:=S9.o.z;simp only[Kk]at M x1 x2 x3 B z0 z1 z2 z3 z4;have L:=j 0;have H:=j 1;have F:=j 2;have E:=j 3;have D:=j 4;clear j;go_wp2;refine Qx (λV=>C5 V w.heap.size 0 (U O op) (U O 0) (U O 0) (U Ou 0) (S none 0 0)/\Pb V p true/\w.grownBy V (some p)) (S9.o.fin _ _ _ _ _) ?_;rintro V ⟨⟨⟨t0,t1,t2,t3,t4⟩,-⟩,tU,gU⟩;simp only[Kk]at t0 t1 t2 t3 t4;have HU:=Hm (And.intro tU gU);clear tU gU M x1 x2 x3 B z0 z1 z2 z3 z4 L H F E D;exact bodyPost_ret (v := inV ⟨op, 0, 0, 0, []⟩ none 0) (by simp[results, results23, go_sem, t0, t1, t2, t3, t4]) rfl ⟨⟨op, 0, 0, 0, []⟩, none, 0, true, rfl, rfl, QQ _, HU.o.1, HU.o.2, fun h => absurd h (by decide), fun _ ⟨y, hy⟩ => by
         rw[arg_3]at hy;obtain⟨ss,s1,R,u,rfl,-⟩:=hy
         have:=HA.o.1
         simp at this⟩
 obtain⟨vs,v,rfl⟩:∃vs v,R=vs++[v]:=⟨R.dropLast,R.getLast h2,(List.dropLast_concat_getLast h2).symm⟩;obtain⟨g,d,rfl,hg,aa,a9⟩:=own_cells a (by simp);have dl:=a9 (N vs) (by simp);have a8:(vs++[v]).getD (N vs) 0=v:=by simp[List.getD]
 rw[a8]at dl;have Y:(vs++[v]).length=N vs+1:=by simp
 rw[Y]at a aa⊢;have OT:Hid (w3.ownsRow Uz0.heap.size 2 1 (S (some ⟨g,0,none⟩) (N vs) d) (N vs) (I vs)):=by show World.ownsRow _ _ _ _ _ _ _;have:=ownE_take a;simpa[I]using this
 have b6:N vs<=1099511627776:=by rw[Y]at a6;omega
 have ci:IntKind.i64.wrap ((N vs:Int)+1-1)=(N vs:Int):=by rw[IntKind.wrap_i64];omega
 have B:=S3.o.x.1.2.2.2.2;have aq:=S3.o.x.2 4;simp only[Kk]at B aq;have bq:k.heap.size≠g:=by omega
 clear a9 a h2 a8 Y a6;go_upto_region 27 with fail
 refine Qh (λV=>Sx w p k.heap.size ra r b2 (U O op) (U O 0) (U O 0) (U Ou 0) (S (some ⟨g,0,none⟩) (N vs) d) V/\V.cell? ⟨g,N vs,none⟩=some (U O v)/\V.ownsRow Uz0.heap.size 2 1 (S (some ⟨g,0,none⟩) (N vs) d) (N vs) (I vs)) ⟨S3.o.set4,by rw[World.cell?_setCell_other _ _ _ _ (λe=>bq (congrArg Addr.block e))];exact dl,ownsRow_setCell_below OT.o (show k.heap.size<_ from ba) _⟩ ?_;rintro V4 ⟨A,e1,oV⟩;have SV:=Hm A;have OV:=Hm oV;have y1:=A.x.1.2.1;have ao:=A.x.2 1;simp only[Kk]at y1 ao;clear A oV B aq dl S3 OT;go_upto_region 46 with fail
 refine Qh (λV=>Sx w p k.heap.size ra r b2 (U O op) (U O v) (U O 0) (U Ou 0) (S (some ⟨g,0,none⟩) (N vs) d) V/\V.ownsRow Uz0.heap.size 2 1 (S (some ⟨g,0,none⟩) (N vs) d) (N vs) (I vs)) ⟨SV.o.set1,ownsRow_setCell_below OV.o (show k.heap.size<_ from ba) _⟩ ?_;rintro V6 ⟨bd,oY⟩;have SY:=Hm bd;have OY:=Hm oY;clear bd oY y1 ao e1 SV OV;obtain⟨⟨M,x1,x2,x3,B⟩,-⟩:=SY.o.x;obtain⟨⟨z0,z1,z2,z3,z4⟩,j⟩:=SY.o.z;simp only[Kk]at M x1 x2 x3 B z0 z1 z2 z3 z4;have L:=j 0;have H:=j 1;have F:=j 2;have E:=j 3;have D:=j 4;clear j;go_wp2;refine Qx (λV=>(C5 V w.heap.size 0 (U O op) (U O v) (U O 0) (U Ou 0) (S (some ⟨g,0,none⟩) (N vs) d)/\Pb V p b2/\w.grownBy V (some p))/\Hz w.heap.size V (some ⟨g,0,none⟩) d vs) ⟨SY.o.fin _ _ _ _ _,own_hz (show w.heap.size<=Uz0.heap.size by omega) (ownsRow_setCell_below (ownsRow_setCell_below (ownsRow_setCell_below (ownsRow_setCell_below (ownsRow_setCell_below OY.o (show w.heap.size<_ by omega) _) (show w.heap.size<_ by omega) _) (show w.heap.size<_ by omega) _) (show w.heap.size<_ by omega) _) (show w.heap.size<_ by omega) _)⟩ ?_;rintro V ⟨⟨⟨⟨t0,t1,t2,t3,t4⟩,-⟩,tU,gU⟩,hV⟩;simp only[Kk]at t0 t1 t2 t3 t4;have HU:=Hm (And.intro tU (And.intro gU hV));clear tU gU hV M x1 x2 x3 B z0 z1 z2 z3 z4 L H F E D;exact bodyPost_ret (v:=inV ⟨op,v,0,0,vs⟩ (some ⟨g,0,none⟩) d) (by simp[results,results23,go_sem,t0,t1,t2,t3,t4]) rfl ⟨⟨op,v,0,0,vs⟩,some ⟨g,0,none⟩,d,b2,rfl,rfl,HU.o.2.2,HU.o.1,HU.o.2.1,fun h=>⟨by decide,by
  rw[arg_3];obtain⟨ss,s1,e,n1,n2⟩:=nms_split _ _ _ (HA.o.2.1 h).2
  exact⟨ss,s1,vs,v,e,n1,n2,rfl⟩⟩,fun _ ⟨y,hy⟩=>by
  rw[arg_3]at hy;obtain⟨ss,s1,R,u,rfl,n1,n2,-⟩:=hy
  exact HA.o.2.2 trivial (fun t ht=>by
   rcases List.mem_append.1 ht with ht|ht
   . exact nms_ok _ _ n1 t ht
   . simp at ht;subst ht;exact n2.1)⟩
theorem sri_c (p b o c:Nat)(s:Wd)(r:List Wd)(w:J)(h:Pb w p false)(f:b<PK.hi/\b≠p)(hc:∀i,i<(s::r).length->w.cell? ⟨b,o+i,none⟩=some (Xs (Sz0 ((s::r).getD i []))))(a:(s::r).length<=c)(hl:∀x∈s::r,N x<=1099511627776)(d:N r<=1099511627776):Ec Q 23 #[Yp (some ⟨p,0,none⟩),S (some ⟨b,o,none⟩) (s::r).length c] w (SiP (QD (Qe (Qt s))) (Qt s) r w p):=by
 rcases X9 (Qt s)with e|e|e|e|e|e|e|e|e|e|e|e
 . rw[e];exact sri_m1 p b o c s r w h f hc a hl d e
 . rw[e];exact sri_0 p b o c s r w h f hc a hl d e
 . rw[e];exact sri_1 p b o c s r w h f hc a hl d e
 . rw[e];exact sri_2 p b o c s r w h f hc a hl d e
 . rw[e];exact sri_3 p b o c s r w h f hc a hl d e
 . rw[e];exact sri_4 p b o c s r w h f hc a hl d e
 . rw[e];exact sri_5 p b o c s r w h f hc a hl d e
 . rw[e];exact sri_6 p b o c s r w h f hc a hl d e
 . rw[e];exact sri_7 p b o c s r w h f hc a hl d e
 . rw[e];exact sri_8 p b o c s r w h f hc a hl d e
 . rw[e];exact sri_9 p b o c s r w h f hc a hl d e
 rw[e];exact sri_10 p b o c s r w h f hc a hl d e
