import Derived.Test.YtaccbbndmmhenaaGreatGax
set_option linter.all false
set_option maxHeartbeats 400000000
set_option maxRecDepth 100000
namespace Go.Proofs
open Value renaming int->U,slice->S,bool->G,pointer->Yp,agg->Ag
open IntKind renaming i64->O
open Ending renaming returned->Z
open Obj renaming cells->Fc
open Go renaming World->J,Calls->Ec,Value->Vu,Addr->Ad
open Go.RowKit renaming Below->Bw
open Tryz renaming prog->Q
open Tryz
open Int renaming toNat_natCast->Kc
open List renaming perm_iff_count->Kn,count_cons->Th,count_append->Mj,getD->Kx,length->N
namespace YtaccbbndmmhenaaGreat.Va
open Go.RowKit Go.Sort
theorem Mo.first {D w0 V}{r:Qb}{rs:List Qb}(h:Mo D w0 (r::rs) V):Mo D w0 [r] V:=Mo.right (ns:=rs) (h.perm (by simpa using (List.perm_append_comm (l₁:=[r]) (l₂:=rs))))
theorem ctr_drop {D:Nat}{a:J}{x:Ctx}{t:Ctv}{ns ks:List Qb}{p:Nat}{d b bv:Vu}{c po e:Int}{s:Fn}{n:Nat}{cs:List Vu}(h:CtR D a x t (ns++(mxR p d c b bv e po::stR s b::mlR n bv cs::ks))):CtR D a x t (ns++ks):=by
 refine⟨h.ty,?_,h.ft,?_⟩
 . have:=h.fr;simp[mxR,stR,mlR,box]at this⊢;exact this
 have:=h.gr;simp[mxR,stR,mlR,box]at this⊢;exact this
theorem sstk_g (md:Mod)(A:MdA)(i k:Nat)(w:J)(hI:Mod.Is 0 w md A.a1 A.a2 A.a3 A.a4 A.a5 A.a6 A.a7 A.a8 A.a9 A.a10 A.a11)(hL:Mod.LB 1048576 md)(hp:md.Pos)(hP:Pl md (i:Int) (k:Int)):Ec Q 5 #[mdV md A,U O (i:Int),U O (k:Int)] w (SaP w md i k):=by
 obtain⟨W,hW⟩:∃W,W=(w.alloc (Fc (mdC md A) 48)).alloc (Fc #[G false,G false,S none 0 0] 36):=⟨_,rfl⟩;obtain⟨q,hq⟩:∃q,q=w.heap.size:=⟨_,rfl⟩;have ei:Mo w.heap.size w [] w:=⟨Own.nil _ _,bFz,lRz⟩;obtain⟨L0,bj⟩:∃L0,L0=St0 w q md A:=⟨_,rfl⟩;have bf:Mo w.heap.size w L0 W:=by have:=(ei.box (cur:=mdC md A) 48 13 rfl).box (cur:=#[G false,G false,S none 0 0]) 36 3 rfl;rw[hW,bj,St0,hq];simpa using this
 have ab:Hid (MdI w.heap.size w md A):=⟨hI,CD.at w⟩;have hi:i<N md.fj:=by have:=hP.2.2.1;omega
 have jn:(i:Int)<(N md.fj:Int):=by omega
 obtain⟨sf,hK⟩:=cod_k hP.1 hL hi;have cc:=hK.hif;have jo:(i:Int)<(N md.jk:Int):=by omega
 have bg:=Gd hL;have g2:=bg.1;have ji:=bg.2.2.1;rcases hI.2.2.2.2.2.2.2.2.1 with ao|⟨b,off,ea,_,hc⟩
 . rw[ao]at hi;simp at hi
 rcases hI.2.2.1 with ao|⟨b3,D,bm,_,em⟩
 . rw[ao]at cc;simp at cc
 obtain⟨la,lc,ra,rc,⟨k0,k1⟩,ek,ep⟩:=hc i hi;have k3:=em i cc;have bp:=Grp.Ls.grl ab.o.cd ek;have bo:=In.Ls.inl ab.o.cd ep;have b5:=XS hP.1.1;have bq:=Hm (fun (ks:List Qb) (V:J) (hm:Mo w.heap.size w ks V)=>scontext_c hm ab.o bg (fun i hi=>Gg (b5.2.1 _ (Qv (z:=Imp.z) hi))) (fun i hi=>by
     have:=b5.2.2.1 _ (Qv (z:=0) hi)
     simp only[Qz,decide_eq_true_eq]at this
     exact this.1))
 have ej:k<(md.fj.getD i Cod.z).body.length:=by have:=hP.2.2.2.2;simp only[Kc]at this;omega
 have l:Hid (∀(s:Fn) (ok dd:Bool) (ts:List Int),QL (cxF md) frm oty (codF md i) 0 ((md.fj.getD i Cod.z).body.take k)=.ok s->ok=true->dd=s.cq.any (·.jq)->(ts=if s.cq.any (·.jq)then []else s.jj)->SaR md i k ok dd ts):=λs ok dd ts e1 e2 e3 e4=>.inr ⟨hP,s,by simpa only[Kc]using e1,e2,e3,e4⟩;have cx:=Hm (sval_c md A W (hI.up (up_below bf.b)) hL hp);have e7:=Hm hP.1;obtain⟨_,h0,az,Y,hs,B,C,bh,d8,aa,H⟩:=hK;obtain⟨f,hf⟩:∃f,f=md.jk.getD i 0:=⟨_,rfl⟩;obtain⟨y,hy⟩:∃y,y=md.fj.getD i Cod.z:=⟨_,rfl⟩;obtain⟨x,hx⟩:∃x,x=cxF md:=⟨_,rfl⟩;simp only[codF]at B aa H l;rw[<- hf]at k3 h0 az B aa H l;rw[<- hy]at k0 k1 Y hs B bh d8 aa bp bo H ej l;rw[<- hx]at C H bq l;obtain⟨E,m⟩:=y;dsimp only at k0 k1 Y hs B bh d8 aa bp bo H ej l;obtain⟨pa,pc,va,vc,tp,tr,hT⟩:=stypeAt_v f ab.o h0 g2;obtain⟨T,ew⟩:∃T,T=Je md f:=⟨_,rfl⟩;rw[<- ew]at tp tr hT az B aa H l;have HT:=Hm hT;have hz:=Hm ea;have fm:=Hm bm
 have SF:Hid (∀{rs:List Qb} {W':J},(∀r∈L0,r∈rs)->Mo w.heap.size w rs W'->W'.cell? ⟨q,0,none⟩=some (S A.a1 (N md.types) A.c1)/\W'.cell? ⟨q,1,none⟩=some (S A.a2 (N md.cj) A.c2)/\W'.cell? ⟨q,2,none⟩=some (S (some ⟨b3,D,none⟩) (N md.jk) A.c3)/\W'.cell? ⟨q,3,none⟩=some (S A.a4 (N md.cw) A.c4)/\W'.cell? ⟨q,4,none⟩=some (S A.a5 (N md.jz) A.c5)/\W'.cell? ⟨q,5,none⟩=some (S A.a6 (N md.ck) A.c6)/\W'.cell? ⟨q,6,none⟩=some (S A.a7 (N md.cv) A.c7)/\W'.cell? ⟨q,7,none⟩=some (G md.gz)/\W'.cell? ⟨q,8,none⟩=some (U O md.start)/\W'.cell? ⟨q,9,none⟩=some (S A.a8 (N md.fq) A.c8)/\W'.cell? ⟨q,10,none⟩=some (S (some ⟨b,off,none⟩) (N md.fj) A.c9)/\W'.cell? ⟨q,11,none⟩=some (S A.a10 (N md.fx) A.c10)/\W'.cell? ⟨q,12,none⟩=some (S A.a11 (N md.fw) A.c11)/\W'.cell? ⟨b3,D+i,none⟩=some (U O f)/\W'.cell? ⟨b,off+i*2,none⟩=some (S la (N E) lc)/\W'.cell? ⟨b,off+i*2+1,none⟩=some (S ra (N m) rc)):=fun {rs W'} hh h=>by rw[bj]at hh;obtain⟨n0,n1,n2,n3,n4,n5,n6,n7,n8,n9,dy,gj,gi⟩:=st0_m h hh;rw[hz.o]at dy;rw[fm.o]at n2;exact⟨n0,n1,n2,n3,n4,n5,n6,n7,n8,n9,dy,gj,gi,(h.b.cell (p:=⟨b3,D+i,none⟩) (ab.o.cd _ _ _ k3)).trans k3,(h.b.cell (p:=⟨b,off+i*2,none⟩) (ab.o.cd _ _ _ k0)).trans k0,(h.b.cell (p:=⟨b,off+i*2+1,none⟩) (ab.o.cd _ _ _ k1)).trans k1⟩
 have ET:Hid (#[mdV md A,Value.int O f]=#[Ag #[S A.a1 (N md.types) A.c1,S A.a2 (N md.cj) A.c2,S (some ⟨b3,D,none⟩) (N md.jk) A.c3,S A.a4 (N md.cw) A.c4,S A.a5 (N md.jz) A.c5,S A.a6 (N md.ck) A.c6,S A.a7 (N md.cv) A.c7,G md.gz,U O md.start,S A.a8 (N md.fq) A.c8,S (some ⟨b,off,none⟩) (N md.fj) A.c9,S A.a10 (N md.fx) A.c10,S A.a11 (N md.fw) A.c11],U O f]):=by show _=_;rw[<- ea,<- bm]
 rw[ET.o]at HT;have EM:Hid (#[mdV md A]=#[Ag #[S A.a1 (N md.types) A.c1,S A.a2 (N md.cj) A.c2,S (some ⟨b3,D,none⟩) (N md.jk) A.c3,S A.a4 (N md.cw) A.c4,S A.a5 (N md.jz) A.c5,S A.a6 (N md.ck) A.c6,S A.a7 (N md.cv) A.c7,G md.gz,U O md.start,S A.a8 (N md.fq) A.c8,S (some ⟨b,off,none⟩) (N md.fj) A.c9,S A.a10 (N md.fx) A.c10,S A.a11 (N md.fw) A.c11]]):=by show _=_;rw[<- ea,<- bm]
 rw[EM.o]at bq cx;have fu:=Hm (λ(ks:List Qb) (V:J) (hm:Mo w.heap.size w ks V)=>sbegin_c T (S pa (N T.ps) pc) (S va (N T.rs) vc) la lc E hm tp tr bp az Y hs);have au:=Hm (⟨C,bh,bo⟩:CxB x/\(∀y∈m,InB y)/\InL w.heap.size w ra m);have aw:=Hm (⟨B,aa,H⟩:Bd (fn0 T E)/\goM (nst (fn0 T E)) m=true/\QL x frm oty (fn0 T E) 0 m=.ok sf);have hv:Hid (∃b1,L0=box 36 3 (q+1) [G false,G false,S none 0 0]::b1):=⟨_,by rw[bj,St0]⟩;have fb:=Hm bf;have jh:IntKind.i64.wrap ((N md.fj:Int)-1)=(N md.fj:Int)-1:=by rw[IntKind.wrap_i64];omega
 have jg:IntKind.i64.wrap ((N m:Int)-1)=(N m:Int)-1:=by rw[IntKind.wrap_i64];omega
 have fi:=Hm (λw'=>JY (i:Int) 0 ((N md.fj:Int)-1) w' (by omega));have ah:=Hm (λw'=>JY (k:Int) 0 ((N m:Int)-1) w' (by omega));have S1:=SF.o (λr g=>g) bf;obtain⟨m0,m1,m2,m3,m4,m5,m6,m7,m8,m9,ae,ad,ac,g3,g0,g1⟩:=S1;clear ei bf hI hp hL hP ea bm hc em k0 k1 k3 ek ep bp bo b5 Y hs hf hy hx ew hT tp tr B aa H bh az C h0 bg bj;go_enter func5,ntmps5;go_upto_region 1 with fail
 rw[<- hW,<- hq];clear hW hq;go_wp2_with fail
 refine cx.o.mono ?_;rintro e w1 ⟨a,b',c',d',rfl,ev,d9⟩;have ha:a=0:=by
  rcases svr_v d9 with ⟨h,_⟩|⟨_,h⟩
  . exact h
  exact absurd e7.o h
 subst ha;have cb:=fb.o.keep ev;have fv:=fieldV 0 b' c' d' w1;clear cx fb ev d9 m0 m1 m2 m3 m4 m5 m6 m7 m8 m9 ae ad ac g3 g0 g1;obtain⟨m0,m1,m2,m3,m4,m5,m6,m7,m8,m9,ae,ad,ac,g3,g0,g1⟩:=SF.o (λr g=>g) cb;have bn:Hid (Mo w.heap.size w L0 w1.drew):=cb.drewN 1;have S0:=Hm (SF.o (λr g=>g) bn.o);clear cb;go_wp2_with fail
 refine(fi.o _).mono ?_;rintro e w2 ⟨rfl,rfl⟩;go_wp2_with fail
 refine(ah.o _).mono ?_;rintro e w2 ⟨rfl,rfl⟩;clear m0 m1 m2 m3 m4 m5 m6 m7 m8 m9 ae ad ac g3 g0 g1 fi ah fv e7;go_wp2_with fail
 go_region_held3 (λw'=>w'.cell? ⟨q,0,none⟩=some (S A.a1 (N md.types) A.c1)/\w'.cell? ⟨q,1,none⟩=some (S A.a2 (N md.cj) A.c2)/\w'.cell? ⟨q,2,none⟩=some (S (some ⟨b3,D,none⟩) (N md.jk) A.c3)/\w'.cell? ⟨q,3,none⟩=some (S A.a4 (N md.cw) A.c4)/\w'.cell? ⟨q,4,none⟩=some (S A.a5 (N md.jz) A.c5)/\w'.cell? ⟨q,5,none⟩=some (S A.a6 (N md.ck) A.c6)/\w'.cell? ⟨q,6,none⟩=some (S A.a7 (N md.cv) A.c7)/\w'.cell? ⟨q,7,none⟩=some (G md.gz)/\w'.cell? ⟨q,8,none⟩=some (U O md.start)/\w'.cell? ⟨q,9,none⟩=some (S A.a8 (N md.fq) A.c8)/\w'.cell? ⟨q,10,none⟩=some (S (some ⟨b,off,none⟩) (N md.fj) A.c9)/\w'.cell? ⟨q,11,none⟩=some (S A.a10 (N md.fx) A.c10)/\w'.cell? ⟨q,12,none⟩=some (S A.a11 (N md.fw) A.c11)/\w'.cell? ⟨b3,D+i,none⟩=some (U O f)/\w'.cell? ⟨b,off+i*2,none⟩=some (S la (N E) lc)/\w'.cell? ⟨b,off+i*2+1,none⟩=some (S ra (N m) rc))
  (first|with_reducible exact S0.o|with_reducible exact S2.o|with_reducible exact S3.o)
  (first
   | (
    go_at_call 26
    refine Calls.mono (HT.o _ _ bn.o) ?_
    rintro e w2 ⟨rfl,hb⟩;have e9:=Hm (bn.o.keep hb);have S2:=Hm (SF.o (fun r g=>g) e9.o);clear hb)
   | (
    go_at_call 25
    refine Calls.mono (fu.o _ _ e9.o) ?_
    rintro e w3 ⟨p,lv,ns,rfl,ey,br⟩;have ax:=Hm ey;have fd:=Hm br;have S3:=Hm (SF.o (fun r g=>mR g) ax.o.mo);clear ey br)
  )
 all_goals
  clear HT fu S0 bn;obtain⟨m0,m1,m2,m3,m4,m5,m6,m7,m8,m9,ae,ad,ac,g3,g0,g1⟩:=S3.o;obtain⟨sv,bv,hk,pz,ee,el⟩:=ax.o;have fs:=Hm (bq.o _ _ ee);have fl:=Hm el;clear ee el bq S3 ax
  go_wp2_with fail
  refine fs.o.mono ?_
  rintro e w4 ⟨t,dx,rfl,ca,ap⟩;obtain⟨ta,tc,fa,fc,ga,gc,et,ef,eg⟩:=ap.shape ca;have ap:=ctr_drop ap;obtain⟨tv,fv,gv,g8⟩:=t
  dsimp only at et ef eg
  subst et ef eg;obtain⟨W5,cg⟩:∃W5,W5=w4.alloc (Fc #[S ta (N x.types) tc,S fa (N x.jk) fc,S ga (N x.jx) gc,U O x.gw,U O x.jv,U O x.jz] 80):=⟨_,rfl⟩;obtain⟨p5,b7⟩:∃p5,p5=w4.heap.size:=⟨_,rfl⟩;obtain⟨L1,L⟩:∃L1:List Qb,L1=box 80 6 p5 [S ta (N x.types) tc,S fa (N x.jk) fc,S ga (N x.jx) gc,U O x.gw,U O x.jv,U O x.jz]::(dx++(ns++L0)):=⟨_,rfl⟩;have b9:=ca.box (cur:=#[S ta (N x.types) tc,S fa (N x.jk) fc,S ga (N x.jx) gc,U O x.gw,U O x.jv,U O x.jz]) 80 6 rfl;rw[<- cg,<- b7]at b9
  have da:Hid (MSt w.heap.size w p lv (Xj (fn0 T E)) L1 ⟨fn0 T E,0⟩ W5):=by
   refine⟨sv,bv,hk,pz,b9.perm ?_,?_⟩
   . rw[L]
     classical
     rw[Kn];intro r;simp[Th,Mj];omega
   . rw[L]
     exact fl.o.mono λb c ⟨tv,rv,a,e,h1,h2⟩=>⟨tv,rv,a,e,h1.sub λr g=>mC (mR g),h2.sub λr g=>mC (mR g)⟩
  have ff:Hid (∃b2 aj,L1=b2++box 36 3 (q+1) [G false,G false,S none 0 0]::aj):=by
   obtain⟨b1,gx⟩:=hv.o
   exact⟨box 80 6 p5 [S ta (N x.types) tc,S fa (N x.jk) fc,S ga (N x.jx) gc,U O x.gw,U O x.jv,U O x.jz]::(dx++ns),b1,by rw[L,gx];simp⟩
  have fg:Hid (∀r∈L0,r∈L1):=λr g=>by rw[L];simp[g]
  have fr:Hid (CtR w.heap.size w x ⟨S ta (N x.types) tc,S fa (N x.jk) fc,S ga (N x.jx) gc,g8⟩ L1):=ap.sub λr g=>by rw[L];exact mC g
  have fe:Hid (LoM lv L1 (QM (fn0 T E))):=by
   show _∈L1
   rw[L];exact mC (mR fd.o)
  have fy:Hid (∀{rs:List Qb} {W':J},(∀r∈L1,r∈rs)->Mo w.heap.size w rs W'->W'.cell? ⟨p5,0,none⟩=some (S ta (N x.types) tc)/\W'.cell? ⟨p5,1,none⟩=some (S fa (N x.jk) fc)/\W'.cell? ⟨p5,2,none⟩=some (S ga (N x.jx) gc)/\W'.cell? ⟨p5,3,none⟩=some (U O x.gw)/\W'.cell? ⟨p5,4,none⟩=some (U O x.jv)/\W'.cell? ⟨p5,5,none⟩=some (U O x.jz)):=fun {rs W'} hh h=>by
   have hb:box 80 6 p5 [S ta (N x.types) tc,S fa (N x.jk) fc,S ga (N x.jx) gc,U O x.gw,U O x.jv,U O x.jz]∈rs:=hh _ (by rw[L];exact mS ..)
   exact⟨(h.bx hb 0).1,(h.bx hb 1).1,(h.bx hb 2).1,(h.bx hb 3).1,(h.bx hb 4).1,(h.bx hb 5).1⟩
  clear b9 ca ap fl fd fs L m0 m1 m2 m3 m4 m5 m6 m7 m8 m9 ae ad ac g3 g0 g1
  go_upto_region 5 with fail
  rw[<- cg,<- b7];clear cg b7
  go_wp2_with fail
  go_loopw [9] (λiv wr=>∃(j:Nat) (d:Fn) (nx:List Qb),j<=k/\iv=U O j/\MSt w.heap.size w p lv (Xj (fn0 T E)) (nx++L1) ⟨d,0⟩ wr/\Bd d/\N d.cq<=j+1/\N d.jj<=j*1048576/\d.ps=(fn0 T E).ps/\d.gq=(fn0 T E).gq/\goM (nst d) (m.drop j)=true/\QL x frm oty d j (m.drop j)=.ok sf/\QL x frm oty (fn0 T E) 0 (m.take j)=.ok d) (λiv _=>k-(intOf iv).toNat)
  case atStart=>exact⟨0,fn0 T E,[],Nat.zero_le _,rfl,da.o,aw.o.1,lRz,lRz,rfl,rfl,aw.o.2.1,aw.o.2.2,rfl⟩
  case round =>
   obtain⟨j,d,nx,hj,rfl,M,B1,cf,b6,e1,e2,X,ar,ba⟩:=hrel
   by_cases ie:j<k
   . obtain⟨j6,j5,j4,j3,j2,j1⟩:=fy.o (λr g=>mR g) M.mo;obtain⟨m0,m1,m2,m3,m4,m5,m6,m7,m8,m9,ae,ad,ac,g3,g0,g1⟩:=SF.o (λr g=>mR (fg.o r g)) M.mo;have ag:j<N m:=by omega
     have jm:(j:Int)<(k:Int):=by omega
     have jl:(j:Int)<(N m:Int):=by omega
     rcases au.o.2.2 with ao|⟨bb,i6,hg,hb,hc⟩
     . subst ao;simp at ag
     obtain⟨gn,gk,c0,c1,c2,c3,c4,tL⟩:=hc j ag;have bl:=au.o.2.1 (m.getD j I0) (by simp[Kx,ag]);rw[JP m j ag]at X;have eh:=M.mo.b;have kp:=λ(o:Nat) (u:Vu) (hu:w.cell? ⟨bb,o,none⟩=some u)=>(eh.cell (p:=⟨bb,o,none⟩) hb).trans hu;have d0:=kp _ _ c0;have d1:=kp _ _ c1;have d2:=kp _ _ c2;have d3:=kp _ _ c3;have d4:=kp _ _ c4;rw[Gs x frm oty d m j ag]at ar;have cu:=Hm (take_snoc m j ag);obtain⟨y,hy⟩:∃y,y=m.getD j I0:=⟨_,rfl⟩;rw[<- hy]at d0 d1 d2 d3 d4 tL bl X ar cu
     have ce:gd y=true:=by
      by_cases e:gd y=true
      . exact e
      . simp[goM,e]at X
     obtain⟨n',F,bt⟩:∃n',QB (nst d) y.op=some n'/\goM n' (m.drop (j+1))=true:=by
      cases hsm:QB (nst d) y.op with
      |none=>simp[goM,ce,hsm]at X
      |some n'=>exact⟨n',rfl,by simpa[goM,ce,hsm]using X⟩
     have bc:d.cq≠[]:=λe=>by simp[QB,nst,e]at F
     have h4:y.op=5->(top d).op=4:=λe=>by
      apply nst_top
      rw[e]at F;unfold QB at F
      split at F
      · cases F
      . simp at F;exact F.1
     have Y:QM d=QM (fn0 T E):=by simp[QM,e1,e2]
     have ed:Xj (fn0 T E)=Xj d:=by simp[Xj,e1,e2]
     have ht:=Hm (sstep_c y gn gk (M.drewN 1) (fr.o.sub (λr g=>mR g)) (by rw[Y];exact mR fe.o) ed B1 au.o.1 bc bl tL);have e8:=Hm (mstep_rf x frm oty d y B1.inv bc h4);have HK:=Hm (λs' (hs':step x frm oty d y=.ok s')=>step_kp hs' au.o.1 B1 bc bl.a0 F);have ft:=Hm (λs' n (K:Kp d s' n)=>bd_next B1 K (k:=j) (by omega) cf b6);have cz:=Hm ar;have av:=Hm ba;have fk:=Hm bt;have fp:=Hm e1;have fo:=Hm e2;clear M B1 cf b6 e1 e2 X ar ba hc c0 c1 c2 c3 c4 tL bl hy ce F bc eh kp bt Y ed h4 aw da;subst hg
     go_wp2_with fail
     go_region_law (first
      | (
       go_simp
       go_at_call 28
       refine ht.o.mono ?_
       rintro e w2 ⟨rfl,b4,ez⟩;have ah:=Hm ez;clear ez))
     all_goals
      rcases e8.o with ⟨R,g,b8⟩|⟨f,g,b8,jp⟩
      . have h3:Hid (QL x frm oty R (j+1) (m.drop (j+1))=.ok sf):=by
          have:=cz.o;rw[g]at this;exact this
        have hw:Hid (QL x frm oty (fn0 T E) 0 (m.take (j+1))=.ok R):=by
         show QL x frm oty (fn0 T E) 0 (m.take (j+1))=.ok R
         rw[cu.o];exact bodyG_snoc x frm oty y R _ _ d 0 av.o g
        have K:=HK.o R g;obtain⟨B2,eu,eb⟩:=ft.o R _ K;have cy:Hid (R.ps=(fn0 T E).ps/\R.gq=(fn0 T E).gq/\goM (nst R) (m.drop (j+1))=true):=⟨K.ps.trans fp.o,K.gq.trans fo.o,by rw[K.nst];exact fk.o⟩;rw[b8]at ah
        have ax:Hid (MSt w.heap.size w p lv (Xj (fn0 T E)) ((b4++nx)++L1) ⟨R,0⟩ w2):=by
         show MSt w.heap.size w p lv (Xj (fn0 T E)) ((b4++nx)++L1) ⟨R,0⟩ w2
         rw[List.append_assoc];exact ah.o
        have dc:=Hm (⟨B2,eu,eb⟩:Bd R/\N R.cq<=j+1+1/\N R.jj<=(j+1)*1048576);clear g K B2 eu eb ah HK ft cz fk fp fo b8 e8 av cu
        go_wp2
        go_roundw
        case rel=>exact⟨j+1,R,b4++nx,by omega,by go_num,ax.o,dc.o.1,dc.o.2.1,dc.o.2.2,cy.o.1,cy.o.2.1,cy.o.2.2,h3.o,hw.o⟩
        case measure=>simp[intOf];omega
      . exact absurd cz.o (by rw[g];intro h;cases h)
   . have e:j=k:=by omega
     subst e;have gu:j*1048576<=1048576*1048576:=Nat.mul_le_mul_right _ (by omega);have gr:N d.jj<=1099511627776:=by omega
     have db:=Hm (sadead_c M (by show(N d.cq)<=_;omega));have fh:=Hm M;have av:=Hm ba;clear M B1 cf b6 e1 e2 X ar ba aw da gu SF fy au fr fe fg
     dsimp only at db
     go_wp2_with fail
     refine db.o.mono ?_
     rintro e w6 ⟨rfl,es⟩;obtain⟨gb,e5,e6,gh,bd,_⟩:=fh.o.keep es;obtain⟨sa,sc,g9,_⟩:=Qu (e:=2) (sz:=1) (n:=N d.jj) (v:=gb) (cs:=I d.jj) bd (by simp);subst g9;obtain⟨b2,aj,ec⟩:=ff.o
     have af:Mo w.heap.size w (box 36 3 (q+1) [G false,G false,S none 0 0]::stR d (S sa (N d.jj) sc)::(mxR p lv (Xj (fn0 T E)) (S sa (N d.jj) sc) e5 0 gh::mlR (N d.cq) e5 e6::(nx++(b2++aj)))) w6:=bd.perm (by
      rw[ec]
      classical
      rw[Kn];intro r;simp[Th,Mj];omega)
     have t2:=(bd.b0 2).1;obtain⟨r0,z0⟩:=af.b0 0;obtain⟨r1,z1⟩:=af.b0 1;obtain⟨r2,z2⟩:=af.b0 2;have HN:=Hm (fin3 af (G true) (G false) (S sa (N d.jj) sc));have HD:=Hm (fin3 af (G true) (G true) (S none 0 0));clear bd af es fh db ec ff
     cases hd:d.cq.any (·.jq)
     . have ay:=Hm hd;clear hd
       go_wp2
       obtain⟨u0,u1,u2,hM⟩:=HN.o _ rfl
       exact bodyPost_ret (v:=Ag #[G true,G false,S sa (N d.jj) sc]) (by simp[results,results5,go_sem,u0,u1,u2]) rfl ⟨true,false,d.jj,_,rfl,hM.tail.first,l.o d _ _ _ av.o rfl ay.o.symm (by rw[ay.o];rfl),gr⟩
     . have ay:=Hm hd;clear hd
       go_wp2
       obtain⟨u0,u1,u2,hM⟩:=HD.o _ rfl
       exact bodyPost_ret (v:=Ag #[G true,G true,S none 0 0]) (by simp[results,results5,go_sem,u0,u1,u2]) rfl ⟨true,true,[],_,rfl,hM.nil3,l.o d _ _ _ av.o rfl ay.o.symm (by rw[ay.o];rfl),by simp⟩
theorem istk_n (md:Mod)(A:MdA)(f po:Int)(w:J)(hI:Mod.Is 0 w md A.a1 A.a2 A.a3 A.a4 A.a5 A.a6 A.a7 A.a8 A.a9 A.a10 A.a11)(hL:Mod.LB 1048576 md)(hp:md.Pos)(hn:¬Pl md f po):Ec Q 7 #[mdV md A,U O f,U O po] w (SaP w md f po):=by
 obtain⟨W,hW⟩:∃W,W=(w.alloc (Fc (mdC md A) 48)).alloc (Fc #[G false,G false,S none 0 0] 36):=⟨_,rfl⟩;obtain⟨q,hq⟩:∃q,q=w.heap.size:=⟨_,rfl⟩;have I:Mo w.heap.size w [] w:=⟨Own.nil _ _,bFz,lRz⟩;have j:Mo w.heap.size w (St0 w q md A) W:=by have:=(I.box (cur:=mdC md A) 48 13 rfl).box (cur:=#[G false,G false,S none 0 0]) 36 3 rfl;rw[hW,St0,hq];simpa using this
 have X:Hid (MdI w.heap.size w md A):=⟨hI,CD.at w⟩;have R:=Hm (ivm_c md A W (hI.up (up_below j.b)) hL hp);have k:=Hm j;have HN:=Hm hn;have HL:=Hm hL;have HZ:Hid (∀W',Mo w.heap.size w (box 36 3 (q+1) [G false,G false,S none 0 0]::[box 48 13 q (mdC md A).toList]) W'->SaP w md f po (Z (Ag #[G false,G false,S none 0 0])) W'):=λW' h=>⟨false,false,[],_,rfl,h.nil3,.inl ⟨HN.o,rfl,rfl,rfl⟩,by simp⟩;obtain⟨m0,m1,m2,m3,m4,m5,m6,m7,m8,m9,g,m,l⟩:=st0_m j (λr hr=>hr);clear I j hI hp hn hL;go_enter func7,ntmps7;go_upto_region 1 with fail
 rw[<- hW,<- hq];clear hW hq;go_wp2_with fail
 refine R.o.mono ?_;intro e w1 s;clear R m0 m1 m2 m3 m4 m5 m6 m7 m8 m9 g m l;rcases vm_cases HL.o s with ⟨nv,d,a,u,rfl⟩|⟨F,d,D,bo,q',go,bd,nv,hD,av,au,rfl,hS⟩
 . have c:=k.o.keep d;have Y:=Hm (fin3 c (G false) (G false) (S none 0 0));have V:=Hm c;obtain⟨m0,m1,m2,m3,m4,m5,m6,m7,m8,m9,g,m,l⟩:=st0_m c (λr hr=>hr);obtain⟨⟨r0,z0⟩,⟨r1,z1⟩,⟨r2,z2⟩⟩:=st0_r c (λr hr=>hr);clear c;clear s nv d k;go_wp2;obtain⟨E,C,B,M⟩:=Y.o _ rfl;exact bodyPost_ret (v:=Ag #[G false,G false,S none 0 0]) (by simp[results,results7,go_sem,E,C,B]) rfl (HZ.o _ M)
 have c:=k.o.keep d;have Y:=Hm (fin3 c (G false) (G false) (S none 0 0));have V:=Hm c;obtain⟨m0,m1,m2,m3,m4,m5,m6,m7,m8,m9,g,m,l⟩:=st0_m c (λr hr=>hr);obtain⟨⟨r0,z0⟩,⟨r1,z1⟩,⟨r2,z2⟩⟩:=st0_r c (λr hr=>hr);clear c;have HV:=Hm F;clear s d k av au hS F;by_cases hc:0<=f/\f<N md.fj
 . obtain⟨i,rfl⟩:∃i:Nat,f=i:=⟨f.toNat,by omega⟩;(have hi:i<N md.fj:=by omega);(have bt:(i:Int)<(N md.fj:Int):=by omega);have t:¬(0<=po/\po<((md.fj.getD i Cod.z).body.length:Int)):=λh=>HN.o ⟨HV.o,by omega,by omega,by omega,by simp only[Kc];omega⟩;rcases X.o.is.2.2.2.2.2.2.2.2.1 with ap|⟨b,off,ea,_,L⟩
   . rw[ap]at hi;simp at hi
   obtain⟨la,lc,ra,rc,⟨k0,k1⟩,_⟩:=L i hi;have ak:=(V.o.b.cell (p:=⟨b,off+i*2+1,none⟩) (X.o.cd _ _ _ k1)).trans k1;rw[ea]at g;obtain⟨n,H⟩:∃n,n=(md.fj.getD i Cod.z).body.length:=⟨_,rfl⟩;rw[<- H]at ak t;(have y:Hid (∀w',Ec Q 41 #[S (some ⟨b,off,none⟩) (N md.fj) A.c9,U O (i:Int)] w' λe w''=>e=Z (G true)/\w'=w''):=λw'=>by have:=ihasC_c (some ⟨b,off,none⟩) (N md.fj) A.c9 (i:Int) w';rwa [decide_eq_true (by omega)]at this);(have a0:Hid (∀w',Ec Q 42 #[S ra n rc,U O po] w' λe w''=>e=Z (G false)/\w'=w''):=λw'=>by have:=ihasI_c ra n rc po w';rwa [decide_eq_false t]at this);clear k0 k1 L ea t H hc;(go_wp2_with fail);refine(y.o _).mono ?_;rintro e w2 ⟨rfl,rfl⟩;(go_wp2_with fail);refine(a0.o _).mono ?_;rintro e w2 ⟨rfl,rfl⟩;go_wp2;obtain⟨E,C,B,M⟩:=Y.o _ rfl;exact bodyPost_ret (v:=Ag #[G false,G false,S none 0 0]) (by simp[results,results7,go_sem,E,C,B]) rfl (HZ.o _ M)
 have y:Hid (∀w',Ec Q 41 #[S A.a9 (N md.fj) A.c9,U O f] w' λe w''=>e=Z (G false)/\w'=w''):=λw'=>by have:=ihasC_c A.a9 (N md.fj) A.c9 f w';rwa [decide_eq_false hc]at this
 go_wp2_with fail
 refine(y.o _).mono ?_;rintro e w2 ⟨rfl,rfl⟩;go_wp2;obtain⟨E,C,B,M⟩:=Y.o _ rfl;exact bodyPost_ret (v:=Ag #[G false,G false,S none 0 0]) (by simp[results,results7,go_sem,E,C,B]) rfl (HZ.o _ M)
def CapB (w:J)(a:Option Ad)(xs:List Cod):Prop:=xs=[]\/∃g off,a=some ⟨g,off,none⟩/\∀i,i<N xs->∃a2,w.cell? ⟨g,off+i*2+1,none⟩=some (S a2 (xs.getD i Cod.z).body.length (xs.getD i Cod.z).body.length)
theorem funcs_at {md:Mod}{i:Nat}(a:i<N md.jk):(Q4 md (N md.cj)).length+i<(cxF md).jk.length/\(cxF md).jk.getD ((Q4 md (N md.cj)).length+i) Qc.z=Je md (md.jk.getD i 0):=by
 have b:(cxF md).jk=Q4 md (N md.cj)++md.jk.map (Je md):=by show Q4 md (N md.cj)++(md.jk.take (N md.jk)).map (Je md)=_;simp
 rw[b];exact⟨by simp;omega,by simp[Kx,List.getElem?_append_right,a]⟩
theorem mo_two {B D:Nat}{w W V xa xb w1}(a:Mo B w xa W)(c:Bw W.heap.size W V)(f:W.heap.size<=D)(d:Mo D w1 xb V):Mo B w (xa++xb) V :=
 ⟨((a.keep c).own).app (d.own.mono (Nat.le_trans a.le f)) fun k hk hk2=>by
  have j:=(a.own.lt hk).2;have g:=(d.own.lt hk2).1
  omega,(a.keep c).b,(a.keep c).le⟩
theorem istk_g (md:Mod)(A:MdA)(i k:Nat)(w:J)(hI:Mod.Is 0 w md A.a1 A.a2 A.a3 A.a4 A.a5 A.a6 A.a7 A.a8 A.a9 A.a10 A.a11)(cg:CapB w A.a9 md.fj)(hL:Mod.LB 1048576 md)(hp:md.Pos)(hP:Pl md (i:Int) (k:Int)):Ec Q 7 #[mdV md A,U O (i:Int),U O (k:Int)] w (SaP w md i k):=by
 obtain⟨W,hW⟩:∃W,W=(w.alloc (Fc (mdC md A) 48)).alloc (Fc #[G false,G false,S none 0 0] 36):=⟨_,rfl⟩;obtain⟨q,hq⟩:∃q,q=w.heap.size:=⟨_,rfl⟩;have b5:Mo w.heap.size w [] w:=⟨Own.nil _ _,bFz,lRz⟩;have n:Mo w.heap.size w (St0 w q md A) W:=by have:=(b5.box (cur:=mdC md A) 48 13 rfl).box (cur:=#[G false,G false,S none 0 0]) 36 3 rfl;rw[hW,St0,hq];simpa using this
 have cv:Hid (MdI w.heap.size w md A):=⟨hI,CD.at w⟩;have ck:=Hm (ivm_c md A W (hI.up (up_below n.b)) hL hp);have bo:=Hm n;have HL:=Hm hL;have hi:i<N md.fj:=by have:=hP.2.2.1;omega
 have es:(i:Int)<(N md.fj:Int):=by omega
 obtain⟨sf,hK⟩:=cod_k hP.1 hL hi;have ay:k<(md.fj.getD i Cod.z).body.length:=by have:=hP.2.2.2.2;simp only[Kc]at this;omega
 have a:Hid (∀(s:Fn) (ok dd:Bool) (ts:List Int),QL (cxF md) frm oty (codF md i) 0 ((md.fj.getD i Cod.z).body.take k)=.ok s->ok=true->dd=s.cq.any (·.jq)->(ts=if s.cq.any (·.jq)then []else s.jj)->SaR md i k ok dd ts):=λs ok dd ts e1 e2 e3 e4=>.inr ⟨hP,s,by simpa only[Kc]using e1,e2,e3,e4⟩;have cl:=Hm hP.1;have cf:=hI.up (up_below n.b);rcases cg with au|⟨b,off,ea,ak⟩
 . rw[au]at hi;simp at hi
 obtain⟨a2,bc⟩:=ak i hi;have ab:=(n.b.cell (p:=⟨b,off+i*2+1,none⟩) (cv.o.cd _ _ _ bc)).trans bc;obtain⟨fz,ba⟩:∃fz,fz=(Q4 md (N md.cj)).length:=⟨_,rfl⟩;obtain⟨hj,t⟩:=funcs_at (md:=md) hK.hif;rw[<- ba]at hj t;have HG:Hid (∀D j,Bw W.heap.size W j->CD D j->∃Y lc,j.cell? ⟨b,off+i*2,none⟩=some (S Y (md.fj.getD i Cod.z).gq.length lc)/\j.cell? ⟨b,off+i*2+1,none⟩=some (S a2 (md.fj.getD i Cod.z).body.length (md.fj.getD i Cod.z).body.length)/\b<D/\GrL D j Y (md.fj.getD i Cod.z).gq/\InL D j a2 (md.fj.getD i Cod.z).body):=λD j hb M=>by
  have dy:=cf.up (up_below hb);rcases dy.2.2.2.2.2.2.2.2.1 with au|⟨b_,d5,ch,_,hc⟩
  . rw[au]at hi;simp at hi
  rw[ea]at ch;cases ch;obtain⟨Y,lc,ra,rc,⟨k0,k1⟩,dt,du⟩:=hc i hi;have hz:=(hb.cell (p:=⟨b,off+i*2+1,none⟩) (World.block_lt_of_cell? W _ ab)).trans ab;rw[hz]at k1;cases k1;exact⟨Y,lc,k0,hz,M _ _ _ k0,Grp.Ls.grl M dt,In.Ls.inl M du⟩
 have L:(cxF md).jk.length<=4194304:=by have:=(st_b HL.o 7 0).2.2.1;rwa [cxF_at (by omega)]at this
 obtain⟨_,h0,u,F,hs,B,C,E,ar,d,c⟩:=hK;obtain⟨m0,m1,m2,m3,m4,m5,m6,m7,m8,m9,ae,aq,ap⟩:=st0_m n (λr hr=>hr);have cx:=Hm ea;obtain⟨f,hf⟩:∃f,f=md.jk.getD i 0:=⟨_,rfl⟩;obtain⟨y,hy⟩:∃y,y=md.fj.getD i Cod.z:=⟨_,rfl⟩;obtain⟨x,hx⟩:∃x,x=cxF md:=⟨_,rfl⟩;simp only[codF]at B d c a;rw[<- hf]at h0 u B d c a t;rw[<- hy]at F hs B E ar d c ay a HG;rw[<- hx]at C c a hj t L;obtain⟨H,g⟩:=y;dsimp only at F hs B E ar d c ay a HG;obtain⟨T,cc⟩:∃T,T=Je md f:=⟨_,rfl⟩;rw[<- cc]at u B d c a t;have HX:=Hm hx;have d1:=Hm ba;have cp:=Hm (⟨B,d,c,C,E,u,F,hs,hj,L,t⟩:Bd (fn0 T H)/\goM (nst (fn0 T H)) g=true/\QL x frm oty (fn0 T H) 0 g=.ok sf/\CxB x/\(∀y∈g,InB y)/\N T.ps<=1048577/\N H<=1048577/\(∀k,k<=N H->0<=QJ (H.take k)/\QJ (H.take k)<=4503599627370496*4)/\fz+i<N x.jk/\N x.jk<=4194304/\x.jk.getD (fz+i) Qc.z=T);have cu:Hid (∀w',Ec Q 41 #[S (some ⟨b,off,none⟩) (N md.fj) A.c9,U O (i:Int)] w' λe w''=>e=Z (G true)/\w'=w''):=λw'=>by have:=ihasC_c (some ⟨b,off,none⟩) (N md.fj) A.c9 (i:Int) w';rwa [decide_eq_true (by omega)]at this
 have ct:Hid (∀w',Ec Q 42 #[S a2 (N g) (N g),U O (k:Int)] w' λe w''=>e=Z (G true)/\w'=w''):=λw'=>by have:=ihasI_c a2 (N g) (N g) (k:Int) w';rwa [decide_eq_true (by omega)]at this
 clear b5 n hI cf hp hL hP ea ak bc ab B d c C E u F hs hj L t hf hy hx ba cc h0;go_enter func7,ntmps7;go_upto_region 1 with fail
 rw[<- hW,<- hq];clear hW hq;go_wp2_with fail
 refine ck.o.mono ?_;intro e w1 b1;clear ck m0 m1 m2 m3 m4 m5 m6 m7 m8 m9 ae aq ap;rcases vm_cases HL.o b1 with ⟨nv,_⟩|⟨dr,cb,D,j,q',go,bd,nv,hD,bf,M,rfl,hS⟩
 . exact absurd cl.o nv
 rw[<- HX.o,<- d1.o]at hS;obtain⟨Y,lc,k0,k1,b9,b7,b6⟩:=HG.o D j bf M;have b4:=bo.o.keep cb;obtain⟨m0,m1,m2,m3,m4,m5,m6,m7,m8,m9,ae,aq,ap⟩:=st0_m b4 (λr hr=>hr);rw[cx.o]at ae;have j0:=(hS.mo.b.cell (p:=⟨b,off+i*2,none⟩) b9).trans k0;have j1:=(hS.mo.b.cell (p:=⟨b,off+i*2+1,none⟩) b9).trans k1;have HS:=Hm hS;have X:=Hm (⟨b7,b6,bf,hD⟩:GrL D j Y H/\InL D j a2 g/\Bw W.heap.size W j/\W.heap.size<=D);clear b4 b1 dr cb bf M hS k0 k1 b7 b6 HG cv cx HL cl;go_wp2_with fail
 refine(cu.o _).mono ?_;rintro e w2 ⟨rfl,rfl⟩;go_wp2_with fail
 refine(ct.o _).mono ?_;rintro e w2 ⟨rfl,rfl⟩;obtain⟨W2,bj⟩:∃W2,W2=w1.alloc (Fc #[S Y (N H) lc,S a2 (N g) (N g)] 72):=⟨_,rfl⟩;obtain⟨p9,aw⟩:∃p9,p9=w1.heap.size:=⟨_,rfl⟩;clear cu ct;go_upto_region 5 with fail
 rw[<- bj,<- aw];obtain⟨bb,bg⟩:∃bb:Qb,bb=box 72 2 p9 [S Y (N H) lc,S a2 (N g) (N g)]:=⟨_,rfl⟩;have bl:SSt D j q' x fz go bd nv [bb] W2:=by obtain⟨m,e,hm,hf⟩:=HS.o;have n:=hm.box (cur:=#[S Y (N H) lc,S a2 (N g) (N g)]) 72 2 rfl;rw[<- bj,<- aw,<- bg]at n;exact⟨m,e,n.perm List.perm_middle.symm,hf⟩
 obtain⟨m,em,aa,b8⟩:=bl.keep (W:=W2.drewN 1) ⟨rfl,rfl,rfl,lRz,λ_ _=>rfl⟩;have ag:=SSt.spr (q:=q') (fo:=(fz:Int)) (go:=go) (bd:=bd) (ks:=[bb]) b8;obtain⟨R,hR⟩:∃R:List Qb,R=Q5 q' x m fz go bd++[bb]:=⟨_,rfl⟩;rw[<- hR]at aa ag;obtain⟨B0,d,c,C,E,u,F,hs,hj,L,t⟩:=cp.o;have ax:=iownFunc_c i aa ag fz rfl hj L;rw[t]at ax;have cr:=Hm ax;have ai:Hid (∀{rs:List Qb} {V:J},bb∈rs->Mo D j rs V->V.cell? ⟨p9,0,none⟩=some (S Y (N H) lc)/\V.cell? ⟨p9,1,none⟩=some (S a2 (N g) (N g))):=fun {rs V} hb h=>by rw[bg]at hb;exact⟨(h.bx hb 0).1,(h.bx hb 1).1⟩
 have bp:Hid (bb∈R):=by show bb∈R;rw[hR];simp
 have cs:=Hm aa;have cz:=Hm (λ(V:J) (pv rv:Vu) (hb:Bw (W2.drewN 1).heap.size (W2.drewN 1) V) (t1:Ty D j [] pv T.ps) (t2:Ty D j [] rv T.rs)=>ibodyNew_c q' pv rv T Y lc H (aa.keep hb) (t1.sub (λr hr=>by cases hr)) (t2.sub (λr hr=>by cases hr)) X.o.1 u F hs);have cm:=Hm (λ(p:Nat) (l:Lo) (ns:List Qb) (V:J) (h:ISt D j p (Yp (some ⟨q',0,none⟩)) l (ns++R) (fn0 T H) V) (hlo:JM D j (ns++R) l T.ps H)=>ipass_c a2 (N g) g k (Nat.le_of_lt ay) sf c h (ag.sub (λr hr=>mR hr)) hlo B0 C lRz rfl X.o.2.1 E ar d);have ci:=Hm (λ(rs:List Qb) (V:J) (h:Mo D j rs V)=>mo_two bo.o (X.o.2.2.1.trans (h.b.mono X.o.2.2.2)) X.o.2.2.2 h);have ep:(k:Int)<=(N g:Int):=by omega
 obtain⟨e0,e1⟩:=ai.o (rs:=[bb]) (by simp) bl.mo;clear bl aa b8 ag ax c B0 d C E u F hs hj L t hR em bj aw bg cp j0 j1 m0 m1 m2 m3 m4 m5 m6 m7 m8 m9 ae aq ap
 go_region_law (first
  | (
   go_simp
   go_at_call 44
   refine cr.o.mono ?_
   rintro e w3 ⟨pa,pc,va,vc,rfl,t1,t2,bh⟩;have g0:=(ai.o bp.o (cs.o.keep bh)).1;have HQ:=Hm (cz.o w3 _ _ bh t1 t2);clear t1 t2 bh)
  | (
   go_simp
   go_at_call 43
   refine HQ.o.mono ?_
   rintro e w4 ⟨p,l,ns,rfl,bn,aj⟩;have co:=Hm (cm.o p l ns w4 bn aj);have h1:=(ai.o (mR bp.o) bn.mo).2;clear bn aj))
 all_goals
  go_wp2_with fail
  refine co.o.mono ?_
  rintro e w5 ⟨s1,ei,b2,rfl,bm,dp,el⟩;have cy:=Hm (idead_c bm (by omega));have cw:=Hm bm;have cn:=Hm b2;clear b2 bm co HQ cr cz cm cs ai bp HS X bo
  go_wp2_with fail
  refine cy.o.mono ?_
  rintro e w6 ⟨rfl,ca⟩;obtain⟨sa,sc,bv,ew,b3,_,c4,_⟩:=(cw.o.keep ca).opnS;have I:=ci.o _ _ b3.tail.first;obtain⟨r0,z0⟩:=I.b0 0;obtain⟨r1,z1⟩:=I.b0 1;obtain⟨r2,z2⟩:=I.b0 2;have HN:=Hm (fin3 I (G true) (G false) (S sa (N s1.jj) sc));have HD:=Hm (fin3 I (G true) (G true) (S none 0 0));clear b3 I ca cw cy ci
  cases hd:s1.cq.any (·.jq)
  . have ac:=Hm hd;clear hd
    go_wp2
    obtain⟨u0,u1,u2,hM⟩:=HN.o _ rfl
    exact bodyPost_ret (v:=Ag #[G true,G false,S sa (N s1.jj) sc]) (by simp[results,results7,go_sem,u0,u1,u2]) rfl ⟨true,false,s1.jj,_,rfl,hM.tail.tail,a.o s1 _ _ _ cn.o rfl ac.o.symm (by rw[ac.o];rfl),dp⟩
  . have ac:=Hm hd;clear hd
    go_wp2
    obtain⟨u0,u1,u2,hM⟩:=HD.o _ rfl
    exact bodyPost_ret (v:=Ag #[G true,G true,S none 0 0]) (by simp[results,results7,go_sem,u0,u1,u2]) rfl ⟨true,true,[],_,rfl,hM.nil3,a.o s1 _ _ _ cn.o rfl ac.o.symm (by rw[ac.o];rfl),by simp⟩
theorem istk_c (md:Mod)(A:MdA)(a po:Int)(w:J)(f:Mod.Is 0 w md A.a1 A.a2 A.a3 A.a4 A.a5 A.a6 A.a7 A.a8 A.a9 A.a10 A.a11)(b:CapB w A.a9 md.fj)(d:Mod.LB 1048576 md)(hp:md.Pos):Ec Q 7 #[mdV md A,U O a,U O po] w (SaP w md a po):=by
 by_cases c:Pl md a po
 . obtain⟨i,rfl⟩:∃i:Nat,a=i:=⟨a.toNat,by have:=c.2.1;omega⟩;obtain⟨k,rfl⟩:∃k:Nat,po=k:=⟨po.toNat,by have:=c.2.2.2.1;omega⟩;exact istk_g md A i k w f b d hp c
 exact istk_n md A a po w f d hp c
theorem sstk_c (md:Mod)(A:MdA)(a po:Int)(w:J)(d:Mod.Is 0 w md A.a1 A.a2 A.a3 A.a4 A.a5 A.a6 A.a7 A.a8 A.a9 A.a10 A.a11)(c:Mod.LB 1048576 md)(hp:md.Pos):Ec Q 5 #[mdV md A,U O a,U O po] w (SaP w md a po):=by
 by_cases b:Pl md a po
 . obtain⟨i,rfl⟩:∃i:Nat,a=i:=⟨a.toNat,by have:=b.2.1;omega⟩;obtain⟨k,rfl⟩:∃k:Nat,po=k:=⟨po.toNat,by have:=b.2.2.2.1;omega⟩;exact sstk_g md A i k w d c hp b
 exact sstk_n md A a po w d c hp b
