import Derived.Test.YtejkdbnngphgaaaGreatDoorGbe
import Derived.Deep.MidRow
import Derived.BigFrame
import Derived.Test.YtejkdbnngphgaaaGreatDoorGaw
import Derived.Test.YtejkdbnngphgaaaGreatDoorGbf
import Derived.Test.YtejkdbnngphgaaaGreatDoorCards
import Derived.Test.YtejkdbnngphgaaaGreatDoorTie
import Derived.Lay
import Derived.SevenTiedAt
import Derived.ShutString
import Derived.ChangeOld
set_option linter.all false
set_option maxHeartbeats 400000000
set_option maxRecDepth 100000
namespace Go.Proofs
open Value renaming int->U,slice->S,bool->G,pointer->Yp,string->Xs,agg->Ag
open IntKind renaming i64->O
open Ending renaming returned->Z
open Obj renaming cells->Fc
open Go renaming World->J,Calls->Ec,Value->Vu,Addr->Ad
open Go.RowKit renaming Below->Bw
open Tryz renaming prog->Q
open Tryz
open List renaming append_nil->Tb,length_map->Ih,getD->Ty,getElem?_eq_getElem->Kv,length_take->Iq,mem_of_getElem?->Tj,ext_getElem?->Rk,getElem?_eq_none->Hh,length->Hx,map_cons->Mm,length_drop->Rx,getElem_mem->Ez,length_append->Kb,length_cons->Kj,length->N
open Nat renaming zero_le->Hw,zero_add->Kk,le_trans->Kf
open IntKind renaming wrap_i64->Kw
open Value renaming oneCell'->Hq
open Result renaming andThen_ok->Mx
open Option renaming getD_some->Lh,map_eq_some_iff->Tz
namespace YtejkdbnngphgaaaGreatDoor.Yz
open Go.RowKit Go.Sort
def PtM (t:Wd)(w:J)(e:Ending)(w':J):Prop:=∃cs L zs,e=Z (Ag (U O (ptF t).1::cs).toArray)/\N cs=13/\MRz zs (ptF t).2 cs L/\Mq w.heap.size w zs L.flatten w'
theorem ptm_fail {t:Wd}{w w':J}{g:Nat}{k:Int}(hp:ptF t=(k,Mod.z))(hg:g=w.heap.size)(h:Mo g w (box 36 14 g [U O k,S none 0 0,S none 0 0,S none 0 0,S none 0 0,S none 0 0,S none 0 0,S none 0 0,G false,U O 0,S none 0 0,S none 0 0,S none 0 0,S none 0 0]::[]) w'):PtM t w (Z (Ag #[U O k,S none 0 0,S none 0 0,S none 0 0,S none 0 0,S none 0 0,S none 0 0,S none 0 0,G false,U O 0,S none 0 0,S none 0 0,S none 0 0,S none 0 0])) w':=by
 refine⟨zc,rs0.map λr=>[r],[],by rw[hp];rfl,rfl,by rw[hp];exact mrz_zero [] zc (λ_ _=>rfl) (by decide),?_⟩;subst hg;exact⟨⟨own_zero _ _,h.b,h.le⟩,λq hq=>by cases hq⟩
theorem ms_zero {c d:J}{p:Nat}(hp:p=c.heap.size)(l:d=c.alloc (Fc #[S none 0 0,S none 0 0,S none 0 0,S none 0 0,S none 0 0,S none 0 0,S none 0 0,G false,U O 0,S none 0 0,S none 0 0,S none 0 0,S none 0 0,U O 0,U O 0,G false,S none 0 0,G false,G false,G false] 51)):MS p c p St0 d:=by
 have f:Mo p c [rB p z20] d:=by have:=(⟨Own.nil _ _,bFz,lRz⟩:Mo c.heap.size c [] c).box (cur:=#[S none 0 0,S none 0 0,S none 0 0,S none 0 0,S none 0 0,S none 0 0,S none 0 0,G false,U O 0,S none 0 0,S none 0 0,S none 0 0,S none 0 0,U O 0,U O 0,G false,S none 0 0,G false,G false,G false]) 51 20 rfl;rw[l,hp];exact this
 have g:Mq p c [] (rB p z20::((rs0.map λr=>[r]).flatten++[])) d:=by refine⟨⟨?_,f.b,f.le⟩,λq hq=>by cases hq⟩;rw[Tb];refine Own.app (a:=[_]) f.own (own_zero _ _) (λk hk hk2=>?_);have m:k∈([]:List Nat):=hk2;cases m
 exact⟨z20,_,[],[],mrz_zero [] z20 (fun j hj=>by
  have:j=0\/j=1\/j=2\/j=3\/j=4\/j=5\/j=6\/j=7\/j=8\/j=9\/j=10\/j=11\/j=12:=by omega
  rcases this with rfl | rfl | rfl | rfl | rfl | rfl | rfl | rfl | rfl | rfl | rfl | rfl | rfl <;> rfl) (by decide),g,rfl,rfl,rfl,rfl⟩
theorem ms_below {D p w0 V}{a:St}(h:MS D w0 p a V):Bw D w0 V:=by
 obtain⟨_,_,_,_,-,c,-⟩:=h;exact c.mo.b
theorem mrz_to {a:List (Nat × Obj)}{m:Mod}{cells c:List Vu}{L:List (List Qb)}(h:MRz a m cells L)(e:∀j,j<13->c[j]?=cells[j]?)(hl:13<=N c):MRz a m c L :=
 ⟨hl,h.ll,(e 7 (by decide)).trans h.hs,(e 8 (by decide)).trans h.st,by rw[e _ (by decide)];exact h.types,by rw[e _ (by decide)];exact h.cj,by rw[e _ (by decide)];exact h.jv,by rw[e _ (by decide)];exact h.fk,by rw[e _ (by decide)];exact h.jj,by rw[e _ (by decide)];exact h.fq,by rw[e _ (by decide)];exact h.fj,by rw[e _ (by decide)];exact h.fw,by rw[e _ (by decide)];exact h.gq,by rw[e _ (by decide)];exact h.gj,by rw[e _ (by decide)];exact h.gx⟩
theorem mq_box {w n W2:J}{g p:Nat}{m cells:List Vu}{l:List (Nat × Obj)}{L:List (List Qb)}(f:Mo g w [box 36 14 g m] W2)(c:Mq p n l (rB p cells::(L.flatten++[])) W2)(o:g<p):Mq g w l (box 36 14 g m::L.flatten) W2:=by
 rw[Tb]at c;have r:Own g W2 L.flatten:=c.mo.own.tail.mono (by omega);have d:∀k,k∈blk L.flatten->p<=k:=λk hk=>(c.mo.own.tail.lt hk).1;refine⟨⟨Own.app (a:=[_]) f.own r (λk hk hk2=>?_),f.b,f.le⟩,λq hq=>⟨(c.z q hq).1,by have:=(c.z q hq).2.1;omega,λhk=>?_⟩⟩
 . have j:k∈[g]:=hk;simp at j;have:=d k hk2;omega
 have j:q.1∈g::blk L.flatten:=hk;rcases List.mem_cons.1 j with e|s
 . have:=(c.z q hq).2.1;omega
 exact(c.z q hq).2.2 (show q.1∈p::blk L.flatten from mC s)
theorem ms_c19 {D p w0 V}{b:St}(h:MS D w0 p b V):V.cell? ⟨p,19,none⟩=some (G false)/\V.frozen? ⟨p,19,none⟩=false:=by
 obtain⟨_,_,_,_,-,c,-,-,a,-⟩:=h;exact c.b0 19 a
theorem mpt_c (w:J)(B:Nat)(a:Option Ad)(c:Nat)(t:Wd)(h:w.ownsRow B 5 1 (S a (N t) c) (N t) (Uz0 (Iy t)))(hl:N t<=1048576):Ec Q 4 #[S a (N t) c] w (PtM t w):=by
 obtain⟨g,hg⟩:∃g,g=w.heap.size:=⟨_,rfl⟩;obtain⟨W,hW⟩:∃W,W=w.alloc (Fc #[U O 0,S none 0 0,S none 0 0,S none 0 0,S none 0 0,S none 0 0,S none 0 0,S none 0 0,G false,U O 0,S none 0 0,S none 0 0,S none 0 0,S none 0 0] 36):=⟨_,rfl⟩;have hm:Mo g w [box 36 14 g (U O 0::zc)] W:=by have:=(⟨Own.nil _ _,bFz,lRz⟩:Mo w.heap.size w [] w).box (cur:=#[U O 0,S none 0 0,S none 0 0,S none 0 0,S none 0 0,S none 0 0,S none 0 0,S none 0 0,G false,U O 0,S none 0 0,S none 0 0,S none 0 0,S none 0 0]) 36 14 rfl;rw[hW,hg];exact this
 have HG:=Hm hg;by_cases d3:300000<N t
 . (have fc:(300000:Int)<(N t:Int):=by omega);have HP:=Hm (show ptF t=(-1,Mod.z) by unfold ptF;rw[if_pos d3]);have f:=Hm hm;clear hm h;go_enter func4,ntmps4;(go_upto_region 1 with fail);rw[<- hW,<- hg];clear hW hg;obtain⟨b5,br⟩:=f.o.b0 0;obtain⟨b4,bq⟩:=f.o.b0 1;obtain⟨b3,bp⟩:=f.o.b0 2;obtain⟨b2,bo⟩:=f.o.b0 3;obtain⟨bz,bn⟩:=f.o.b0 4;obtain⟨bw,bm⟩:=f.o.b0 5;obtain⟨bv,bl⟩:=f.o.b0 6;obtain⟨bu,bk⟩:=f.o.b0 7;obtain⟨bt,bj⟩:=f.o.b0 8;obtain⟨bs,bh⟩:=f.o.b0 9;obtain⟨ag,ac⟩:=f.o.b0 10;obtain⟨af,ab⟩:=f.o.b0 11;obtain⟨ae,aa⟩:=f.o.b0 12;obtain⟨ad,Y⟩:=f.o.b0 13;have HF:=Hm (((((((((((((((f.o).set 0 (U O (-1))).set 1 (S none 0 0)).set 2 (S none 0 0)).set 3 (S none 0 0)).set 4 (S none 0 0)).set 5 (S none 0 0)).set 6 (S none 0 0)).set 7 (S none 0 0)).set 8 (G false)).set 9 (U O 0)).set 10 (S none 0 0)).set 11 (S none 0 0)).set 12 (S none 0 0)).set 13 (S none 0 0));go_wp2;refine Jp (λW'=>Mo g w (box 36 14 g [U O (-1),S none 0 0,S none 0 0,S none 0 0,S none 0 0,S none 0 0,S none 0 0,S none 0 0,G false,U O 0,S none 0 0,S none 0 0,S none 0 0,S none 0 0]::[]) W') HF.o ?_;intro W' k;have u0:=(k.b0 0).1;have u1:=(k.b0 1).1;have u2:=(k.b0 2).1;have u3:=(k.b0 3).1;have u4:=(k.b0 4).1;have u5:=(k.b0 5).1;have u6:=(k.b0 6).1;have u7:=(k.b0 7).1;have u8:=(k.b0 8).1;have u9:=(k.b0 9).1;have F:=(k.b0 10).1;have E:=(k.b0 11).1;have D:=(k.b0 12).1;have C:=(k.b0 13).1;refine bodyPost_ret (v:=Ag #[U O (-1),S none 0 0,S none 0 0,S none 0 0,S none 0 0,S none 0 0,S none 0 0,S none 0 0,G false,U O 0,S none 0 0,S none 0 0,S none 0 0,S none 0 0]) (by simp[results,results4,go_sem,u0,u1,u2,u3,u4,u5,u6,u7,u8,u9,F,E,D,C]) rfl ?_;exact ptm_fail HP.o HG.o k
 have fd:N t<=300000:=by omega
 have fc:¬(300000:Int)<(N t:Int):=by omega
 have d5:Bw w.heap.size w W:=by rw[hW];exact bFz.alloc lRz _
 have hO:W.ownsRow B 5 1 (S a (N t) c) (N t) (Uz0 (Iy t)):=((Own.one (r:=⟨5,1,N t,S a (N t) c,Uz0 (Iy t)⟩) h).keep d5).head;have K1:=Hm (mlines_c W B a c t hO hl);have et:=Hm hm;have cc:=Hm fd;have fb:=(lns_len (N t) t lRz).1;have fx:=Hm (lns_len (N t) t lRz).2;obtain⟨n,hn⟩:∃n,n=(lns t).length:=⟨_,rfl⟩;have g7:n<=300000:=by omega
 have HN:=Hm hn;clear hm h hO d5 d3 fb hn;go_enter func4,ntmps4;go_upto_region 1 with fail
 rw[<- hW,<- hg];clear hW hg;go_wp2_with fail
 refine K1.o.mono ?_;rintro e w1 ⟨v,rfl,d6,aj⟩;rw[lnM_fst,Ih,<- HN.o]at aj;obtain⟨wh,cw⟩:∃b,b=(lnM [] t).2:=⟨_,rfl⟩;rw[<- cw];have eo:=Hm cw;have HB:=Hm (et.o.keep d6);have ep:=Hm aj;obtain⟨va,vc,rfl⟩:=QO aj;clear cw d6 aj K1 et;go_wp2;obtain⟨p,hp⟩:∃p,p=w1.heap.size:=⟨_,rfl⟩;obtain⟨V1,c1⟩:∃V,V=w1.alloc (Fc #[S none 0 0,S none 0 0,S none 0 0,S none 0 0,S none 0 0,S none 0 0,S none 0 0,G false,U O 0,S none 0 0,S none 0 0,S none 0 0,S none 0 0,U O 0,U O 0,G false,S none 0 0,G false,G false,G false] 51):=⟨_,rfl⟩;rw[<- c1,<- hp];have HZ:=Hm (ms_zero hp c1);have ai:=Hm hp;clear c1 hp;go_loopw [6] (λvi wr=>∃(i:Nat) (d:St),vi=U O (i:Int)/\i<=n/\runF St0 ((lns t).take i)=some d/\StI d/\MS p w1 p d wr) (λvi _=>n+1-(intOf vi).toNat)
 case atStart=>exact⟨0,St0,rfl,Hw _,rfl,stI_zero,HZ.o⟩
 obtain⟨i,d,rfl,g8,co,dz,d2⟩:=hrel;have HR:=Hm co;have HI:=Hm dz;have c4:=Hm d2;clear co dz d2;by_cases g9:i<n
 . (have ff:(i:Int)<(n:Int):=by omega);(have y:i<(lns t).length:=by have:=HN.o;omega);obtain⟨x,hx⟩:∃x,x=(lns t).getD i []:=⟨_,rfl⟩;have HX:=Hm hx;have dx:(Xr x).length<=1000000:=by have h1:=fx.o x (by rw[hx];simp[Ty,Kv y]);have h2:=cut_len x;have h3:=cc.o;omega
   obtain⟨gl,rfl,fh⟩:∃gl,va=some ⟨gl,0,none⟩/\wr.cell? ⟨gl,i,none⟩=some (Xs (Sz0 (Xr x))):=by
    have h0:=ep.o;rcases h0.2 with ⟨h1,h2⟩|⟨g',hk,gg,hv,-⟩
    . exfalso;omega
    cases hv;refine⟨g',rfl,?_⟩;have h3:=World.ownsRow.cellAt h0 i (by omega);have h4:g'<w1.heap.size:=(World.ownsRow.lt h0 g' rfl).2;refine((ms_below c4.o).cell (p:=⟨g',i,none⟩) (by rw[ai.o];exact h4)).trans (h3.trans ?_);rw[hx];simp[Sv,Ty,Kv y]
   (have dy:d.sz<=1048576:=by have h1:=runF_sz HR.o;have h2:St0.sz=0:=rfl;rw[Iq]at h1;omega);have KI:=Hm (mline_c p w1 p d (Xr x) wr c4.o HI.o dy dx);(have gv:IntKind.i64.wrap ((i:Int)+1)=(i:Int)+1:=by rw[Kw];omega);(have gu:IntKind.i64.wrap ((n:Int)-1)=(n:Int)-1:=by rw[Kw];omega);clear hx dx dy;(go_wp2_with (go_at_call 13;refine KI.o.mono ?_;intro e w2 cy;have c5:=Hm cy;have he:=cy.1;subst he;clear cy KI;refine Hid.o ?_));refine Hm ?_;rcases c5.o.2 with ⟨Z',hL,ak⟩|⟨d1,ez,gw,cx,cb⟩
   . have eu:=Hm hL;have ct:=Hm ak;have f:=Hm (HB.o.keep (by rw[<- ai.o];exact ms_below ak));obtain⟨fs,fr⟩:=ms_c19 ak;have es:=Hm (λhe=>run_step y HR.o he (by rw[<- HX.o];exact hL));clear hL ak c5;cases wh with
     |true =>
      have HE:=Hm (es.o (ended_all eo.o.symm y));clear y
      go_wp2
      exact⟨⟨i+1,Z',(by first|rfl|(congr 1;omega)),by omega,HE.o,stI_line HI.o eu.o,ct.o⟩,by simp[intOf];omega⟩
     |false =>
      by_cases d4:i+1=n
      . have fe:((i:Int)==(n:Int)-1)=true:=by simp;omega
        have HP:=Hm (pt_stop cc.o y HR.o (.inl (ended_not eo.o.symm (by have:=HN.o;omega))));clear y d4;obtain⟨b5,br⟩:=f.o.b0 0;obtain⟨b4,bq⟩:=f.o.b0 1;obtain⟨b3,bp⟩:=f.o.b0 2;obtain⟨b2,bo⟩:=f.o.b0 3;obtain⟨bz,bn⟩:=f.o.b0 4;obtain⟨bw,bm⟩:=f.o.b0 5;obtain⟨bv,bl⟩:=f.o.b0 6;obtain⟨bu,bk⟩:=f.o.b0 7;obtain⟨bt,bj⟩:=f.o.b0 8;obtain⟨bs,bh⟩:=f.o.b0 9;obtain⟨ag,ac⟩:=f.o.b0 10;obtain⟨af,ab⟩:=f.o.b0 11;obtain⟨ae,aa⟩:=f.o.b0 12;obtain⟨ad,Y⟩:=f.o.b0 13;have HF:=Hm (((((((((((((((f.o).set 0 (U O ((i:Int)+1))).set 1 (S none 0 0)).set 2 (S none 0 0)).set 3 (S none 0 0)).set 4 (S none 0 0)).set 5 (S none 0 0)).set 6 (S none 0 0)).set 7 (S none 0 0)).set 8 (G false)).set 9 (U O 0)).set 10 (S none 0 0)).set 11 (S none 0 0)).set 12 (S none 0 0)).set 13 (S none 0 0))
        go_wp2
        refine Jp (λW'=>Mo g w (box 36 14 g [U O ((i:Int)+1),S none 0 0,S none 0 0,S none 0 0,S none 0 0,S none 0 0,S none 0 0,S none 0 0,G false,U O 0,S none 0 0,S none 0 0,S none 0 0,S none 0 0]::[]) W') HF.o ?_
        intro W' k
        have u0:=(k.b0 0).1;have u1:=(k.b0 1).1;have u2:=(k.b0 2).1;have u3:=(k.b0 3).1;have u4:=(k.b0 4).1;have u5:=(k.b0 5).1;have u6:=(k.b0 6).1;have u7:=(k.b0 7).1;have u8:=(k.b0 8).1;have u9:=(k.b0 9).1;have F:=(k.b0 10).1;have E:=(k.b0 11).1;have D:=(k.b0 12).1;have C:=(k.b0 13).1
        refine bodyPost_ret (v:=Ag #[U O ((i:Int)+1),S none 0 0,S none 0 0,S none 0 0,S none 0 0,S none 0 0,S none 0 0,S none 0 0,G false,U O 0,S none 0 0,S none 0 0,S none 0 0,S none 0 0]) (by simp[results,results4,go_sem,u0,u1,u2,u3,u4,u5,u6,u7,u8,u9,F,E,D,C]) rfl ?_
        exact ptm_fail HP.o HG.o k
      . have fe:((i:Int)==(n:Int)-1)=false:=by simp;omega
        have HE:=Hm (es.o (ended_at (by have:=HN.o;omega)));clear y d4
        go_wp2
        exact⟨⟨i+1,Z',(by first|rfl|(congr 1;omega)),by omega,HE.o,stI_line HI.o eu.o,ct.o⟩,by simp[intOf];omega⟩
   have f:=Hm (HB.o.keep (by rw[<- ai.o];exact cx.b));obtain⟨fs,fr⟩:=cx.b0 19 cb;have HP:=Hm (pt_stop cc.o y HR.o (.inr (by rw[<- HX.o];exact d1)));clear d1 cx cb c5 y;obtain⟨b5,br⟩:=f.o.b0 0;obtain⟨b4,bq⟩:=f.o.b0 1;obtain⟨b3,bp⟩:=f.o.b0 2;obtain⟨b2,bo⟩:=f.o.b0 3;obtain⟨bz,bn⟩:=f.o.b0 4;obtain⟨bw,bm⟩:=f.o.b0 5;obtain⟨bv,bl⟩:=f.o.b0 6;obtain⟨bu,bk⟩:=f.o.b0 7;obtain⟨bt,bj⟩:=f.o.b0 8;obtain⟨bs,bh⟩:=f.o.b0 9;obtain⟨ag,ac⟩:=f.o.b0 10;obtain⟨af,ab⟩:=f.o.b0 11;obtain⟨ae,aa⟩:=f.o.b0 12;obtain⟨ad,Y⟩:=f.o.b0 13;have HF:=Hm (((((((((((((((f.o).set 0 (U O ((i:Int)+1))).set 1 (S none 0 0)).set 2 (S none 0 0)).set 3 (S none 0 0)).set 4 (S none 0 0)).set 5 (S none 0 0)).set 6 (S none 0 0)).set 7 (S none 0 0)).set 8 (G false)).set 9 (U O 0)).set 10 (S none 0 0)).set 11 (S none 0 0)).set 12 (S none 0 0)).set 13 (S none 0 0));go_wp2;refine Jp (λW'=>Mo g w (box 36 14 g [U O ((i:Int)+1),S none 0 0,S none 0 0,S none 0 0,S none 0 0,S none 0 0,S none 0 0,S none 0 0,G false,U O 0,S none 0 0,S none 0 0,S none 0 0,S none 0 0]::[]) W') HF.o ?_;intro W' k;have u0:=(k.b0 0).1;have u1:=(k.b0 1).1;have u2:=(k.b0 2).1;have u3:=(k.b0 3).1;have u4:=(k.b0 4).1;have u5:=(k.b0 5).1;have u6:=(k.b0 6).1;have u7:=(k.b0 7).1;have u8:=(k.b0 8).1;have u9:=(k.b0 9).1;have F:=(k.b0 10).1;have E:=(k.b0 11).1;have D:=(k.b0 12).1;have C:=(k.b0 13).1;refine bodyPost_ret (v:=Ag #[U O ((i:Int)+1),S none 0 0,S none 0 0,S none 0 0,S none 0 0,S none 0 0,S none 0 0,S none 0 0,G false,U O 0,S none 0 0,S none 0 0,S none 0 0,S none 0 0]) (by simp[results,results4,go_sem,u0,u1,u2,u3,u4,u5,u6,u7,u8,u9,F,E,D,C]) rfl ?_;exact ptm_fail HP.o HG.o k
 ·
  have ei:i=n:=by omega
  have ff:¬(i:Int)<(n:Int):=by omega
  have d0:runF St0 (lns t)=some d:=by have:=HR.o;rwa [ei,HN.o,List.take_length]at this
  have c2:=Hm (pt_end cc.o d0);obtain⟨cells,L,X,zs,s,u,fm,R,cb,bf⟩:=c4.o;obtain⟨v0,ee,g6,q0,-,dn⟩:=s.types.at_;obtain⟨a0,k0,rfl⟩:=Qg (show wr.ownsRow p 137 2 v0 (mm d).types.length ee from u.mo.own.all (⟨137,2,(mm d).types.length,v0,ee⟩:Qb) (mC (mL (dn.mem_iff.2 (mS ..)))));clear dn;obtain⟨v1,ed,g5,q1,-,dm⟩:=s.cj.at_;obtain⟨a1,k1,rfl⟩:=Qg (show wr.ownsRow p 143 9 v1 (mm d).cj.length ed from u.mo.own.all (⟨143,9,(mm d).cj.length,v1,ed⟩:Qb) (mC (mL (dm.mem_iff.2 (mS ..)))));clear dm;obtain⟨v2,ec,g4,q2,-,dl⟩:=s.jv.at_;obtain⟨a2,k2,rfl⟩:=Qg (show wr.ownsRow p 2 1 v2 (mm d).jv.length ec from u.mo.own.all (⟨2,1,(mm d).jv.length,v2,ec⟩:Qb) (mC (mL (dl.mem_iff.2 (mS ..)))));clear dl;obtain⟨v3,eb,g3,q3,-,dk⟩:=s.fk.at_;obtain⟨a3,k3,rfl⟩:=Qg (show wr.ownsRow p 120 3 v3 (mm d).fk.length eb from u.mo.own.all (⟨120,3,(mm d).fk.length,v3,eb⟩:Qb) (mC (mL (dk.mem_iff.2 (mS ..)))));clear dk;obtain⟨v4,ea,g2,q4,-,dj⟩:=s.jj.at_;obtain⟨a4,k4,rfl⟩:=Qg (show wr.ownsRow p 120 3 v4 (mm d).jj.length ea from u.mo.own.all (⟨120,3,(mm d).jj.length,v4,ea⟩:Qb) (mC (mL (dj.mem_iff.2 (mS ..)))));clear dj;obtain⟨v5,d9,g0,q5,-,di⟩:=s.fq.at_;obtain⟨a5,k5,rfl⟩:=Qg (show wr.ownsRow p 76 3 v5 (mm d).fq.length d9 from u.mo.own.all (⟨76,3,(mm d).fq.length,v5,d9⟩:Qb) (mC (mL (di.mem_iff.2 (mS ..)))))
  clear di;obtain⟨v6,d8,gz,q6,-,dh⟩:=s.fj.at_;obtain⟨a6,k6,rfl⟩:=Qg (show wr.ownsRow p 157 3 v6 (mm d).fj.length d8 from u.mo.own.all (⟨157,3,(mm d).fj.length,v6,d8⟩:Qb) (mC (mL (dh.mem_iff.2 (mS ..)))));clear dh;obtain⟨v9,d7,gy,q9,-,dg⟩:=s.fw.at_;obtain⟨a9,k9,rfl⟩:=Qg (show wr.ownsRow p 78 2 v9 (mm d).fw.length d7 from u.mo.own.all (⟨78,2,(mm d).fw.length,v9,d7⟩:Qb) (mC (mL (dg.mem_iff.2 (mS ..)))));clear dg;obtain⟨dd,cs,f9,H,-,cn⟩:=s.gq.at_;obtain⟨b8,bd,rfl⟩:=Qg (show wr.ownsRow p 81 2 dd (mm d).gq.length cs from u.mo.own.all (⟨81,2,(mm d).gq.length,dd,cs⟩:Qb) (mC (mL (cn.mem_iff.2 (mS ..)))));clear cn;obtain⟨dc,cr,f8,M,-,cm⟩:=s.gj.at_;obtain⟨b7,bc,rfl⟩:=Qg (show wr.ownsRow p 83 2 dc (mm d).gj.length cr from u.mo.own.all (⟨83,2,(mm d).gj.length,dc,cr⟩:Qb) (mC (mL (cm.mem_iff.2 (mS ..)))));clear cm;obtain⟨db,cp,f7,I,-,cl⟩:=s.gx.at_;obtain⟨b6,bb,rfl⟩:=Qg (show wr.ownsRow p 131 3 db (mm d).gx.length cp from u.mo.own.all (⟨131,3,(mm d).gx.length,db,cp⟩:Qb) (mC (mL (cl.mem_iff.2 (mS ..)))));clear cl;have wn:IntKind.i64.wrap ((n:Int)+1)=(n:Int)+1:=by rw[Kw];omega
  clear d0 ei fm cb
  cases hop:d.op with
  |some q =>
   rw[hop]at R
   have HP:Hid (ptF t=((n:Int)+1,Mod.z)):=Hm (by
    rw[c2.o,if_neg (by unfold Xa;rw[hop];simp),<- HN.o])
   have A:=Hm (And.intro u (And.intro H (And.intro q2 R)));clear s u R bf hop q0 q1 q2 q3 q4 q5 q6 q9 H M I
   go_upto_region 11 with fail
   refine last_open (cells:=cells) rfl rfl A.o.2.2.2 A.o.2.1 A.o.2.2.1 A.o.1 ?_
   intro W2 l
   have f:=Hm (HB.o.keep (by rw[<- ai.o];exact l.mo.b));clear l
   go_simp
   obtain⟨b5,br⟩:=f.o.b0 0;obtain⟨b4,bq⟩:=f.o.b0 1;obtain⟨b3,bp⟩:=f.o.b0 2;obtain⟨b2,bo⟩:=f.o.b0 3;obtain⟨bz,bn⟩:=f.o.b0 4;obtain⟨bw,bm⟩:=f.o.b0 5;obtain⟨bv,bl⟩:=f.o.b0 6;obtain⟨bu,bk⟩:=f.o.b0 7;obtain⟨bt,bj⟩:=f.o.b0 8;obtain⟨bs,bh⟩:=f.o.b0 9;obtain⟨ag,ac⟩:=f.o.b0 10;obtain⟨af,ab⟩:=f.o.b0 11;obtain⟨ae,aa⟩:=f.o.b0 12;obtain⟨ad,Y⟩:=f.o.b0 13;have HF:=Hm (((((((((((((((f.o).set 0 (U O ((n:Int)+1))).set 1 (S none 0 0)).set 2 (S none 0 0)).set 3 (S none 0 0)).set 4 (S none 0 0)).set 5 (S none 0 0)).set 6 (S none 0 0)).set 7 (S none 0 0)).set 8 (G false)).set 9 (U O 0)).set 10 (S none 0 0)).set 11 (S none 0 0)).set 12 (S none 0 0)).set 13 (S none 0 0))
   go_wp2
   refine Jp (λW'=>Mo g w (box 36 14 g [U O ((n:Int)+1),S none 0 0,S none 0 0,S none 0 0,S none 0 0,S none 0 0,S none 0 0,S none 0 0,G false,U O 0,S none 0 0,S none 0 0,S none 0 0,S none 0 0]::[]) W') HF.o ?_
   intro W' k
   have u0:=(k.b0 0).1;have u1:=(k.b0 1).1;have u2:=(k.b0 2).1;have u3:=(k.b0 3).1;have u4:=(k.b0 4).1;have u5:=(k.b0 5).1;have u6:=(k.b0 6).1;have u7:=(k.b0 7).1;have u8:=(k.b0 8).1;have u9:=(k.b0 9).1;have F:=(k.b0 10).1;have E:=(k.b0 11).1;have D:=(k.b0 12).1;have C:=(k.b0 13).1
   refine bodyPost_ret (v:=Ag #[U O ((n:Int)+1),S none 0 0,S none 0 0,S none 0 0,S none 0 0,S none 0 0,S none 0 0,S none 0 0,G false,U O 0,S none 0 0,S none 0 0,S none 0 0,S none 0 0]) (by simp[results,results4,go_sem,u0,u1,u2,u3,u4,u5,u6,u7,u8,u9,F,E,D,C]) rfl ?_
   exact ptm_fail HP.o HG.o k
  |none =>
   rw[hop]at R bf;have hX:X=[]:=bf;subst hX;have bg:mm d=d.m:=by unfold mm;rw[hop]
   rw[bg]at s
   by_cases hc:(mm d).gq.length=(mm d).jv.length
   . have cz:(((mm d).gq.length:Int) != ((mm d).jv.length:Int))=false:=by simp;omega
     have HP:Hid (ptF t=(0,d.m)):=Hm (by
      rw[c2.o,if_pos (by unfold Xa;rw[hop,<- bg,hc];simp)])
     have A:=Hm (And.intro u (And.intro H (And.intro q2 R)))
     have fv:=Hm (mrz_to s (c:=[S a0 (mm d).types.length k0,S a1 (mm d).cj.length k1,S a2 (mm d).jv.length k2,S a3 (mm d).fk.length k3,S a4 (mm d).jj.length k4,S a5 (mm d).fq.length k5,S a6 (mm d).fj.length k6,G d.m.gk,U O d.m.start,S a9 (mm d).fw.length k9,S b8 (mm d).gq.length bd,S b7 (mm d).gj.length bc,S b6 (mm d).gx.length bb]) (fun j hj=>by
      have:j=0\/j=1\/j=2\/j=3\/j=4\/j=5\/j=6\/j=7\/j=8\/j=9\/j=10\/j=11\/j=12:=by omega
      rcases this with rfl|rfl|rfl|rfl|rfl|rfl|rfl|rfl|rfl|rfl|rfl|rfl|rfl
      . exact q0.symm
      . exact q1.symm
      . exact q2.symm
      . exact q3.symm
      . exact q4.symm
      . exact q5.symm
      . exact q6.symm
      . exact s.hs.symm
      . exact s.st.symm
      . exact q9.symm
      . exact H.symm
      . exact M.symm
      . exact I.symm) (Nat.le_refl 13))
     have q7:=s.hs;have q8:=s.st;have fu:=Hm (And.intro q0 (And.intro q1 (And.intro q2 (And.intro q3 (And.intro q4 (And.intro q5 (And.intro q6 (And.intro q7 (And.intro q8 (And.intro q9 (And.intro H (And.intro M I))))))))))));clear s u R bf hop q0 q1 q2 q3 q4 q5 q6 q9 H M I q7 q8 bg hc
     go_upto_region 11 with fail
     refine last_shut (cells:=cells) rfl rfl A.o.2.2.2 A.o.2.1 A.o.2.2.1 A.o.1 ?_
     rw[cz]
     intro W2 l
     have f:Hid (Mq g w zs (box 36 14 g (U O 0::zc)::L.flatten) W2):=Hm (mq_box (HB.o.keep (by rw[<- ai.o];exact l.mo.b)) l (by have:=HB.o.lt (mS ..);rw[ai.o];exact this.2));obtain⟨q0,q1,q2,q3,q4,q5,q6,q7,q8,q9,H,M,I⟩:=fu.o;have e0:=(l.b0 0 q0).1;have e1:=(l.b0 1 q1).1;have e2:=(l.b0 2 q2).1;have e3:=(l.b0 3 q3).1;have e4:=(l.b0 4 q4).1;have e5:=(l.b0 5 q5).1;have e6:=(l.b0 6 q6).1;have e7:=(l.b0 7 q7).1;have e8:=(l.b0 8 q8).1;have e9:=(l.b0 9 q9).1;have hi:=(l.b0 10 H).1;have hh:=(l.b0 11 M).1;have hf:=(l.b0 12 I).1;clear l q0 q1 q2 q3 q4 q5 q6 q7 q8 q9 H M I
     go_simp
     obtain⟨b5,br⟩:=f.o.b0 0;obtain⟨b4,bq⟩:=f.o.b0 1;obtain⟨b3,bp⟩:=f.o.b0 2;obtain⟨b2,bo⟩:=f.o.b0 3;obtain⟨bz,bn⟩:=f.o.b0 4;obtain⟨bw,bm⟩:=f.o.b0 5;obtain⟨bv,bl⟩:=f.o.b0 6;obtain⟨bu,bk⟩:=f.o.b0 7;obtain⟨bt,bj⟩:=f.o.b0 8;obtain⟨bs,bh⟩:=f.o.b0 9;obtain⟨ag,ac⟩:=f.o.b0 10;obtain⟨af,ab⟩:=f.o.b0 11;obtain⟨ae,aa⟩:=f.o.b0 12;obtain⟨ad,Y⟩:=f.o.b0 13;have HF:=Hm (((((((((((((((f.o).set 0 (U O 0)).set 1 (S a0 (mm d).types.length k0)).set 2 (S a1 (mm d).cj.length k1)).set 3 (S a2 (mm d).jv.length k2)).set 4 (S a3 (mm d).fk.length k3)).set 5 (S a4 (mm d).jj.length k4)).set 6 (S a5 (mm d).fq.length k5)).set 7 (S a6 (mm d).fj.length k6)).set 8 (G d.m.gk)).set 9 (U O d.m.start)).set 10 (S a9 (mm d).fw.length k9)).set 11 (S b8 (mm d).gq.length bd)).set 12 (S b7 (mm d).gj.length bc)).set 13 (S b6 (mm d).gx.length bb))
     go_wp2
     refine Jp (λW'=>Mq g w zs (box 36 14 g [U O 0,S a0 (mm d).types.length k0,S a1 (mm d).cj.length k1,S a2 (mm d).jv.length k2,S a3 (mm d).fk.length k3,S a4 (mm d).jj.length k4,S a5 (mm d).fq.length k5,S a6 (mm d).fj.length k6,G d.m.gk,U O d.m.start,S a9 (mm d).fw.length k9,S b8 (mm d).gq.length bd,S b7 (mm d).gj.length bc,S b6 (mm d).gx.length bb]::L.flatten) W') HF.o ?_
     intro W' k
     have u0:=(k.b0 0).1;have u1:=(k.b0 1).1;have u2:=(k.b0 2).1;have u3:=(k.b0 3).1;have u4:=(k.b0 4).1;have u5:=(k.b0 5).1;have u6:=(k.b0 6).1;have u7:=(k.b0 7).1;have u8:=(k.b0 8).1;have u9:=(k.b0 9).1;have F:=(k.b0 10).1;have E:=(k.b0 11).1;have D:=(k.b0 12).1;have C:=(k.b0 13).1
     refine bodyPost_ret (v:=Ag #[U O 0,S a0 (mm d).types.length k0,S a1 (mm d).cj.length k1,S a2 (mm d).jv.length k2,S a3 (mm d).fk.length k3,S a4 (mm d).jj.length k4,S a5 (mm d).fq.length k5,S a6 (mm d).fj.length k6,G d.m.gk,U O d.m.start,S a9 (mm d).fw.length k9,S b8 (mm d).gq.length bd,S b7 (mm d).gj.length bc,S b6 (mm d).gx.length bb]) (by simp[results,results4,go_sem,u0,u1,u2,u3,u4,u5,u6,u7,u8,u9,F,E,D,C]) rfl ?_
     refine⟨[S a0 (mm d).types.length k0,S a1 (mm d).cj.length k1,S a2 (mm d).jv.length k2,S a3 (mm d).fk.length k3,S a4 (mm d).jj.length k4,S a5 (mm d).fq.length k5,S a6 (mm d).fj.length k6,G d.m.gk,U O d.m.start,S a9 (mm d).fw.length k9,S b8 (mm d).gq.length bd,S b7 (mm d).gj.length bc,S b6 (mm d).gx.length bb],L,zs,by rw[HP.o],rfl,by rw[HP.o];exact fv.o,?_⟩
     have:=k.tail
     rw[HG.o]at this;exact this
   . have cz:(((mm d).gq.length:Int) != ((mm d).jv.length:Int))=true:=by simp;omega
     have HP:Hid (ptF t=((n:Int)+1,Mod.z)):=Hm (by
      rw[c2.o,if_neg (by unfold Xa;rw[hop,<- bg];simp;omega),<- HN.o])
     have A:=Hm (And.intro u (And.intro H (And.intro q2 R)));clear s u R bf hop q0 q1 q2 q3 q4 q5 q6 q9 H M I bg hc
     go_upto_region 11 with fail
     refine last_shut (cells:=cells) rfl rfl A.o.2.2.2 A.o.2.1 A.o.2.2.1 A.o.1 ?_
     rw[cz]
     intro W2 l
     have f:=Hm (HB.o.keep (by rw[<- ai.o];exact l.mo.b));clear l
     go_simp
     obtain⟨b5,br⟩:=f.o.b0 0;obtain⟨b4,bq⟩:=f.o.b0 1;obtain⟨b3,bp⟩:=f.o.b0 2;obtain⟨b2,bo⟩:=f.o.b0 3;obtain⟨bz,bn⟩:=f.o.b0 4;obtain⟨bw,bm⟩:=f.o.b0 5;obtain⟨bv,bl⟩:=f.o.b0 6;obtain⟨bu,bk⟩:=f.o.b0 7;obtain⟨bt,bj⟩:=f.o.b0 8;obtain⟨bs,bh⟩:=f.o.b0 9;obtain⟨ag,ac⟩:=f.o.b0 10;obtain⟨af,ab⟩:=f.o.b0 11;obtain⟨ae,aa⟩:=f.o.b0 12;obtain⟨ad,Y⟩:=f.o.b0 13;have HF:=Hm (((((((((((((((f.o).set 0 (U O ((n:Int)+1))).set 1 (S none 0 0)).set 2 (S none 0 0)).set 3 (S none 0 0)).set 4 (S none 0 0)).set 5 (S none 0 0)).set 6 (S none 0 0)).set 7 (S none 0 0)).set 8 (G false)).set 9 (U O 0)).set 10 (S none 0 0)).set 11 (S none 0 0)).set 12 (S none 0 0)).set 13 (S none 0 0))
     go_wp2
     refine Jp (λW'=>Mo g w (box 36 14 g [U O ((n:Int)+1),S none 0 0,S none 0 0,S none 0 0,S none 0 0,S none 0 0,S none 0 0,S none 0 0,G false,U O 0,S none 0 0,S none 0 0,S none 0 0,S none 0 0]::[]) W') HF.o ?_
     intro W' k
     have u0:=(k.b0 0).1;have u1:=(k.b0 1).1;have u2:=(k.b0 2).1;have u3:=(k.b0 3).1;have u4:=(k.b0 4).1;have u5:=(k.b0 5).1;have u6:=(k.b0 6).1;have u7:=(k.b0 7).1;have u8:=(k.b0 8).1;have u9:=(k.b0 9).1;have F:=(k.b0 10).1;have E:=(k.b0 11).1;have D:=(k.b0 12).1;have C:=(k.b0 13).1
     refine bodyPost_ret (v:=Ag #[U O ((n:Int)+1),S none 0 0,S none 0 0,S none 0 0,S none 0 0,S none 0 0,S none 0 0,S none 0 0,G false,U O 0,S none 0 0,S none 0 0,S none 0 0,S none 0 0]) (by simp[results,results4,go_sem,u0,u1,u2,u3,u4,u5,u6,u7,u8,u9,F,E,D,C]) rfl ?_
     exact ptm_fail HP.o HG.o k
end YtejkdbnngphgaaaGreatDoor.Yz
namespace YtejkdbnngphgaaaGreatDoor.Ms
open Go.RowKit Go.Sort
variable {d:Int × Mod}{w:J}{C:List Vu}
theorem hi_zb {d:List (Nat × Obj)}{v:Vu}{b:List Int}(h:Yz.Zb d v b)(f:∀q∈d,w.heap[q.1]?=some q.2):∃a c,v=S a (N b) c/\HI .u8 0 w a b:=by
 obtain⟨g,m,l,n,rfl,j,hc⟩:=h;refine⟨_,_,rfl,.inr ⟨g,0,rfl,Hw _,λi hi=>?_⟩⟩;have k:=f _ j;rw[Kk];show w.cell? ⟨g,i,none⟩=_;simp only[World.cell?];rw[k]
 first
  |exact hc i hi
  |simpa using hc i hi
theorem len_RDatZ {a:List (Nat × Obj)}(x:Dat)(cs:List Vu)(rs:List Qb)(h:Yz.RDatZ a x cs rs):N cs=2:=by
 obtain⟨v,b,rfl,-⟩:=h;rfl
theorem len_RCusZ {a:List (Nat × Obj)}(x:Cus)(cs:List Vu)(rs:List Qb)(h:Yz.RCusZ a x cs rs):N cs=3:=by
 obtain⟨b,rfl,-⟩:=h;rfl
theorem ls_DatZ {k:List (Nat × Obj)}{B c:Nat}{a:Option Ad}{d:List Dat}{K}(l:∀q∈k,w.heap[q.1]?=some q.2)(h:Qb.Ok 0 w ⟨83,2,N d,S a (N d) c,C⟩)(f:LR (Yz.RDatZ k) d C K)(n:∀r∈K,r.Ok 0 w):Dat.Ls 0 w a d :=
 Xe Dat.z len_RDatZ (by
  rintro b o x F D ⟨v,A,rfl,⟨H,E,p,rfl⟩,m⟩ hc g;obtain⟨y,t,rfl⟩:=Qf (g _ mS);obtain⟨u,s,rfl,j⟩:=hi_zb m l
  exact⟨y,t,u,s,⟨hc 0 (by decide),hc 1 (by decide)⟩,ls_In (g _ mS) p (fun r hr=>g r (mC hr)),j⟩) h f n
theorem ls_CusZ {j:List (Nat × Obj)}{B c:Nat}{a:Option Ad}{d:List Cus}{K}(k:∀q∈j,w.heap[q.1]?=some q.2)(h:Qb.Ok 0 w ⟨131,3,N d,S a (N d) c,C⟩)(f:LR (Yz.RCusZ j) d C K)(m:∀r∈K,r.Ok 0 w):Cus.Ls 0 w a d :=
 Xe Cus.z len_RCusZ (by
  rintro b o x u s ⟨v,rfl,rfl,l⟩ hc t;obtain⟨p,n,rfl,g⟩:=hi_zb l k
  exact⟨p,n,⟨hc 0 (by decide),hc 1 (by decide),hc 2 (by decide)⟩,g⟩) h f m
theorem mz_is {zs:List (Nat × Obj)}{m:Mod}{cells:List Vu}{L:List (List Qb)}(h:Yz.MRz zs m cells L)(hl:N cells=13)(a:∀r∈L.flatten,Qb.Ok 0 w r)(hz:∀q∈zs,w.heap[q.1]?=some q.2):∃F E u D C A z y d c b n0 n1 v n3 n4 n5 n6 n9 o n l,cells=[S F (N m.types) n0,S E (N m.cj) n1,S u (N m.jv) v,S D (N m.fk) n3,S C (N m.jj) n4,S A (N m.fq) n5,S z (N m.fj) n6,G m.gk,U O m.start,S y (N m.fw) n9,S d (N m.gq) o,S c (N m.gj) n,S b (N m.gx) l]/\Mod.Is 0 w m F E u D C A z y d c b:=by
 obtain⟨v0,c0,k0,e0,l0,a8⟩:=h.types;have r0:∀r∈(⟨137,2,N m.types,v0,c0⟩::k0:List Qb),Qb.Ok 0 w r:=λr hr=>a r (List.mem_flatten.2 ⟨_,Tj l0,hr⟩);obtain⟨F,n0,rfl⟩:=Qf (r0 _ mS);have s0:=ls_FT (r0 _ mS) a8 (λr hr=>r0 r (mC hr));obtain⟨v1,c1,k1,e1,l1,a7⟩:=h.cj;have r1:∀r∈(⟨143,9,N m.cj,v1,c1⟩::k1:List Qb),Qb.Ok 0 w r:=λr hr=>a r (List.mem_flatten.2 ⟨_,Tj l1,hr⟩);obtain⟨E,n1,rfl⟩:=Qf (r1 _ mS);have s1:=ls_Imp (r1 _ mS) a7 (λr hr=>r1 r (mC hr));obtain⟨v2,c2,k2,e2,l2,az⟩:=h.jv;have r2:∀r∈(⟨2,1,N m.jv,v2,c2⟩::k2:List Qb),Qb.Ok 0 w r:=λr hr=>a r (List.mem_flatten.2 ⟨_,Tj l2,hr⟩);obtain⟨u,v,rfl⟩:=Qf (r2 _ mS);have s2:=hi_i64 (show Qb.Ok 0 w ⟨2,1,N m.jv,S u (N m.jv) v,I m.jv⟩from(lr_int az).1 ▸ r2 _ mS);obtain⟨v3,c3,k3,e3,l3,ay⟩:=h.fk;have r3:∀r∈(⟨120,3,N m.fk,v3,c3⟩::k3:List Qb),Qb.Ok 0 w r:=λr hr=>a r (List.mem_flatten.2 ⟨_,Tj l3,hr⟩);obtain⟨D,n3,rfl⟩:=Qf (r3 _ mS);have s3:=ls_Lim (r3 _ mS) ay (λr hr=>r3 r (mC hr));obtain⟨v4,c4,k4,e4,l4,ax⟩:=h.jj;have r4:∀r∈(⟨120,3,N m.jj,v4,c4⟩::k4:List Qb),Qb.Ok 0 w r:=λr hr=>a r (List.mem_flatten.2 ⟨_,Tj l4,hr⟩);obtain⟨C,n4,rfl⟩:=Qf (r4 _ mS);have s4:=ls_Lim (r4 _ mS) ax (λr hr=>r4 r (mC hr));obtain⟨v5,c5,k5,e5,l5,aw⟩:=h.fq
 have r5:∀r∈(⟨76,3,N m.fq,v5,c5⟩::k5:List Qb),Qb.Ok 0 w r:=λr hr=>a r (List.mem_flatten.2 ⟨_,Tj l5,hr⟩);obtain⟨A,n5,rfl⟩:=Qf (r5 _ mS);have s5:=ls_Glob (r5 _ mS) aw (λr hr=>r5 r (mC hr));obtain⟨v6,c6,k6,e6,l6,av⟩:=h.fj;have r6:∀r∈(⟨157,3,N m.fj,v6,c6⟩::k6:List Qb),Qb.Ok 0 w r:=λr hr=>a r (List.mem_flatten.2 ⟨_,Tj l6,hr⟩);obtain⟨z,n6,rfl⟩:=Qf (r6 _ mS);have s6:=ls_Exp (r6 _ mS) av (λr hr=>r6 r (mC hr));obtain⟨v9,c9,k9,e9,l9,au⟩:=h.fw;have r9:∀r∈(⟨78,2,N m.fw,v9,c9⟩::k9:List Qb),Qb.Ok 0 w r:=λr hr=>a r (List.mem_flatten.2 ⟨_,Tj l9,hr⟩);obtain⟨y,n9,rfl⟩:=Qf (r9 _ mS);have s9:=ls_Ele (r9 _ mS) au (λr hr=>r9 r (mC hr));obtain⟨R,bn,bg,bk,bc,t⟩:=h.gq;have k:∀r∈(⟨81,2,N m.gq,R,bn⟩::bg:List Qb),Qb.Ok 0 w r:=λr hr=>a r (List.mem_flatten.2 ⟨_,Tj bc,hr⟩);obtain⟨d,o,rfl⟩:=Qf (k _ mS);have Y:=ls_Cod (k _ mS) t (λr hr=>k r (mC hr));obtain⟨M,bm,bf,bj,bb,s⟩:=h.gj;have g:∀r∈(⟨83,2,N m.gj,M,bm⟩::bf:List Qb),Qb.Ok 0 w r:=λr hr=>a r (List.mem_flatten.2 ⟨_,Tj bb,hr⟩);obtain⟨c,n,rfl⟩:=Qf (g _ mS);have X:=ls_DatZ (B:=0) hz (g _ mS) s (λr hr=>g r (mC hr));obtain⟨H,bl,bd,bh,ba,p⟩:=h.gx;have f:∀r∈(⟨131,3,N m.gx,H,bl⟩::bd:List Qb),Qb.Ok 0 w r:=λr hr=>a r (List.mem_flatten.2 ⟨_,Tj ba,hr⟩);obtain⟨b,l,rfl⟩:=Qf (f _ mS);have V:=ls_CusZ (B:=0) hz (f _ mS) p (λr hr=>f r (mC hr));have e7:=h.hs;have e8:=h.st;refine⟨F,E,u,D,C,A,z,y,d,c,b,n0,n1,v,n3,n4,n5,n6,n9,o,n,l,Rk λj=>?_,s0,s1,s2,s3,s4,s5,s6,s9,Y,X,V⟩;by_cases hj:j<13
 . (have:j=0\/j=1\/j=2\/j=3\/j=4\/j=5\/j=6\/j=7\/j=8\/j=9\/j=10\/j=11\/j=12:=by omega);rcases this with rfl|rfl|rfl|rfl|rfl|rfl|rfl|rfl|rfl|rfl|rfl|rfl|rfl
   . exact e0
   . exact e1
   . exact e2
   . exact e3
   . exact e4
   . exact e5
   . exact e6
   . exact e7
   . exact e8
   . exact e9
   . exact bk
   . exact bj
   exact bh
 rw[Hh (by omega),Hh (by simp;omega)]
abbrev cR (bs:List Int)(g:Nat):Qb:=⟨5,1,N bs,S (some ⟨g,0,none⟩) (N bs) (N bs),Uz0 bs⟩
abbrev bR (g:Nat)(C:List Vu):Qb:=⟨36,14,1,S (some ⟨g,0,none⟩) 1 1,C⟩
def AN (d:Int × Mod)(C:List Vu)(R:List Qb):Prop:=∃a0 n0 a1 n1 a2 n2 a3 n3 a4 n4 a5 n5 a6 n6 a7 n7 a8 n8 a9 n9 a10 n10,C=[U O d.1,S a0 (N d.2.types) n0,S a1 (N d.2.cj) n1,S a2 (N d.2.jv) n2,S a3 (N d.2.fk) n3,S a4 (N d.2.jj) n4,S a5 (N d.2.fq) n5,S a6 (N d.2.fj) n6,G d.2.gk,U O d.2.start,S a7 (N d.2.fw) n7,S a8 (N d.2.gq) n8,S a9 (N d.2.gj) n9,S a10 (N d.2.gx) n10]/\MX d.2 (S a0 (N d.2.types) n0) (S a1 (N d.2.cj) n1) (S a2 (N d.2.jv) n2) (S a3 (N d.2.fk) n3) (S a4 (N d.2.jj) n4) (S a5 (N d.2.fq) n5) (S a6 (N d.2.fj) n6) (S a7 (N d.2.fw) n7) (S a8 (N d.2.gq) n8) (S a9 (N d.2.gj) n9) (S a10 (N d.2.gx) n10) [] R
def AM (d:Int × Mod)(C:List Vu)(rs R:List Qb):Prop:=∃a0 n0 a1 n1 a2 n2 a3 n3 a4 n4 a5 n5 a6 n6 a7 n7 a8 n8 a9 n9 a10 n10,C=[U O d.1,S a0 (N d.2.types) n0,S a1 (N d.2.cj) n1,S a2 (N d.2.jv) n2,S a3 (N d.2.fk) n3,S a4 (N d.2.jj) n4,S a5 (N d.2.fq) n5,S a6 (N d.2.fj) n6,G d.2.gk,U O d.2.start,S a7 (N d.2.fw) n7,S a8 (N d.2.gq) n8,S a9 (N d.2.gj) n9,S a10 (N d.2.gx) n10]/\MX (mkM 1 d.2) (S a0 (N d.2.types) n0) (S a1 (N d.2.cj) n1) (S a2 (N d.2.jv) n2) (S a3 (N d.2.fk) n3) (S a4 (N d.2.jj) n4) (S a5 (N d.2.fq) n5) (S a6 (N d.2.fj) n6) (S a7 (N d.2.fw) n7) (S a8 (N d.2.gq) n8) (S a9 (N d.2.gj) n9) (S a10 (N d.2.gx) n10) rs R
theorem AN.len {C R}(h:AN d C R):N C=14:=by
 obtain⟨B,p,A,o,z,n,y,m,v,l,u,k,t,j,s,g,r,f,q,c,b,a,rfl,-⟩:=h;rfl
theorem AN.one {C R}(h:AN d C R):C.all Hq=true:=by
 obtain⟨B,p,A,o,z,n,y,m,v,l,u,k,t,j,s,g,r,f,q,c,b,a,rfl,-⟩:=h;simp[Hq]
theorem Mo.join {B w0 V W rs R}(h:Mo B w0 rs V)(a:Mo V.heap.size V R W):Mo B w0 (rs++R) W :=
 ⟨Own.new h.own (h.own.keep a.b) a.own h.le,h.b.trans (a.b.mono h.le),Kf h.le a.le⟩
theorem Mo.start (w:J):Mo w.heap.size w [] w:=⟨Own.nil _ _,bFz,lRz⟩
theorem Mo.one {W:J}{r:Qb}(h:r.Ok w.heap.size W)(a:Bw w.heap.size w W):Mo w.heap.size w [r] W:=⟨Own.one h,a,a.size⟩
theorem toB_m (a)(c:Nat)(d:List Int)(w V rs)(l:N d<=1048576)(m:HI .u8 0 w a d)(h:Mo w.heap.size w rs V):Ec Q 5 #[S a (N d) c] V λe g=>e=Z (S (some ⟨V.heap.size,0,none⟩) (N d) (N d))/\Mo w.heap.size w (rs++[cR d V.heap.size]) g:=by
 have j:HI .u8 0 V a d:=by
  rcases m with n|⟨b,o,e,f,hc⟩
  . exact .inl n
  exact .inr ⟨b,o,e,f,λi hi=>(World.cell?_of_block (h.b.block b (World.block_lt_of_cell? w _ (hc i hi)))).trans (hc i hi)⟩
 refine(toB_c a c d V l j).mono ?_;rintro e g ⟨rfl,k,f⟩;exact⟨rfl,h.join (Mo.one (r:=cR d V.heap.size) k f)⟩
def AZ (d:Int × Mod)(C:List Vu)(w:J):Prop:=∃a0 n0 a1 n1 a2 n2 a3 n3 a4 n4 a5 n5 a6 n6 a7 n7 a8 n8 a9 n9 a10 n10,C=[U O d.1,S a0 (N d.2.types) n0,S a1 (N d.2.cj) n1,S a2 (N d.2.jv) n2,S a3 (N d.2.fk) n3,S a4 (N d.2.jj) n4,S a5 (N d.2.fq) n5,S a6 (N d.2.fj) n6,G d.2.gk,U O d.2.start,S a7 (N d.2.fw) n7,S a8 (N d.2.gq) n8,S a9 (N d.2.gj) n9,S a10 (N d.2.gx) n10]/\Mod.Is 0 w d.2 a0 a1 a2 a3 a4 a5 a6 a7 a8 a9 a10
theorem AZ.len (h:AZ d C w):N C=14:=by
 obtain⟨B,p,A,o,z,n,y,m,v,l,u,k,t,j,s,g,r,f,q,c,b,a,rfl,-⟩:=h;rfl
theorem AZ.one (h:AZ d C w):C.all Hq=true:=by
 obtain⟨B,p,A,o,z,n,y,m,v,l,u,k,t,j,s,g,r,f,q,c,b,a,rfl,-⟩:=h;simp[Hq]
theorem AZ.up {W:J}(h:AZ d C w)(q:Bw w.heap.size w W):AZ d C W:=by
 obtain⟨D,p,B,o,A,n,z,m,y,l,v,k,u,j,t,g,s,f,r,c,b,a,rfl,h⟩:=h;exact⟨D,p,B,o,A,n,z,m,y,l,v,k,u,j,t,g,s,f,r,c,b,a,rfl,h.up (Qc q)⟩
theorem mg_shape {RD:Dat->List Vu->List Qb->Prop}{RC:Cus->List Vu->List Qb->Prop}{cells:List Vu}{L:List (List Qb)}(h:MRg RD RC d.2 cells L)(hl:N cells=13)(a:∀r∈L.flatten,Qb.Ok 0 w r):∃a0 v a1 u Y q X p V o R n M m a7 n7 a8 n8 I l c b,U O d.1::cells=[U O d.1,S a0 (N d.2.types) v,S a1 (N d.2.cj) u,S Y (N d.2.jv) q,S X (N d.2.fk) p,S V (N d.2.jj) o,S R (N d.2.fq) n,S M (N d.2.fj) m,G d.2.gk,U O d.2.start,S a7 (N d.2.fw) n7,S a8 (N d.2.gq) n8,S I (N d.2.gj) l,S c (N d.2.gx) b]:=by
 obtain⟨v0,c0,k0,e0,l0,-⟩:=h.types;obtain⟨a0,v,rfl⟩:=Qf (a (⟨137,2,N d.2.types,v0,c0⟩:Qb) (List.mem_flatten.2 ⟨_,Tj l0,mS⟩));obtain⟨v1,c1,k1,e1,l1,-⟩:=h.cj;obtain⟨a1,u,rfl⟩:=Qf (a (⟨143,9,N d.2.cj,v1,c1⟩:Qb) (List.mem_flatten.2 ⟨_,Tj l1,mS⟩));obtain⟨v2,c2,k2,e2,l2,-⟩:=h.jv;obtain⟨Y,q,rfl⟩:=Qf (a (⟨2,1,N d.2.jv,v2,c2⟩:Qb) (List.mem_flatten.2 ⟨_,Tj l2,mS⟩));obtain⟨v3,c3,k3,e3,l3,-⟩:=h.fk;obtain⟨X,p,rfl⟩:=Qf (a (⟨120,3,N d.2.fk,v3,c3⟩:Qb) (List.mem_flatten.2 ⟨_,Tj l3,mS⟩));obtain⟨v4,c4,k4,e4,l4,-⟩:=h.jj;obtain⟨V,o,rfl⟩:=Qf (a (⟨120,3,N d.2.jj,v4,c4⟩:Qb) (List.mem_flatten.2 ⟨_,Tj l4,mS⟩));obtain⟨v5,c5,k5,e5,l5,-⟩:=h.fq;obtain⟨R,n,rfl⟩:=Qf (a (⟨76,3,N d.2.fq,v5,c5⟩:Qb) (List.mem_flatten.2 ⟨_,Tj l5,mS⟩));obtain⟨v6,c6,k6,e6,l6,-⟩:=h.fj;obtain⟨M,m,rfl⟩:=Qf (a (⟨157,3,N d.2.fj,v6,c6⟩:Qb) (List.mem_flatten.2 ⟨_,Tj l6,mS⟩));obtain⟨v9,c9,k9,e9,l9,-⟩:=h.fw;obtain⟨I,l,rfl⟩:=Qf (a (⟨78,2,N d.2.fw,v9,c9⟩:Qb) (List.mem_flatten.2 ⟨_,Tj l9,mS⟩));obtain⟨k,H,bb,D,A,-⟩:=h.gq;obtain⟨c,b,rfl⟩:=Qf (a (⟨81,2,N d.2.gq,k,H⟩:Qb) (List.mem_flatten.2 ⟨_,Tj A,mS⟩));obtain⟨g,F,ba,C,z,-⟩:=h.gj;obtain⟨ab,t,rfl⟩:=Qf (a (⟨83,2,N d.2.gj,g,F⟩:Qb) (List.mem_flatten.2 ⟨_,Tj z,mS⟩));obtain⟨f,E,az,B,y,-⟩:=h.gx;obtain⟨aa,s,rfl⟩:=Qf (a (⟨131,3,N d.2.gx,f,E⟩:Qb) (List.mem_flatten.2 ⟨_,Tj y,mS⟩));have e7:=h.hs;have e8:=h.st;refine⟨a0,v,a1,u,Y,q,X,p,V,o,R,n,M,m,I,l,c,b,ab,t,aa,s,Rk λj=>?_⟩;by_cases hj:j<14
 . (have:j=0\/j=1\/j=2\/j=3\/j=4\/j=5\/j=6\/j=7\/j=8\/j=9\/j=10\/j=11\/j=12\/j=13:=by omega);rcases this with rfl|rfl|rfl|rfl|rfl|rfl|rfl|rfl|rfl|rfl|rfl|rfl|rfl|rfl
   . rfl
   . exact e0
   . exact e1
   . exact e2
   . exact e3
   . exact e4
   . exact e5
   . exact e6
   . exact e7
   . exact e8
   . exact e9
   . exact D
   . exact C
   exact B
 rw[Hh (by simp;omega),Hh (by simp;omega)]
def TeQ (d:Int × Mod)(w:J)(rs:List Qb)(e:Ending)(W:J):Prop:=∃C R,e=Z (Ag C.toArray)/\AN d C R/\Mo w.heap.size w (rs++R) W
theorem iyl (t:List UInt8):(Yz.Iy t).length=N t:=by simp
theorem ipt_m (t:List UInt8)(w V:J)(rs)(g:Nat)(C:N t<=1048576)(E:Yz.Vs V.heap.size V)(h:Mo w.heap.size w rs V)(D:cR (Yz.Iy t) g∈rs):Ec Q 6 #[S (some ⟨g,0,none⟩) (Yz.Iy t).length (Yz.Iy t).length] V (TeQ (Yz.ptF t) w rs):=by
 have b:V.ownsRow w.heap.size 5 1 (S (some ⟨g,0,none⟩) (Yz.Iy t).length (Yz.Iy t).length) (Yz.Iy t).length (Uz0 (Yz.Iy t)):=h.row D;rw[iyl]at b⊢;refine(Yz.pt_c V _ _ _ t b E C).mono ?_;rintro e W ⟨c,L,rfl,hc,a,m,n⟩;have F:∀r∈L.flatten,Qb.Ok 0 W r:=λr b=>World.ownsRow.mono (m.all r b) (Hw _);obtain⟨a0,B,a1,A,a2,z,a3,y,Y,v,X,u,R,s,M,q,I,p,H,o,k,f,l⟩:=mg_shape (d:=Yz.ptF t) a hc F;have j:=(List.cons.inj l).2;subst j;have hx:=mr_mx a [];rw[Tb]at hx;exact⟨_,L.flatten,by rw[l],⟨a0,B,a1,A,a2,z,a3,y,Y,v,X,u,R,s,M,q,I,p,H,o,k,f,rfl,hx⟩,h.join ⟨m,n,n.size⟩⟩
theorem spt_m (t:List UInt8)(w V rs)(g:Nat)(D:N t<=1048576)(h:Mo w.heap.size w rs V)(E:cR (Yz.Iy t) g∈rs):Ec Q 4 #[S (some ⟨g,0,none⟩) (Yz.Iy t).length (Yz.Iy t).length] V λe W=>∃C,e=Z (Ag C.toArray)/\AZ (Yz.ptF t) C W/\Bw V.heap.size V W:=by
 have a:V.ownsRow w.heap.size 5 1 (S (some ⟨g,0,none⟩) (Yz.Iy t).length (Yz.Iy t).length) (Yz.Iy t).length (Uz0 (Yz.Iy t)):=h.row E;rw[iyl]at a⊢;refine(Yz.mpt_c V _ _ _ t a D).mono ?_;rintro e W ⟨c,L,zs,rfl,hc,j,f⟩;have F:∀r∈L.flatten,Qb.Ok 0 W r:=λr a=>World.ownsRow.mono (f.mo.own.all r a) (Hw _);obtain⟨a0,a1,a2,a3,a4,Y,X,R,M,I,k,A,y,v,u,s,p,o,n,m,l,d,B,H⟩:=mz_is j hc F (λq hq'=>(f.z q hq').1);subst B;exact⟨_,rfl,⟨a0,A,a1,y,a2,v,a3,u,a4,s,Y,p,X,o,R,n,M,m,I,l,k,d,rfl,H⟩,f.mo.b⟩
theorem eqB_m (a:List Int)(w V rs)(g c:Nat)(f:N a<=1048576)(h:Mo w.heap.size w rs V)(d:cR a g∈rs)(b:cR a c∈rs):Ec Q 8 #[S (some ⟨g,0,none⟩) (N a) (N a),S (some ⟨c,0,none⟩) (N a) (N a)] V λe W=>e=Z (G true)/\Mo w.heap.size w rs W:=by
 refine(eqB_any _ _ _ _ a V (by omega) ((hi_u8 (h.row d)).mono (Hw _)) ((hi_u8 (h.row b)).mono (Hw _))).mono ?_;rintro e W ⟨rfl,n,rfl⟩;exact⟨rfl,h.drewN n⟩
theorem mx_app {m v0 v1 v2 v3 v4 v5 v6 v7 v8 v9 v10 R}(h:MX m v0 v1 v2 v3 v4 v5 v6 v7 v8 v9 v10 [] R)(rs:List Qb):MX m v0 v1 v2 v3 v4 v5 v6 v7 v8 v9 v10 rs (R++rs):=by
 obtain⟨D,u,C,B,A,C5,t,C6,z,s,y,r,v,q,p,o,n,l,k,j,g,f,d,c,b,a,rfl⟩:=h;exact⟨D,u,C,B,A,C5,t,C6,z,s,y,r,v,q,p,o,n,l,k,j,g,f,d,c,b,a,by simp only[List.append_assoc,List.cons_append,List.nil_append]⟩
theorem AM.mem {C rs R}(h:AM d C rs R){r:Qb}(hr:r∈rs):r∈R:=by
 obtain⟨a0,F,a1,E,a2,D,Y,B,X,A,V,z,M,y,L,v,I,u,H,t,p,b,-,C0,K0,C1,C3,C4,C5,K5,C6,C7,K7,C8,K8,C9,K9,s,q,o,n,m,l,k,j,g,f,c,a,rfl⟩:=h;simp only[List.mem_cons,List.mem_append,hr,or_true]
theorem eqT_m {M:List Vu}{R}{V:J}{rs}(hl:Mod.LB 1048576 d.2)(hA:AN d C R)(u:AZ d M w)(h:Mo w.heap.size w rs V)(hr:∀r∈R,r∈rs):Ec Q 7 #[Ag C.toArray,Ag M.toArray] V λe W=>e=Z (G true)/\Mo w.heap.size w rs W:=by
 obtain⟨a0,n0,a1,n1,a2,n2,a3,n3,a4,n4,a5,n5,a6,n6,a7,n7,a8,Y,a9,X,H,p,rfl,hx⟩:=hA;obtain⟨L,s,I,q,F,o,E,n,D,m,B,l,A,k,z,j,y,g,v,f,c,a,rfl,t⟩:=u.up h.b;refine(eqT_c d.1 d.2 a0 n0 a1 n1 a2 n2 a3 n3 a4 n4 a5 n5 a6 n6 a7 n7 a8 Y a9 X H p L s I q F o E n D m B l A k z j y g v f c a V (mx_is hx (λr h'=>h.row (hr r h'))) t hl).mono ?_;rintro e W ⟨rfl,hb⟩;exact⟨rfl,h.keep hb⟩
theorem markT_m {C R w V}{rs:List Qb}(hl:LnM d.2)(I:szM d.2<=500000000)(H:AN d C R)(h:Mo w.heap.size w (R++rs) V):Ec Q 10 #[Ag C.toArray,U O 1] V λe W=>∃c,e=Z (U O (1+(szM d.2:Nat)))/\AM d C rs c/\Mo w.heap.size w c W:=by
 obtain⟨E,r,D,q,B,p,A,o,z,n,y,m,v,l,u,k,t,j,s,g,b,a,rfl,hx⟩:=H;refine(markT_c d.1 d.2 E r D q B p A o z n y m v l u k t j s g b a 1 _ (mx_app hx rs) h hl (by omega) (by omega)).mono ?_;rintro e W ⟨c,rfl,f,F⟩;exact⟨c,rfl,⟨E,r,D,q,B,p,A,o,z,n,y,m,v,l,u,k,t,j,s,g,b,a,rfl,f⟩,F⟩
theorem heldT_m {C R w V rs rs'}(hl:LnM d.2)(H:szM d.2<=500000000)(s:AM d C rs' R)(h:Mo w.heap.size w rs V)(hr:∀r∈R,r∈rs):Ec Q 11 #[Ag C.toArray,U O 1] V λe W=>e=Z (U O (1+(szM d.2:Nat)))/\Mo w.heap.size w rs W:=by
 obtain⟨F,p,E,o,D,n,B,m,A,l,z,k,y,j,v,g,u,f,t,c,b,a,rfl,hx⟩:=s;refine(heldT_c d.1 d.2 F p E o D n B m A l z k y j v g u f t c b a 1 _ _ _ _ hx (λr h'=>h.row (hr r h')) hl (by omega) (by omega)).mono ?_;rintro e W ⟨rfl,q⟩;exact⟨rfl,h.keep q⟩
theorem sizeD:(Q.info? 36).map (·.size)=some 14:=by kernel_rfl
theorem under36:(Q.underlying 36).map TypeDesc.isRow=some true:=by kernel_rfl
theorem bx_load {B W}{g:Nat}(h:Qb.Ok B W (bR g C)):(Instr.loadAt 36 (Yp (some ⟨g,0,none⟩))).run Q W=.ok (Ag C.toArray) W:=by
 have b:W.ownsRow B 36 14 (S (some ⟨g,0,none⟩) 1 1) 1 C:=h;have c:N C=14:=by have:=b.1;simpa using this
 have a:=under36;cases hd:Q.underlying 36 with
 |none=>rw[hd]at a;cases a
 |some d =>
  rw[hd]at a
  refine run_loadAt_mid W g 0 36 C d (λj v hv=>?_) hd (by simpa using a) (by rw[c];exact sizeD)
  rw[Kk];have f:=(List.getElem?_eq_some_iff.1 hv).1
  exact(World.ownsRow.cellAt b j (by omega)).trans hv
theorem Xx {B W}{g:Nat}(h:Qb.Ok B W (bR g C)){b:Array Oper}{rest:List Oper}{op:Oper}{a:Act}{c:Exit->Act->J->Prop}(d:Region.wanted op (yielded b a.tmps)=true)(x:Operand)(f:op.op=.load 36 x)(hx:a.eval x=Yp (some ⟨g,0,none⟩))(j:wpList Q b c rest (a.put op.dst (Ag C.toArray)) W):wpList Q b c (op::rest) a W:=by
 refine wpList_step λK hK=>?_;rw[if_pos d];unfold Oper.wp execOp;simp only[f,hx,bx_load h,Sem.run_bind,Mx,Oper.upon_value];exact hK _ _ j
theorem Mo.box' {B w0 V rs R}{C}(h:Mo B w0 rs V)(a:AN d C R):Mo B w0 (bR V.heap.size C::rs) (V.alloc (Fc C.toArray 36)):=by
 have:=h.box C.toArray 36 14 (by simpa using a.len);simpa using this
theorem has_hi {a:Option Ad}{c:List Int}(h:By.Has w a c):HI .u8 0 w a c:=by
 rcases h with h|⟨b,o,e,hc⟩
 . exact .inl h
 exact .inr ⟨b,o,e,Hw _,hc⟩
theorem pm_lawT {α:Type}(b1 c2 c3:α)(a:List α):((b1::(([]++[c2])++a))++[c3]).Perm (c2::(c3::(a++[b1]))):=by
 classical
 refine List.perm_iff_count.2 λz=>?_;simp only[List.count_append,List.count_cons,List.count_nil];omega
theorem lawT (a)(Y:Nat)(t:List UInt8)(w)(j:N t<=maxLen)(hH:HI .u8 0 w a (Yz.Iy t))(hv:Yz.Vs w.heap.size w)(I:N t<=1048576->Mod.LB 1048576 (Yz.ptF t).2/\LnM (Yz.ptF t).2/\szM (Yz.ptF t).2<=500000000):Ec Q 3 #[S a (Yz.Iy t).length Y] w λe w'=>e=Z (G true)/\Bw w.heap.size w w':=by
 unfold maxLen at j;have au:=iyl t;by_cases E:1048576<N t
 . (have av:(1048576:Int)<((Yz.Iy t).length:Int):=by omega);clear hH hv I;generalize Yz.Iy t=bs at *;go_enter func3,ntmps3;go_wp2;go_ret;exact⟨rfl,bFz⟩
 have av:¬(1048576:Int)<((Yz.Iy t).length:Int):=by omega
 have f:N t<=1048576:=by omega
 have hn:(Yz.Iy t).length<=1048576:=by omega
 have KT:=Hm (λ(W0 V:J) (rs:List Qb) (hh:HI .u8 0 W0 a (Yz.Iy t)) (h:Mo W0.heap.size W0 rs V)=>toB_m a Y (Yz.Iy t) W0 V rs hn hh h);have KS:=Hm (λ(V:J) (rs:List Qb) (g:Nat) (h:Mo w.heap.size w rs V) (hg:cR (Yz.Iy t) g∈rs)=>spt_m t w V rs g f h hg);have KI:=Hm (λ(W0 V:J) (rs:List Qb) (g:Nat) (hv:Yz.Vs V.heap.size V) (h:Mo W0.heap.size W0 rs V) (hg:cR (Yz.Iy t) g∈rs)=>ipt_m t W0 V rs g f hv h hg);have HH:=Hm hH;have HV:=Hm hv;have z:=Hm (I f).1;have y:=Hm (I f).2.1;have s:=(I f).2.2;clear hH E j au hv I f;generalize Yz.ptF t=d at *;generalize Yz.Iy t=bs at *;go_enter func3,ntmps3;go_wp2_with fail
 refine(KT.o w w [] HH.o (Mo.start w)).mono ?_;rintro e w1 ⟨rfl,h1⟩;have M1:=Hm h1;clear h1;go_wp2_with fail
 refine(KS.o w1 _ _ M1.o (by simp)).mono ?_;rintro e C ⟨C0,rfl,hx,F⟩;have X0:=Hm hx;have hl:=hx.len;have B:=Hm (M1.o.b.trans (F.mono M1.o.le));clear hx F M1;go_wp2_with fail
 rw[storeNew C0 (hv:=rfl) (hg:=rfl) (hl:=?hl) (h1:=X0.o.one)];case hl=>exact X0.o.len
 simp only[Mx];have k:Mo C.heap.size C [bR C.heap.size C0] (C.alloc (Fc C0.toArray 36)):=by have:=(Mo.start C).box C0.toArray 36 14 (by simpa using hl);simpa using this
 clear hl;generalize H:C.alloc (Fc C0.toArray 36)=V2 at k⊢;have q:=Hm (k.row mS);have Z0:=Hm (X0.o.up k.b);have m:=Hm (B.o.trans (k.b.mono B.o.size));have A:=Hm (HH.o.up (Qc m.o));have ac:Hid (Yz.Vs V2.heap.size V2):=Hm ((HV.o.keep m.o).up m.o.size);clear H k X0 B HH HV KS;go_wp2_with fail
 refine(KT.o V2 V2 [] A.o (Mo.start V2)).mono ?_;rintro e w3 ⟨rfl,h3⟩;have M3:=Hm h3;clear h3;go_wp2_with fail
 refine(KI.o V2 w3 _ _ ((ac.o.keep M3.o.b).up M3.o.le) M3.o (by simp)).mono ?_;rintro e w4 ⟨C1,R1,rfl,hx,j⟩;have D:=Hm hx;have hl:=hx.len;have M4:=Hm (j.box' hx);clear hx j M3;go_wp2_with fail
 rw[storeNew C1 (hv:=rfl) (hg:=rfl) (hl:=?hl) (h1:=D.o.one)];case hl=>exact D.o.len
 simp only[Mx];clear hl;generalize H:w4.alloc (Fc C1.toArray 36)=V4 at M4⊢;clear H;have p:=Hm (Qb.Ok.below q.o M4.o.b);have c:=Hm (M4.o.row mS);go_wp2_with (first|refine Xx c.o rfl _ rfl rfl ?_|refine Xx p.o rfl _ rfl rfl ?_)
 refine(eqT_m z.o D.o Z0.o M4.o (λr hr=>by simp[hr])).mono ?_;rintro e w5 ⟨rfl,h5⟩;have M5:=Hm h5;clear h5 M4 p c;go_wp2_with fail
 refine(KT.o V2 w5 _ A.o M5.o).mono ?_;rintro e w6 ⟨rfl,h6⟩;have M6:=Hm h6;clear h6 M5;go_wp2_with fail
 refine(eqB_m bs V2 w6 _ _ _ hn M6.o (by simp) (by simp)).mono ?_;rintro e w7 ⟨rfl,h7⟩;have M7:=Hm (h7.perm (pm_lawT _ _ _ _));clear h7 M6;go_wp2_with fail
 refine(markB_c bs _ _ 1 M7.o (by omega) (by omega)).mono ?_;rintro e w8 ⟨rfl,h8⟩;have M8:=Hm h8.tail.tail;clear h8 M7;have ar:¬((1:Int)+N bs)<0:=by omega
 have br:decide (((1:Int)+N bs)<0)=false:=decide_eq_false ar;have p:=Hm (Qb.Ok.below q.o M8.o.b);have c:=Hm (M8.o.row (mR mS));go_wp2_with (first|refine Xx c.o rfl _ rfl rfl ?_|refine Xx p.o rfl _ rfl rfl ?_)
 refine(eqT_m z.o D.o Z0.o M8.o (λr hr=>by simp[hr])).mono ?_;rintro e w9 ⟨rfl,h9⟩;have M9:=Hm h9;clear h9 M8 p c;have c:=Hm (M9.o.row (mR mS));go_wp2_with (refine Xx c.o rfl _ rfl rfl ?_)
 refine(markT_m y.o s D.o M9.o).mono ?_;rintro e bp ⟨R3,rfl,hx,j⟩;have X3:=Hm hx;have v:=Hm j;clear hx j M9 D c;have c:=Hm (v.o.row (X3.o.mem mS));go_wp2_with (refine Xx c.o rfl _ rfl rfl ?_)
 refine(heldT_m y.o s X3.o v.o (λr hr=>hr)).mono ?_;rintro e aq ⟨rfl,X⟩;have ab:=Hm X;clear X v c;go_wp2_with fail
 refine(KT.o V2 aq _ A.o ab.o).mono ?_;rintro e ao ⟨rfl,R⟩;have n:=Hm R;clear R ab;go_wp2_with fail
 refine(KI.o V2 ao _ _ ((ac.o.keep n.o.b).up n.o.le) n.o (by simp)).mono ?_;rintro e ak ⟨C2,R2,rfl,hx,j⟩;have X2:=Hm hx;have hl:=hx.len;have l:=Hm (j.box' hx);clear hx j n;go_wp2_with fail
 rw[storeNew C2 (hv:=rfl) (hg:=rfl) (hl:=?hl) (h1:=X2.o.one)];case hl=>exact X2.o.len
 simp only[Mx];clear hl;generalize H:ak.alloc (Fc C2.toArray 36)=V13 at l⊢;clear H;have p:=Hm (Qb.Ok.below q.o l.o.b);have x2:=Hm (l.o.row mS);go_wp2_with (first|refine Xx x2.o rfl _ rfl rfl ?_|refine Xx p.o rfl _ rfl rfl ?_)
 refine(eqT_m z.o X2.o Z0.o l.o (λr hr=>by simp[hr])).mono ?_;rintro e bo ⟨rfl,M⟩;have u:=Hm M;clear M l p x2;have c:=Hm (u.o.row (mC (mL (mL (X3.o.mem mS)))));go_wp2_with (refine Xx c.o rfl _ rfl rfl ?_)
 refine(heldT_m y.o s X3.o u.o (λr hr=>(mC (mL (mL hr))))).mono ?_;rintro e bn ⟨rfl,L⟩;have az:=Hm L;clear L u c;go_wp2;go_ret;exact⟨rfl,m.o.trans (az.o.b.mono m.o.size)⟩
end YtejkdbnngphgaaaGreatDoor.Ms
namespace YtejkdbnngphgaaaGreatDoor.Yz
open Go.RowKit Go.Sort
variable {r:List Wd}{m:Mod}{L:Nat}
theorem lns_sum:∀(n:Nat) (t:Wd),N t<=n->((lns t).map Hx).sum=N t
 |n,t,hn=>by
  by_cases ht:t=[]
  . rw[ht,lns_nil];rfl
  rcases Jc t 10 with e|⟨o,e,a,ha⟩
  . rw[lns_no ht e];simp
  . rw[lns_nl ht e]
    cases n with
    |zero=>exact(ht (List.eq_nil_of_length_eq_zero (by omega))).elim
    |succ n =>
     rw[Mm,List.sum_cons,lns_sum n (t.drop (o+1)) (by rw[Rx];omega),Iq,Rx]
     omega
abbrev NB:Nat:=1048576
def HdB:Hd->Prop
 |.glob _=>True
 |.elem fs=>N fs<=NB
 |.code ls=>N ls<=NB
 |.data bs=>N bs<=NB
def szH:Hd->Nat
 |.glob _=>2
 |.elem fs=>N fs
 |.code ls=>Ms.Qa Ms.QT ls
 |.data bs=>N bs
structure MB (m:Mod):Prop where
 ty:∀x∈m.types,QE.LB NB x
 im:∀x∈m.cj,Imp.LB NB x
 ex:∀x∈m.fj,Exp.LB NB x
 gl:∀x∈m.fq,∀y∈x.ini,In.LB NB y
 el:∀x∈m.fw,(∀y∈x.off,In.LB NB y)/\N x.fs<=NB
 co:∀x∈m.gq,(∀y∈x.body,In.LB NB y)/\N x.gv<=NB
 da:∀x∈m.gj,(∀y∈x.off,In.LB NB y)/\N x.bs<=NB
 cu:∀x∈m.gx,Cus.LB NB x
 n1:∀x∈m.fq,N x.ini<=NB
 n2:∀x∈m.fw,N x.off<=NB
 n3:∀x∈m.gq,N x.body<=NB
 n4:∀x∈m.gj,N x.off<=NB
theorem mb_zero:MB Mod.z:=⟨λx h=>(by cases h),λx h=>(by cases h),λx h=>(by cases h),λx h=>(by cases h),λx h=>(by cases h),λx h=>(by cases h),λx h=>(by cases h),λx h=>(by cases h),λx h=>(by cases h),λx h=>(by cases h),λx h=>(by cases h),λx h=>(by cases h)⟩
theorem Jz {α:Type}{P:α->Prop}{a:List α}(h:∀x∈a,P x)(z:α):∀i,i<N a->P (a.getD i z):=λi hi=>by
 simp only[Ty,Kv hi,Lh]
 exact h _ (Ez hi)
theorem ft_len {ws:List Wd}{x:QE}(h:ftF ws=some x):N x.ps+N x.rs<=N ws:=by
 have a:(ws.takeWhile (·≠arW)).length+(ws.dropWhile (·≠arW)).length=N ws:=by rw[<- Kb,List.takeWhile_append_dropWhile]
 unfold ftF at h;split at h
 . split at h
   . rename_i b;cases h;rw[b]at a;simp at a⊢;omega
   . rename_i b;split at h
     . cases h;rw[b]at a;simp at a⊢;omega
     cases h
   cases h
 cases h
theorem grp_len:∀{ws:List Wd} {l:List Grp},JH ws=some l->2*N l<=N ws
 |[],l,h=>by simp[JH]at h;subst h;simp
 |[a],l,h=>by simp[JH]at h
 |n::t::r,l,h=>by
  simp only[JH]at h
  split at h
  · rw[Tz]at h;obtain⟨q,b,rfl⟩:=h
    have:=grp_len b
    simp;omega
  . cases h
theorem imp_lb {x:Imp}(f:L<=NB)(hx:∀s∈r,N s<=L)(h:Xy r=some x):Imp.LB NB x:=by
 unfold Xy pre3 at h;split at h
 . rename_i a b c g;have ha:=Kf (Xm a) (Kf (hx a (by simp)) f);have d:=Kf (Xm b) (Kf (hx b (by simp)) f);rw[<- QJ]at ha d;split at h
   . unfold XD at h;split at h
     . rw[Tz]at h;obtain⟨y,-,rfl⟩:=h;exact⟨ha,d⟩
     split at h
     . rw[Tz]at h;obtain⟨y,-,rfl⟩:=h;exact⟨ha,d⟩
     rw[Tz]at h;obtain⟨y,-,rfl⟩:=h;exact⟨ha,d⟩
   cases h
 cases h
theorem exp_lb {x:Exp}(d:L<=NB)(hx:∀s∈r,N s<=L)(h:XV r=some x):Exp.LB NB x:=by
 unfold XV if3 at h;split at h
 . rename_i a b c;have ha:=Kf (Xm a) (Kf (hx a (by simp)) d);rw[<- QJ]at ha;split at h
   . cases h;exact ha
   cases h
 cases h
theorem cus_lb {x:Cus}(f:L<=NB)(hx:∀s∈r,N s<=L)(h:cusF r=some x):Cus.LB NB x/\N x.bs<=L:=by
 unfold cusF if3 at h;split at h
 . rename_i a b c;have d:=Kf (Xm b) (Kf (hx b (by simp)) f);have hc:=Kf (Xm c) (hx c (by simp));rw[<- QJ]at d;split at h
   . cases h;exact⟨⟨d,by simpa using Kf hc f⟩,by simpa using hc⟩
   cases h
 cases h
theorem dat_lb {x:Wd}(hx:∀s∈r,N s<=L)(h:datF r=some x):N x<=L:=by
 unfold datF if1 at h;split at h
 . rename_i a;have ha:=Kf (Xm a) (hx a (by simp));split at h
   . cases h;exact ha
   cases h
 cases h
theorem nums_lb {x:List Int}(h:Xo r=some x):N x=N r:=by
 unfold Xo at h;split at h
 . cases h;simp
 cases h
theorem grps_lb {x:List Grp}(h:Js r=some x):2*N x<=N r:=by
 unfold Js at h;split at h
 . rename_i l a;split at h
   . cases h;exact grp_len a
   cases h
 cases h
theorem sz_grp (l:List Grp):Ms.Qa Ms.QT l=2*N l:=by
 induction l with
 |nil=>rfl
 |cons a l ih=>rw[Ms.QK,ih];simp[Ms.QT];omega
theorem Jq {α:Type}{P:α->Prop}{b:List α}{y:α}(h:∀x∈b,P x)(c:P y):∀x∈b++[y],P x:=λx hx=>by
 rcases List.mem_append.1 hx with a|a
 . exact h x a
 . rw[List.mem_singleton.1 a];exact c
theorem nms_len2:∀{b:List Wd} {vs:List Int},Nms b vs->N vs=N b
 |[],[],_=>rfl
 |_::_,[],h=>h.elim
 |[],_::_,h=>h.elim
 |a::b,v::vs,h=>by simp[nms_len2 h.2]
theorem arg_len {f:Int}{x:In}(h:Arg f r x):N x.l<=N r:=by
 unfold Arg at h;by_cases m:f=1
 . rw[if_pos m]at h;rcases h with ⟨-,e⟩|⟨t,-,-,e⟩<;>(rw[e];simp)
 rw[if_neg m]at h;by_cases k:f=2\/f=4
 . rw[if_pos k]at h;obtain⟨s,v,-,-,e⟩:=h;rw[e];simp
 rw[if_neg k]at h;by_cases j:f=3
 . rw[if_pos j]at h;obtain⟨p,s,vs,v,n,o,-,e⟩:=h;rw[e,n];have:=nms_len2 o;simp;omega
 rw[if_neg j]at h;by_cases g:f=5
 . rw[if_pos g]at h;obtain⟨s,t,v,u,-,-,-,e⟩:=h;rw[e];simp
 rw[if_neg g]at h;by_cases d:f=7
 . rw[if_pos d]at h;obtain⟨s,v,-,-,e⟩:=h;rw[e];simp
 rw[if_neg d]at h;by_cases c:f=8
 . rw[if_pos c]at h;obtain⟨s,v,-,-,e⟩:=h;rw[e];simp
 rw[if_neg c]at h;by_cases b:f=9
 . rw[if_pos b]at h;obtain⟨s,u,-,-,-,-,e⟩:=h;rw[e];simp
 rw[if_neg b]at h;by_cases a:f=10
 . rw[if_pos a]at h;obtain⟨s,u,-,-,-,-,e⟩:=h;rw[e];simp
 rw[if_neg a]at h;obtain⟨-,e⟩:=h;rw[e];simp
theorem mb_add (a:MB m){is:List In}{b:Hd}(d:HdB b)(hi:∀y∈is,In.LB NB y)(c:N is<=NB):MB (Xsz0 m is b)/\Ms.szM (Xsz0 m is b)=Ms.szM m+(szH b+Ms.Qa Ms.QC is):=by
 cases b with
 |glob t=>exact⟨⟨a.ty,a.im,a.ex,Jq a.gl hi,a.el,a.co,a.da,a.cu,Jq a.n1 c,a.n2,a.n3,a.n4⟩,by simp only[Xsz0,Ms.szM,Ms.Qw,Ms.Qy,szH];omega⟩
 |elem fs=>exact⟨⟨a.ty,a.im,a.ex,a.gl,Jq a.el ⟨hi,d⟩,a.co,a.da,a.cu,a.n1,Jq a.n2 c,a.n3,a.n4⟩,by simp only[Xsz0,Ms.szM,Ms.Qw,Ms.QZ,szH];omega⟩
 |code ls=>exact⟨⟨a.ty,a.im,a.ex,a.gl,a.el,Jq a.co ⟨hi,d⟩,a.da,a.cu,a.n1,a.n2,Jq a.n3 c,a.n4⟩,by simp only[Xsz0,Ms.szM,Ms.Qw,Ms.Q2,szH];omega⟩
 |data bs=>exact⟨⟨a.ty,a.im,a.ex,a.gl,a.el,a.co,Jq a.da ⟨hi,(by have f:N bs<=NB:=d;simpa using f)⟩,a.cu,a.n1,a.n2,a.n3,Jq a.n4 c⟩,by simp only[Xsz0,Ms.szM,Ms.Qw,Ms.Q7,szH,Ih];omega⟩
def ItB (m:Mod)(c:Nat):It->Prop
 |.mod m'=>MB m'/\Ms.szM m'<=Ms.szM m+c
 |.hd hd=>HdB hd/\szH hd<=c
theorem item_mb {k:Nat}{i:It}(f:L<=300000)(hx:∀s∈r,N s<=L)(hr:N r<=L)(a:MB m)(h:QN k m r=some i):ItB m (L+9) i:=by
 have c:L<=NB:=by unfold NB;omega
 unfold QN at h;split at h
 . rw[Tz]at h;obtain⟨x,b,rfl⟩:=h;have d:=ft_len b;exact⟨⟨Jq a.ty ⟨by unfold NB;omega,by unfold NB;omega⟩,a.im,a.ex,a.gl,a.el,a.co,a.da,a.cu,a.n1,a.n2,a.n3,a.n4⟩,by simp only[Ms.szM,Ms.Qw,Ms.QH];omega⟩
 . rw[Tz]at h;obtain⟨x,b,rfl⟩:=h;exact⟨⟨a.ty,Jq a.im (imp_lb c hx b),a.ex,a.gl,a.el,a.co,a.da,a.cu,a.n1,a.n2,a.n3,a.n4⟩,by simp only[Ms.szM,Ms.Qw,Ms.Qr];omega⟩
 . rw[Tz]at h;obtain⟨x,b,rfl⟩:=h;exact⟨⟨a.ty,a.im,a.ex,a.gl,a.el,a.co,a.da,a.cu,a.n1,a.n2,a.n3,a.n4⟩,by simp only[Ms.szM,Kb,Kj,List.length_nil];omega⟩
 . rw[Tz]at h;obtain⟨x,b,rfl⟩:=h;exact⟨⟨a.ty,a.im,a.ex,a.gl,a.el,a.co,a.da,a.cu,a.n1,a.n2,a.n3,a.n4⟩,by simp only[Ms.szM,Ms.Qw,Ms.Qo];omega⟩
 . rw[Tz]at h;obtain⟨x,b,rfl⟩:=h;exact⟨⟨a.ty,a.im,a.ex,a.gl,a.el,a.co,a.da,a.cu,a.n1,a.n2,a.n3,a.n4⟩,by simp only[Ms.szM,Ms.Qw,Ms.Qo];omega⟩
 . rw[Tz]at h;obtain⟨x,b,rfl⟩:=h;exact⟨trivial,by simp only[szH];omega⟩
 . rw[Tz]at h;obtain⟨x,b,rfl⟩:=h;exact⟨⟨a.ty,a.im,Jq a.ex (exp_lb c hx b),a.gl,a.el,a.co,a.da,a.cu,a.n1,a.n2,a.n3,a.n4⟩,by simp only[Ms.szM,Ms.Qw,Ms.QP];omega⟩
 . split at h
   . cases h
   rw[Tz]at h;obtain⟨x,b,rfl⟩:=h;exact⟨⟨a.ty,a.im,a.ex,a.gl,a.el,a.co,a.da,a.cu,a.n1,a.n2,a.n3,a.n4⟩,by simp only[Ms.szM];omega⟩
 . rw[Tz]at h;obtain⟨x,b,rfl⟩:=h;have d:=nums_lb b;exact⟨by show(N x)<=NB;omega,by simp only[szH];omega⟩
 . rw[Tz]at h;obtain⟨x,b,rfl⟩:=h;have d:=grps_lb b;exact⟨by show(N x)<=NB;omega,by simp only[szH,sz_grp];omega⟩
 . rw[Tz]at h;obtain⟨x,b,rfl⟩:=h;have d:=dat_lb hx b;exact⟨by show(N x)<=NB;omega,by simp only[szH];omega⟩
 cases h
def wO:Option Pend->Nat
 |none=>0
 |some q=>szH q.hd+Ms.Qa Ms.QC q.is
structure ZB (n:Nat)(Zz0:St):Prop where
 m:MB Zz0.m
 o:∀q,Zz0.op=some q->HdB q.hd/\∀y∈q.is,In.LB NB y
 w:Ms.szM Zz0.m+wO Zz0.op<=n
theorem line_zb {n:Nat}{d D:St}{l:Wd}(h:JR d l D)(hl:N l<=300000)(v:d.sz<=1000000)(A:ZB n d):ZB (n+(N l+9)) D:=by
 obtain⟨s,r,E,h⟩:=Xq.1 h;obtain⟨-,R,M⟩:=XS (N l) l (s::r) lRz E;have H:N r<=N l:=by simp at R;omega
 have hx:∀x∈r,N x<=N l:=λx hx=>M x (mC hx);have f:=A.m;have g:=A.w;unfold J3 at h;split at h
 . obtain⟨u,c,hc,-,rfl⟩:=h;obtain⟨L,X⟩:=cus_lb (by unfold NB;omega) hx hc;refine⟨⟨f.ty,f.im,f.ex,f.gl,f.el,f.co,f.da,Jq f.cu L,f.n1,f.n2,f.n3,f.n4⟩,λq hq=>?_,?_⟩
   . have j:d.op=some q:=hq;rw[u]at j;cases j
   show Ms.szM { d.m with gx:=d.m.gx++[c] }+wO d.op<=_;rw[u]at g⊢;simp only[wO,Ms.szM,Ms.Qw,Ms.Jf]at g⊢;omega
 . obtain⟨u,-,i,z,rfl⟩:=h;have k:=item_mb hl hx H f z;rw[u]at g;cases i with
   |mod m' =>
    obtain⟨a,b⟩:=k
    refine⟨a,λq hq=>(by cases hq),?_⟩
    show Ms.szM m'+0<=_
    simp only[wO]at g
    omega
   |hd hd' =>
    obtain⟨a,b⟩:=k
    refine⟨f,λq hq=>?_,?_⟩
    . cases hq;exact⟨a,λy hy=>by cases hy⟩
    . show Ms.szM d.m+(szH hd'+Ms.Qa Ms.QC [])<=_
      simp only[wO,Ms.Qa,List.map_nil,List.sum_nil]at g⊢
      omega
 obtain⟨-,x,-,t,q,V,B,-,rfl⟩:=h;have I:=arg_len t;obtain⟨C,z⟩:=A.o q B;have p:∀y∈q.is++[x],In.LB NB y:=Jq z (by show(N x.l)<=NB;unfold NB;omega);have F:N q.is<=1000000:=by unfold St.sz at v;rw[B]at v;dsimp only at v;omega
 have e:Ms.Qa Ms.QC (q.is++[x])=Ms.Qa Ms.QC q.is+(4+N x.l):=by rw[Ms.Qw];rfl
 rw[B]at g;simp only[wO]at g;split
 · obtain⟨a,b⟩:=mb_add f C p (by rw[Kb];unfold NB;simp;omega);refine⟨a,λq hq=>(by cases hq),?_⟩;show Ms.szM (Xsz0 d.m (q.is++[x]) q.hd)+0<=_;rw[b,e];omega
 refine⟨f,λq' hq=>?_,?_⟩
 . cases hq;exact⟨C,p⟩
 show Ms.szM d.m+(szH q.hd+Ms.Qa Ms.QC (q.is++[x]))<=_;rw[e];omega
theorem run_zb:∀(ls:List Wd) (a b:St) (n:Nat),runF a ls=some b->(∀x∈ls,N x<=300000)->a.sz+2*N ls<=1000000->ZB n a->ZB (n+((ls.map Hx).sum+9*N ls)) b
 |[],a,b,n,h,_,_,hb=>by cases h;simpa using hb
 |x::ls,a,b,n,h,hx,hz,hb=>by
  simp only[runF]at h
  split at h
  · cases hl:lineF a (Xr x)with
    |none=>rw[hl]at h;cases h
    |some Z1 =>
     rw[hl,Option.bind_some]at h;have d:=X5.1 hl;have hc:=cut_len x;have f:=hx x (mS ..);have g:=line_zb d (by omega) (by omega) hb;have j:=lineR_sz d
     simp only[Kj]at hz
     have c:=run_zb ls Z1 b _ h (λy hy=>hx y (mC hy)) (by omega) g
     refine⟨c.m,c.o,?_⟩
     have:=c.w
     simp only[Mm,List.sum_cons,Kj]
     omega
  . cases h
theorem text_run:∀(ls:List Wd) (a b:St) (n:Nat) (k:Int),textF a ls n=(k,some b)->runF a ls=some b
 |[],a,b,n,k,h=>by
  simp only[textF]at h
  split at h
  · cases h;rfl
  . cases h
 |x::ls,a,b,n,k,h=>by
  simp only[textF]at h
  simp only[runF]
  split at h
  · rename_i c
    rw[if_pos c]
    cases hl:lineF a (Xr x)with
    |none=>rw[hl]at h;cases h
    |some Z1=>rw[hl]at h;exact text_run ls Z1 b _ k h
  . cases h
theorem lb_of (h:MB m)(p:N m.types<=NB/\N m.cj<=NB/\N m.jv<=NB/\N m.fk<=NB/\N m.jj<=NB/\N m.fq<=NB/\N m.fj<=NB/\N m.fw<=NB/\N m.gq<=NB/\N m.gj<=NB/\N m.gx<=NB):Mod.LB 1048576 m/\Ms.LnM m:=by
 obtain⟨o,n,l,k,j,g,f,d,c,b,a⟩:=p;refine⟨⟨⟨o,Jz h.ty _⟩,⟨n,Jz h.im _⟩,l,⟨k,λ_ _=>trivial⟩,⟨j,λ_ _=>trivial⟩,⟨g,Jz (P:=Q6.LB 1048576) (λx hx=>⟨h.n1 x hx,Jz (h.gl x hx) _⟩) _⟩,⟨f,Jz h.ex _⟩,⟨d,Jz (P:=Ele.LB 1048576) (λx hx=>⟨⟨h.n2 x hx,Jz (h.el x hx).1 _⟩,(h.el x hx).2⟩) _⟩,⟨c,Jz (P:=Cod.LB 1048576) (λx hx=>⟨⟨(h.co x hx).2,λ_ _=>trivial⟩,⟨h.n3 x hx,Jz (h.co x hx).1 _⟩⟩) _⟩,⟨b,Jz (P:=Dat.LB 1048576) (λx hx=>⟨⟨h.n4 x hx,Jz (h.da x hx).1 _⟩,(h.da x hx).2⟩) _⟩,⟨a,Jz h.cu _⟩⟩,?_⟩;unfold NB at *;unfold Ms.LnM;omega
theorem pt_sizes (t:Wd):Mod.LB 1048576 (ptF t).2/\Ms.LnM (ptF t).2/\Ms.szM (ptF t).2<=500000000:=by
 have f:Mod.LB 1048576 Mod.z/\Ms.LnM Mod.z/\Ms.szM Mod.z<=500000000:=by have:=lb_of mb_zero (by simp[Mod.z]);exact⟨this.1,this.2,by decide⟩
 unfold ptF;split
 · exact f
 rename_i r;cases hf:textF St0 (lns t) 0 with
 |mk k o =>
  cases o with
  |none=>exact f
  |some Zz0 =>
   have j:=text_run _ _ _ _ _ hf;obtain⟨l1,p⟩:=lns_len (N t) t lRz;have a:St0.sz=0:=rfl;have d:ZB 0 St0:=⟨mb_zero,λq hq=>(by cases hq),by decide⟩;have n:=run_zb _ _ _ 0 j (λx hx=>by have:=p x hx;omega) (by rw[a];omega) d;have g:=lns_sum (N t) t lRz;have c:=runF_sz j;rw[a]at c;have b:Zz0.sz<=1000000:=by omega
   have l:=lb_of n.m (by unfold St.sz at b;unfold NB;omega)
   refine⟨l.1,l.2,?_⟩
   have:=n.w
   show Ms.szM Zz0.m<=_
   omega
end YtejkdbnngphgaaaGreatDoor.Yz
namespace YtejkdbnngphgaaaGreatDoor.By
open Go.RowKit
theorem row_hasT {w:J}{a:Option Ad}{len d:Nat}{c:List Int} (h:(a=none/\len=0/\d=0/\c=[])\/∃x,a=some x/\len<=d/\d<=maxLen/\N c=d/\(∀i,i<N c->w.cell? (x.add i)=some (U .u8 (c.getD i 0)))/\∀n∈c,(Lit.int .u8 n).wf=true):∃xs:List Int,N xs=len/\len<=maxLen/\Has w a xs/\AllB xs:=by
 rcases h with ⟨rfl,rfl,rfl,rfl⟩|⟨x,rfl,o,p,u,hc,l⟩
 . exact⟨[],rfl,Hw _,.inl rfl,λi=>by simp⟩
 refine⟨c.take len,by simp;omega,by omega,?_,?_⟩
 . by_cases t:len=0
   . subst t;exact .inl (by simp)
   obtain⟨b,off,g⟩:=x;have s:=hc 0 (by omega);(have f:g=none:=by simpa[Addr.add]using World.cell?_spot s);subst f;refine .inr ⟨b,off,rfl,λi j=>?_⟩;(have k:i<len:=by simp at j;omega);have r:=hc i (by omega);(have e:(c.take len).getD i 0=c.getD i 0:=by simp[Ty,k]);rw[e];rwa [Addr.add_lit]at r
 intro i;by_cases j:i<(c.take len).length
 . have m:(c.take len)[i]∈c:=List.mem_of_mem_take (Ez j);have q:=bounds_u8 (l _ m);simpa[Ty,Kv j]using q
 rw[List.getD_eq_getElem?_getD,Hh (by omega)];simp
end YtejkdbnngphgaaaGreatDoor.By
namespace YtejkdbnngphgaaaGreatDoor.fnExactParseText
open Go.ChangeShapes Go.WideShapes Go.ChangeAt Go.RowKit
open Go.ChangeMaps (open_string shut_string)
theorem own:ownKnob Q.godebug=none:=by kernel_rfl
theorem laidOut:laidOutB Q=true:=by kernel_rfl
def IsRow (k:IntKind)(w:J)(a:Option Ad)(len cap:Nat)(zs:List Int):Prop :=
 (a=none/\len=0/\cap=0/\zs=[]) \/
 ∃x,a=some x/\len<=cap/\cap<=maxLen/\N zs=cap/\(∀i,i<N zs->w.cell? (x.add i)=some (U k (zs.getD i 0)))/\∀n∈zs,(Lit.int k n).wf=true
theorem walk (c:Option Ad)(len0 a:Nat)(f:List Int)(w:J)(m:Yz.Vs w.heap.size w)(g:IsRow .u8 w c len0 a f):Ec Q 3 #[S c len0 a] w λe w'=>e=Z (G true)/\Bw w.heap.size w w':=by
 obtain⟨b,rfl,j,k,n⟩:=By.row_hasT g;obtain⟨t,rfl⟩:∃t:List UInt8,b=Yz.Iy t:=by
  refine⟨b.map λx=>UInt8.ofNat x.toNat,?_⟩;show b=List.map _ (List.map _ b);rw[List.map_map];refine Rk λi=>?_;rw[List.getElem?_map];by_cases d:i<N b
  . have l:=n i;rw[Kv d];simp only[Ty,Kv d,Lh]at l;simp only[Option.map_some,Function.comp];(congr 1);(have o:(UInt8.ofNat (b[i]).toNat).toNat=(b[i]).toNat:=by rw[UInt8.toNat_ofNat'];exact Nat.mod_eq_of_lt (by omega));omega
  rw[Hh (by omega)];rfl
 exact Ms.lawT c a t w (by simpa using j) (Ms.has_hi k) m (λ_=>Yz.pt_sizes t)
set_option maxRecDepth 100000 in
theorem lifted (os:Os)(b:os.Started)(H:Type)(enc:TypeId × Vu->H):ReturnsInHanded {} checked os 3 .any (λw a=>(Rows.fnExactParseTextSpec.pre enc Q f3 [] false w a/\laidMetH Q lds w)/\sizedMet enc Q f3 (OpenSpec.ofChange Rows.fnExactParseTextSpec) false w a) (Rows.fnExactParseTextSpec.post enc Q f3 false true false false):=by
 refine returnsInHanded_of_change_and (C:=checked) (X:=λw _=>laidMetH Q lds w) (λ_ _ _ hh h=>h.of_heap hh) own b (by kernel_rfl) func3
  (ChangeSpec.witness_shaped (enc:=enc) (C:=checked) (os:=os) (X:=λw _=>laidMetH Q lds w) false (World.laidAll Q os lds) #[S none 0 0] 8 (World.laidAll_os _ _ _) (World.shaped_of_ZipB (by kernel_rfl) (by kernel_rfl)) (by kernel_rfl) (by kernel_rfl) (by kernel_rfl) (by rw[MakeChecks.laidMetH_plain _ _ _ (by kernel_rfl)];exact laidMet_laidAll _ (by kernel_rfl) (by kernel_rfl))) ?_
 intro W base a ds gs r d I _ _ hL _;have hV:=of_laid hL;have g:∀(j:Nat) t v,f3.params[j]?=some t->a[j]?=some v->Value.okWide Q W .any base t v:=d;have B:=I;obtain⟨p,q,o,D,rfl,ah,af⟩:=I;have L:DataW.TrodAll enc Q W 0 (λ_=>true) true f3.params.toList a.toList ds p:=o;rw[params3]at L g;obtain⟨E,ab,d0,ao,p0,q0,A,rfl,rfl,M,r0⟩:=trodAll_cons L;obtain⟨rfl,rfl,rfl⟩:=trodAll_nil r0;obtain rfl:a=#[E]:=by cases a;simp_all
 obtain⟨rfl,rfl⟩:=trodVars_none D;obtain⟨V,len0,k,rfl⟩:=okWide_slice underlying22 (g 0 22 E rfl rfl);have F:=M;have u:∀x∈p0,x.block<W.heap.size:=by obtain⟨m,z⟩:=F;exact DataW.trod_lt m _ _ _ z
 obtain⟨Y,w0⟩:∃s,IsRow .u8 W V len0 k s:=by
  obtain⟨R,hf⟩:=M;rcases open_ints underlying22 underlying5 (by kernel_rfl) hf with ⟨f,_⟩|⟨x,l,c,s,f,_,hl,z,hz,_,n,y⟩
  . simp[Value.cells]at f;obtain⟨rfl,rfl,rfl⟩:=f;exact⟨[],.inl ⟨rfl,rfl,rfl,rfl⟩⟩
  simp[Value.cells]at f;obtain⟨rfl,rfl,rfl⟩:=f;exact⟨s,.inr ⟨_,rfl,hl,z,by simpa using hz,n,y⟩⟩
 clear o d;refine(walk V len0 k Y W hV w0).mono λe W' ⟨he,bel⟩=>?_;subst he;exact⟨_,rfl,_,_,_,[],_,[],B,trodAll_mk1 (shut_bool underlying4 _),(trodAll_cons_mk (Below.trod laidOut (by kernel_rfl) (of_decide_eq_true (by kernel_rfl)) F bel u) trodAll_mk0),rfl,bel.frame _,λh=>by cases h⟩
theorem jf0:OpenClaim.wf (OpenSpec.ofChange Rows.fnExactParseTextSpec) Rows.fnExactParseTextRow=true:=by kernel_rfl
theorem jf1:laidOutB Q=true:=by kernel_rfl
theorem jf2:mapsRowed Q=true:=by kernel_rfl
theorem jf3:(f3.params.all λx=>Q.readableRec x)=true:=by kernel_rfl
theorem jf4:namedTie Q Rows.fnExactParseTextRow.named Rows.fnExactParseTextSpec.vars=true:=by kernel_rfl
theorem jf5:(Rows.fnExactParseTextRow.stops==[])=true:=by kernel_rfl
theorem jf6:(Q.stops==[])=true:=by kernel_rfl
theorem jf7:(Rows.fnExactParseTextRow.knobs==[])=true:=by kernel_rfl
theorem jf8:(Q.stopKnobs==[])=true:=by kernel_rfl
theorem jf9:(Rows.fnExactParseTextRow.inPlace==Q.inPlace 3)=true:=by kernel_rfl
theorem jf10:(Rows.fnExactParseTextRow.unfollowed==Q.unfollowed 3)=true:=by kernel_rfl
theorem jf11:(Rows.fnExactParseTextRow.recurses==Q.recurses 3)=true:=by kernel_rfl
theorem jf12:(Rows.fnExactParseTextRow.named==Q.varsNamed 3)=true:=by kernel_rfl
theorem jf13:(Rows.fnExactParseTextRow.maps==(f3.params.toList++DataSpec.varTypes Q Rows.fnExactParseTextSpec.plain).any λx=>Q.mapsRec x)=true:=by kernel_rfl
theorem jf14:(Rows.fnExactParseTextRow.ifaces==(f3.params.toList++DataSpec.varTypes Q Rows.fnExactParseTextSpec.plain).any λx=>Q.ifacesRec x)=true:=by kernel_rfl
theorem jf15:(Rows.fnExactParseTextRow.mapsOut==Q.mapsAmong f3.resultTypes.toList)=true:=by kernel_rfl
theorem jf16:(Rows.fnExactParseTextRow.loops==(f3.params.toList++DataSpec.varTypes Q Rows.fnExactParseTextSpec.plain).any λx=>Q.loopsFrom x)=true:=by kernel_rfl
theorem jf17:(Rows.fnExactParseTextRow.wideKeys==(f3.params.toList++DataSpec.varTypes Q Rows.fnExactParseTextSpec.plain++f3.resultTypes.toList).any λx=>Q.wideKeysFrom x)=true:=by kernel_rfl
theorem jf18:(Rows.fnExactParseTextSpec.vars.all λx=>Q.varReadable x)=true:=by kernel_rfl
theorem jf19:(f3.resultTypes.all λt=>Q.readableRec t&&decide (t<Q.types.size))=true:=by kernel_rfl
theorem jf20:(Rows.fnExactParseTextRow.ifacesOut==f3.resultTypes.toList.any λx=>Q.ifacesRec x)=true:=by kernel_rfl
theorem jf21:(Rows.fnExactParseTextRow.loopsOut==f3.resultTypes.toList.any λx=>Q.loopsFrom x)=true:=by kernel_rfl
theorem jf22:(Rows.fnExactParseTextRow.plainKeys==Q.plainKeys)=true:=by kernel_rfl
theorem jf23:Rows.fnExactParseTextRow.shortTexts.isNone=true:=by kernel_rfl
theorem jf24:Q.stopsHeard=true:=by kernel_rfl
theorem jf25:Q.mayEnter=true:=by kernel_rfl
theorem jf26:(Rows.fnExactParseTextRow.lifted==Q.liftsFinal)=true:=by kernel_rfl
theorem jf27:(Q.make==some Rows.fnExactParseTextRow.make)=true:=by kernel_rfl
theorem jf28:(Rows.fnExactParseTextRow.kinds==if Rows.fnExactParseTextRow.domain.isEmpty=true then []else List.map (λt=>match Q.underlying t with|some (TypeDesc.int k)=>some k|x=>none) f3.params.toList)=true:=by kernel_rfl
theorem jf29:(Rows.fnExactParseTextRow.pinned==Rows.fnExactParseTextRow.pinnedBy)=true:=by kernel_rfl
theorem jf30:(Rows.fnExactParseTextRow.veiled==(f3.params.toList++DataSpec.varTypes Q Rows.fnExactParseTextSpec.plain++f3.resultTypes.toList).any λx=>Q.veiledRec x)=true:=by kernel_rfl
theorem jf31:Rows.fnExactParseTextRow.veiledFits Q f3.params.toList (f3.params.toList++DataSpec.varTypes Q Rows.fnExactParseTextSpec.plain++f3.resultTypes.toList)=true:=by kernel_rfl
set_option maxRecDepth 100000 in
theorem facts:joinedFacts Q 3 f3 Rows.fnExactParseTextSpec Rows.fnExactParseTextRow=true:=by
 unfold joinedFacts;simp only[Bool.and_eq_true];exact⟨⟨⟨⟨⟨⟨⟨⟨⟨⟨⟨⟨⟨⟨⟨⟨⟨⟨⟨⟨⟨⟨⟨⟨⟨⟨⟨⟨⟨⟨⟨jf0,jf1⟩,jf2⟩,jf3⟩,jf4⟩,jf5⟩,jf6⟩,jf7⟩,jf8⟩,jf9⟩,jf10⟩,jf11⟩,jf12⟩,jf13⟩,jf14⟩,jf15⟩,jf16⟩,jf17⟩,jf18⟩,jf19⟩,jf20⟩,jf21⟩,jf22⟩,jf23⟩,jf24⟩,jf25⟩,jf26⟩,jf27⟩,jf28⟩,jf29⟩,jf30⟩,jf31⟩
theorem over:Rows.fnExactParseTextRow.holds Tryz.pinned (OpenSpec.ofChange Rows.fnExactParseTextSpec) :=
 OpenClaim.holds_of_wide 3 f3 rfl rfl rfl rfl rfl rfl rfl ⟨rfl,rfl,rfl,rfl,rfl⟩ rfl rfl rfl rfl rfl (by kernel_rfl) func3 facts
  (of_decide_eq_true (by kernel_rfl)) (by unfold Func.isWrapper;first|(rw[if_pos (by decide +kernel)];kernel_rfl)|(rw[if_neg (by decide +kernel)];exact⟨rfl,rfl⟩))
  (λos started H enc _=>lifted os started H enc)
theorem card:Rows.FnExactParseTextCardSaid :=
 Claim7.holds_tied_plain_at .later [] [.data,.data,.data,.data,.sentinel,.sentinel,.pinned] true (true,"29a8152642073fe6dfd287c58cb0a821f0c29fb1633f9e6889aaf015462c330a") true
  over (λ_ h=>by cases h) (by kernel_rfl) (λ_ h=>by cases h) fnExactParseText_row_tie rfl ⟨rfl,rfl⟩ (by kernel_rfl) rfl
  (fun f fn hf hfn=>by
   obtain rfl:f=3:=Option.some.inj ((show Q.funcNamed "loop.example/s00119/laws.FnExactParseText"=some 3 by kernel_rfl).symm.trans hf) |>.symm
   obtain rfl:fn=f3:=(Option.some.inj (func3.symm.trans hfn)).symm
   exact⟨by kernel_rfl,fun j t ht=>by
    rw[params3]at ht;have b:t∈[22]:=by simpa using Array.mem_of_getElem? ht
    have a:([22].all λu=>!Q.wantsStandIn u)=true:=by kernel_rfl
    exact(show Q.wantsStandIn t=false by simpa using List.all_eq_true.1 a t b)⟩)
  (by kernel_rfl)
end YtejkdbnngphgaaaGreatDoor.fnExactParseText
namespace YtejkdbnngphgaaaGreatDoor
theorem fnExactParseText_holds:Rows.FnExactParseTextCardSaid:=fnExactParseText.card
#print axioms fnExactParseText_holds
