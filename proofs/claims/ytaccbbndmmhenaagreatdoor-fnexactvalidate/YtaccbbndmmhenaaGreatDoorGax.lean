import Derived.Test.YtaccbbndmmhenaaGreatDoorGau
set_option linter.all false
set_option maxHeartbeats 400000000
set_option maxRecDepth 100000
namespace Go.Proofs
open Value renaming int->U,slice->S,bool->G,pointer->Yp,string->Xs,agg->Ag
open IntKind renaming i64->O,u64->Ou
open Ending renaming returned->Z
open Obj renaming cells->Fc
open Go renaming World->J,Calls->Ec,Value->Vu
open Tryz renaming prog->Q
open Tryz
open Nat renaming le_trans->Ky,zero_le->Kz
open Bool renaming false_eq_true->Ik,and_eq_true->Kf
open IntKind renaming wrap_i64->Kv
open List renaming getD->Kg,perm_iff_count->Th,count_cons->Hd,append_assoc->Kw,all_eq_true->Mh,drop_of_length_le->Ld,map_append->Lx,length_filter_le->Rv,length->N
open Calls renaming mono->Rx
open Value renaming slice->Tq
open Act renaming eval->Lz,put->Lf
namespace YtaccbbndmmhenaaGreatDoor.Va
open Go.RowKit Go.Sort
variable {t:Ctv}{x:Ctx}{s:Fn}{y:In}{nl go want e:Int}{w0 V:J}{ks:List Qc}{m:MS}{A:MdA}{md:Mod}{D p n i:Nat}{α β:Type}{lv:Vu}
section
variable {D:Nat}{w0:J}{p:Nat}{lv:Vu}{nl:Int}{ks:List Qc}{m:MS}{V W V1:J}
theorem MSt.drop {d:Vu}{g c:Nat}{a:List Blk}{b:Blk}{c1 c2:List Vu}{po:Int}(n:m.s.blocks=a++[b]) (h:Mo D w0 (mxR p lv nl d (S (some ⟨g,0,none⟩) (N a+1) c) m.e po::stR m.s d::mlR (N a+1) (S (some ⟨g,0,none⟩) (N a+1) c) (c1++c2)::ks) V) (l:Fl (MRep D w0 ks) a c1) (k:N c1=N a*7):MSt D w0 p lv nl ks (JD m { m.s with blocks:=m.s.blocks.dropLast }) (V.setCell ⟨p,3,none⟩ (S (some ⟨g,0,none⟩) (N a) c)):=by
 have e:m.s.blocks.dropLast=a:=by rw[n];simp
 have j:=(h.set 3 (S (some ⟨g,0,none⟩) (N a) c)).perm XE;have q:=j.row (r:=mlR (N a+1) (S (some ⟨g,0,none⟩) (N a+1) c) (c1++c2)) (by simp);have f:=own_take q (Nat.le_succ (N a));have t:(c1++c2).take (N a*7)=c1:=by rw[<- k];simp
 rw[t]at f;have o:=(j.swap (r':=mlR (N a) (S (some ⟨g,0,none⟩) (N a) c) c1) f rfl).perm XE.symm;refine⟨d,S (some ⟨g,0,none⟩) (N a) c,c1,po,?_,?_⟩
 . show Mo D w0 (_::_::mlR (N m.s.blocks.dropLast) _ _::_) _;rw[e];exact o
 show Fl _ m.s.blocks.dropLast c1;rw[e];exact l
theorem MSt.redo {k:Vu}{g c:Nat}{d:List Blk}{b b':Blk}{c1:List Vu}{tv rv tv' rv' x0 x1 x2 x3 o:Vu}{po a:Int}(v:m.s.blocks=d++[b]) (h:Mo D w0 (mxR p lv nl k (S (some ⟨g,0,none⟩) (N d+1) c) m.e po::stR m.s k::mlR (N d+1) (S (some ⟨g,0,none⟩) (N d+1) c) (c1++[tv,rv,x0,x1,x2,x3,o])::ks) V) (t:Fl (MRep D w0 ks) d c1) (A:N c1=N d*7) (r:Ty D w0 ks tv' b'.takes) (q:Ty D w0 ks rv' b'.results):MSt D w0 p lv nl ks (JD m { m.s with blocks:=m.s.blocks.dropLast++[b'] }) (((((((V.setCell ⟨g,N d*7,none⟩ tv').setCell ⟨g,N d*7+1,none⟩ rv').setCell ⟨g,N d*7+2,none⟩ (U O b'.height)).setCell ⟨g,N d*7+3,none⟩ (G b'.dead)).setCell ⟨g,N d*7+4,none⟩ (G (decide (b'.op=4)))).setCell ⟨g,N d*7+5,none⟩ (U O a)).setCell ⟨g,N d*7+6,none⟩ (G (decide (b'.op=3)))):=by
 have e:m.s.blocks.dropLast=d:=by rw[v];simp
 have n:=(((((((h.perm XE).set (N d*7) tv').set (N d*7+1) rv').set (N d*7+2) (U O b'.height)).set (N d*7+3) (G b'.dead)).set (N d*7+4) (G (decide (b'.op=4)))).set (N d*7+5) (U O a)).set (N d*7+6) (G (decide (b'.op=3)));have f:∀(j:Nat) (u:Vu) (zs:List Vu),(c1++zs).set (N d*7+j) u=c1++zs.set j u:=λj u zs=>by rw[List.set_append_right _ _ (by omega),show(N d)*7+j-N c1=j by omega]
 have l:∀(u:Vu) (zs:List Vu),(c1++zs).set (N d*7) u=c1++zs.set 0 u:=λu zs=>f 0 u zs;rw[l,f,f,f,f,f,f]at n;have y:=n.perm XE.symm;refine⟨k,S (some ⟨g,0,none⟩) (N d+1) c,c1++mbk tv' rv' b'.height b'.dead (decide (b'.op=4)) a (decide (b'.op=3)),po,?_,?_⟩
 . show Mo D w0 (_::_::mlR (m.s.blocks.dropLast++[b']).length _ _::_) _;(have z:(m.s.blocks.dropLast++[b']).length=N d+1:=by rw[e];simp);rw[z];exact y
 show Fl _ (m.s.blocks.dropLast++[b']) _;rw[e];exact t.app (Fl.one ⟨tv',rv',a,rfl,r,q⟩)
end
theorem sclose_c (f:Bool)(h:MSt D w0 p lv nl ks m V)(i:Inv m.s)(b8:m.s.blocks≠[])(a0:N m.s.blocks<=1048577)(b7:N m.s.stack<=1099511627776)(ac:(top m.s).results.length<=1048576):Ec Q 147 #[Yp (some ⟨p,0,none⟩),G f] V λe w'=>e=Z (.tuple #[])/\∃ns,MSt D w0 p lv nl (ns++ks) (Q9 m f) w':=by
 obtain⟨z,M⟩:=JL b8;obtain⟨b,a1⟩:∃b,b=top m.s:=⟨_,rfl⟩;rw[<- a1]at M ac;obtain⟨sa,sc,g,c,c1,tv,rv,a,po,hm,hc,hf,hl,t1,t2⟩:=h.opn M;have ev:N z<=1048577:=by rw[M]at a0;simp at a0;omega
 obtain⟨⟨q0,q1,q2,q3,q4,q5⟩,f2,f3,f4,f5⟩:=Xj hm;obtain⟨e0,e1,e2,e3,e4,e5,e6,f6⟩:=mlast (m:=m) (r:=tv) hm hl;obtain⟨ta,tc,rfl,_⟩:=t1.ms h;obtain⟨I,H,rfl,_⟩:=t2.ms h;have HL:=Hm (λw=>stop_c p g (N z) c w);obtain⟨d,ad⟩:∃d,d=Qr m b.results:=⟨_,rfl⟩;have pk:Pk m.s d.s:=by rw[ad];exact JH m _
 obtain⟨KB,a4⟩:∃KB:Nat->Qc,KB=λg2=>box 265 7 g2 (mbk (S ta (N b.takes) tc) (S I (N b.results) H) b.height b.dead (decide (b.op=4)) a (decide (b.op=3))):=⟨_,rfl⟩;have cj:Hid (∀V1,Below V.heap.size V V1->Ec Q 148 #[Yp (some ⟨p,0,none⟩),S I (N b.results) H] (V1.alloc (Fc #[S ta (N b.takes) tc,S I (N b.results) H,U O b.height,G b.dead,G (decide (b.op=4)),U O a,G (decide (b.op=3))] 265)) λe w'=>e=Z (.tuple #[])/\MSt D w0 p lv nl (KB V1.heap.size::ks) d w'):=λV1 hV=>by rw[ad,a4];exact J9 _ b.results ((h.keep hV).bxn #[S ta (N b.takes) tc,S I (N b.results) H,U O b.height,G b.dead,G (decide (b.op=4)),U O a,G (decide (b.op=3))] 265 7 rfl) (t2.cons _) i b8 a0 b7 (by omega)
 have ca:Q9 m f=(let m2:=(if(N d.s.stack)≠b.height\/(f=false/\b.op=4/\b.results≠[])then fail d 6 else d);if m2.e≠0 then m2 else if f then JD m2 { m2.s with blocks:=m2.s.blocks.dropLast++[els5 b] }else JD m2 (push { m2.s with blocks:=m2.s.blocks.dropLast } b.results)):=by rw[ad,a1];rfl
 have ak:d.s.blocks=z++[b]:=by rw[pk.bl];exact M
 have i1:=pk.iv i;have dx:N d.s.stack<=1099511627776:=Ky pk.ln b7;obtain⟨C,k⟩:∃C:Bool,C=decide (N d.s.stack≠b.height\/(f=false/\b.op=4/\b.results≠[])):=⟨_,rfl⟩;have HM:Hid (Q9 m f=if C then fail d 6 else if d.e≠0 then d else if f then JD d { d.s with blocks:=d.s.blocks.dropLast++[els5 b] }else JD d (push { d.s with blocks:=d.s.blocks.dropLast } b.results)):=by
  show Q9 m f=_;rw[ca,k];by_cases q:N d.s.stack≠b.height\/(f=false/\b.op=4/\b.results≠[])
  . have e6:(fail d 6).e≠0:=by
     unfold fail;split
     · show(6:Int)≠0;decide
     assumption
    simp only[if_pos q,decide_eq_true q,if_pos e6,if_true]
  simp only[if_neg q,decide_eq_false q,Ik,if_false]
 have dq:=Hm t1;have ch:=Hm t2;have ba:=Hm a4;have X:=Hm ak;have dr:=Hm ac;clear ca a1 ad pk hm hf M h t1 t2 a4 ak ac;go_enter func147,ntmps147;go_wp2_with fail
 refine(HL.o _ (by assumption) (by omega)).mono ?_;rintro e w1 ⟨rfl,n,rfl⟩;obtain⟨V1,af⟩:∃V1,V1=V.drewN n:=⟨_,rfl⟩;have cm:=Hm (cj.o V1 (by rw[af];exact⟨rfl,rfl,rfl,lRz,λ_ _=>rfl⟩));have kV:∀a,V1.cell? a=V.cell? a:=λa=>by rw[af];rfl
 have g0:=(kV _).trans e0;have g1:=(kV _).trans e1;have g2:=(kV _).trans e2;have g3:=(kV _).trans e3;have g4:=(kV _).trans e4;have g5:=(kV _).trans e5;have g6:=(kV _).trans e6;rw[<- af];clear af cj kV;go_upto_region 1 with fail
 obtain⟨E,ai⟩:∃E,E=V1.heap.size:=⟨_,rfl⟩;obtain⟨W1,ae⟩:∃W1,W1=V1.alloc (Fc #[S ta (N b.takes) tc,S I (N b.results) H,U O b.height,G b.dead,G (decide (b.op=4)),U O a,G (decide (b.op=3))] 265):=⟨_,rfl⟩;have r1:W1.cell? ⟨E,1,none⟩=some (S I (N b.results) H):=by rw[ae,ai];exact Qf rfl rfl
 rw[<- ae,<- ai]at cm;rw[<- ae,<- ai];clear ae ai g0 g1 g2 g3 g4 g5 g6;go_wp2_with fail
 refine cm.o.mono ?_;rintro e w2 ⟨rfl,ah⟩;have A:=ah.mo;rw[ba.o]at A;obtain⟨⟨z0,z1,z2,z3,z4,z5,z6⟩,y0,y1,y2,y3,y4,y5,y6⟩:=z7 A (mS ..);have ck:=Hm ah;obtain⟨ec,eb,g',c',fh,tv',rv',a',em,b9,dj,di,dh,c6,c4⟩:=ah.opn X.o;obtain⟨⟨b5,b4,b3,b2,ay,b1⟩,cf,ce,cd,cc⟩:=Xj b9;clear A ah b9 di dj dh c6 c4 e0 e1 e2 e3 e4 e5 e6 q0 q1 q2 q3 q4 q5 f2 f3 f4 f5 f6 HL;go_upto_region 2 with fail
 go_cut [34]from 13 to 34 (λs V'=>s=G C/\∃n,V'=w2.drewN n)
 case first=>
  by_cases x1:N d.s.stack=b.height
  . (have d1:((N d.s.stack:Int) != (b.height:Int))=false:=by simp[x1]);cases f
    . by_cases Y:b.op=4
      . (have ed:decide (b.op=4)=true:=by simp[Y]);rw[ed]at z4;(have HC:Hid (C=decide (0<N b.results)):=by show C=_;rw[k];simp[x1,Y,List.length_pos_iff]);clear x1 Y k;(go_quiet (fail));(go_wp2_with fail);(go_meet);rw[HC.o];exact⟨rfl,_,rfl⟩
      (have ed:decide (b.op=4)=false:=by simp[Y]);rw[ed]at z4;(have HC:Hid (C=false):=by show C=false;rw[k];simp[x1,Y]);clear x1 Y k;(go_quiet (fail));(go_wp2_with fail);(go_meet);rw[HC.o];exact⟨rfl,_,rfl⟩
    (have HC:Hid (C=false):=by show C=false;rw[k];simp[x1]);clear x1 k;(go_quiet (fail));(go_wp2_with fail);(go_meet);rw[HC.o];exact⟨rfl,_,rfl⟩
  have d1:((N d.s.stack:Int) != (b.height:Int))=true:=by simp;omega
  have HC:Hid (C=true):=by show C=true;rw[k];simp[x1]
  clear x1 k;go_quiet (fail)
  go_wp2_with fail
  go_meet
  rw[HC.o];exact⟨rfl,_,rfl⟩
 obtain⟨rfl,n2,rfl⟩:=hcut;have t:=Hm (ck.o.drewN n2);clear k ck;cases C
 . by_cases c0:d.e=0
   . (have k0:(d.e != 0)=false:=by simp[c0]);cases f
     . (have HR:Hid (Q9 m false=JD d (push { d.s with blocks:=d.s.blocks.dropLast } b.results)):=by show Q9 m false=_;rw[HM.o];simp[c0]);clear b5 b4 b3 b2 ay b1 cf ce cd cc HM c0;obtain⟨W5,y⟩:∃W5,W5=w2.drewN n2:=⟨_,rfl⟩;(have q9:W5.cell? ⟨p,4,none⟩=some (U O d.e):=by obtain⟨sv,bv,a8,po,F,_⟩:=t.o;rw[y];exact(Xj F).1.2.2.2.2.1);rw[<- y]at t⊢;clear y z0 z1 z2 z3 z4 z5 z6 y0 y1 y2 y3 y4 y5 y6;obtain⟨c9,c8,g5,c5,a7,ab,ax,a5,da,l,az,L,B,aw,av⟩:=t.o.opn X.o;obtain⟨⟨p0,p1,p2,p3,p4,p5⟩,u2,u3,u4,u5⟩:=Xj l;(have HD:Hid (∀v,v=(W5.setCell ⟨p,3,none⟩ (S (some ⟨g5,0,none⟩) (N z) c5)).drew->MSt D w0 p lv nl (KB E::ks) (JD d { d.s with blocks:=d.s.blocks.dropLast }) v):=λv e=>by rw[e];exact(MSt.drop X.o l L B).drewN 1);(have hw:IntKind.i64.wrap (((N z+1:Nat):Int)-1)=N z:=by rw[Kv];omega);(have i5:(N z:Int)<=(c5:Int):=by omega);(have co:Hid (∀v,MSt D w0 p lv nl (KB E::ks) (JD d { d.s with blocks:=d.s.blocks.dropLast }) v->v.cell? ⟨E,1,none⟩=some (S I (N b.results) H)):=λv F=>by have A:=F.mo;rw[ba.o]at A;exact(z7 A (mS ..)).1.2.1);(have ci:Hid (∀v,MSt D w0 p lv nl (KB E::ks) (JD d { d.s with blocks:=d.s.blocks.dropLast }) v->Ec Q 151 #[Yp (some ⟨p,0,none⟩),S I (N b.results) H] v λe w'=>e=Z (.tuple #[])/\MSt D w0 p lv nl (KB E::ks) (JD d (push { d.s with blocks:=d.s.blocks.dropLast } b.results)) w'):=λv F=>by obtain⟨ef,ee,e,hh⟩:=Ty.ms (ch.o.cons (KB E)) F;cases e;have ac:=dr.o;exact XI I H b.results F hh (by omega) (by show(N d.s.stack)<=_;omega));clear l L az B aw av p0 p1 p2 p4 p5 u2 u4 u5;(go_upto_region 9 with fail);go_region
       all_goals
        go_upto_region 10 with fail
        obtain⟨v,a2⟩:∃v,v=(W5.setCell ⟨p,3,none⟩ (S (some ⟨g5,0,none⟩) (N z) c5)).drew:=⟨_,rfl⟩;have a6:=HD.o v a2;have r1:=co.o v a6;have dt:=Hm (ci.o v a6);rw[<- a2];clear a2 a6 HD co ci
        go_wp2_with (go_at_call 151;refine dt.o.mono ?_;rintro e w7 ⟨rfl,dk⟩)
        first|go_end0|(refine bodyPost_ret (results_none rfl _ _ _) rfl ?_)
        rw[HR.o]
        exact⟨rfl,[_],dk⟩
     (have HR:Hid (Q9 m true=JD d { d.s with blocks:=d.s.blocks.dropLast++[els5 b] }):=by show Q9 m true=_;rw[HM.o];simp[c0]);clear b5 b4 b3 b2 ay b1 cf ce cd cc HM c0;obtain⟨W4,a3⟩:∃W4,W4=w2.drewN n2:=⟨_,rfl⟩;(have q9:W4.cell? ⟨p,4,none⟩=some (U O d.e):=by obtain⟨sv,bv,a8,po,F,_⟩:=t.o;rw[a3];exact(Xj F).1.2.2.2.2.1);rw[<- a3]at t⊢;clear a3 z0 z1 z2 z3 z4 z5 z6 y0 y1 y2 y3 y4 y5 y6;have R:=t.o;rw[ba.o]at R;obtain⟨⟨z0,z1,z2,z3,z4,z5,z6⟩,y0,y1,y2,y3,y4,y5,y6⟩:=z7 R.mo (mS ..);have ag:=(R.setBox rfl 4 (G false)).setBox rfl 3 (G false);(have dy:E≠p:=λe=>by obtain⟨sv,bv,a8,po,F,_⟩:=R;exact Own.disj (a:=[mxR p lv nl sv bv d.e po]) F.own (Jg.2 ⟨_,List.mem_singleton.2 rfl,rfl⟩) (Jg.2 ⟨box 265 7 E (mbk (S ta (N b.takes) tc) (S I (N b.results) H) b.height b.dead (decide (b.op=4)) a (decide (b.op=3))),by simp,by rw[<- e];rfl⟩));(go_upto_region 8 with fail);obtain⟨W5,y⟩:∃W5,W5=(W4.setCell ⟨E,4,none⟩ (G false)).setCell ⟨E,3,none⟩ (G false):=⟨_,rfl⟩;rw[<- y]at ag;rw[<- y];clear y z0 z1 z2 z3 z4 z5 z6 y0 y1 y2 y3 y4 y5 y6 q9 R t;obtain⟨⟨z0,z1,z2,z3,z4,z5,z6⟩,y0,y1,y2,y3,y4,y5,y6⟩:=z7 ag.mo (mS ..);obtain⟨c9,c8,g5,c5,a7,ab,ax,a5,da,l,az,L,B,aw,av⟩:=ag.opn X.o;obtain⟨⟨p0,p1,p2,p3,p4,p5⟩,u2,u3,u4,u5⟩:=Xj l;obtain⟨r0,r1,r2,r3,r4,r5,r6,_⟩:=mlast (m:=d) (r:=ab) l B;have FZ:=λ(j:Nat) (hj:j<7)=>(l.cell (T:=265) (sz:=7) (n:=N z+1) (g:=g5) (c:=c5) (cs:=a7++mbk ab ax b.height b.dead (decide (b.op=4)) a5 (decide (b.op=3))) (by simp) rfl (j:=N z*7+j) (u:=(mbk ab ax b.height b.dead (decide (b.op=4)) a5 (decide (b.op=3))).getD j undef) (by omega) (by rw[List.getElem?_append_right (by omega),show(N z)*7+j-N a7=j by omega];rcases(by omega:j=0\/j=1\/j=2\/j=3\/j=4\/j=5\/j=6)with rfl|rfl|rfl|rfl|rfl|rfl|rfl<;>rfl)).2;have v0:=FZ 0 (by omega);have v1:=FZ 1 (by omega);have v2:=FZ 2 (by omega);have v4:=FZ 4 (by omega);have v5:=FZ 5 (by omega);have v6:=FZ 6 (by omega)
     simp only[Nat.add_zero]at v0;(have Y:decide ((els5 b).op=4)=false:=by unfold els5;by_cases x:b.op=4<;>simp[x]);(have x3:decide ((els5 b).op=3)=decide (b.op=3):=by unfold els5;by_cases x:b.op=4<;>simp[x]);have HD:=Hm (MSt.redo (b':=els5 b) (a:=a) (tv':=S ta (N b.takes) tc) (rv':=S I (N b.results) H) X.o l L B (dq.o.cons _) (ch.o.cons _));rw[Y,x3]at HD;(have hw:IntKind.i64.wrap (((N z+1:Nat):Int)-1)=N z:=by rw[Kv];omega);(have i5:(N z:Int)<((N z+1:Nat):Int):=by omega);clear l L az B aw av p0 p1 p2 p4 p5 u2 u4 u5 ag FZ x3 Y;go_region
     all_goals
      go_wp2_with fail
      first|go_end0|(refine bodyPost_ret (results_none rfl _ _ _) rfl ?_)
      rw[HR.o]
      exact⟨rfl,[_],HD.o.drewN 1⟩
   (have k0:(d.e != 0)=true:=by simp[c0]);(have HR:Hid (Q9 m f=d):=by show Q9 m f=_;rw[HM.o];simp[c0]);clear HM c0;have q9:(w2.drewN n2).cell? ⟨p,4,none⟩=some (U O d.e):=ay;go_wp2;(first|go_end0|(refine bodyPost_ret (results_none rfl _ _ _) rfl ?_));rw[HR.o];exact⟨rfl,[_],t.o⟩
 have HR:Hid (Q9 m f=fail d 6):=by show Q9 m f=_;rw[HM.o];simp
 have ds:=Hm (Q1 6 t.o);clear HM;have k0:((fail d 6).e != 0)=true:=by
  unfold fail;split
  · rfl
  rename_i h;simpa using h
 go_wp2_with fail
 refine ds.o.mono ?_;rintro e w3 ⟨rfl,cb⟩;have q9:w3.cell? ⟨p,4,none⟩=some (U O (fail d 6).e):=by obtain⟨sv,bv,a8,po,F,_⟩:=cb;exact(Xj F).1.2.2.2.2.1
 go_wp2;first|go_end0|(refine bodyPost_ret (results_none rfl _ _ _) rfl ?_)
 rw[HR.o];exact⟨rfl,[_],cb⟩
theorem sask_y:(∀⦃D:Nat⦄ ⦃w0:J⦄ ⦃p:Nat⦄ ⦃lv:Vu⦄ ⦃nl:Int⦄ ⦃ks:List Qc⦄ ⦃m:MS⦄ ⦃V:J⦄ ⦃x:Ctx⦄ ⦃t:Ctv⦄ (a b v:Int) (g:List Int) (r:Option Addr) (q:Nat) (h:MSt D w0 p lv nl ks m V) (y:CtR D w0 x t ks) (M:m.e=0),AkC D w0 p lv nl x t m.s ks V ⟨35,a,b,v,g⟩ r q)/\(∀⦃D:Nat⦄ ⦃w0:J⦄ ⦃p:Nat⦄ ⦃lv:Vu⦄ ⦃nl:Int⦄ ⦃ks:List Qc⦄ ⦃m:MS⦄ ⦃V:J⦄ ⦃x:Ctx⦄ ⦃t:Ctv⦄ (a b v:Int) (g:List Int) (r:Option Addr) (q:Nat) (h:MSt D w0 p lv nl ks m V) (y:CtR D w0 x t ks) (M:m.e=0),AkC D w0 p lv nl x t m.s ks V ⟨13,a,b,v,g⟩ r q)/\(∀⦃D:Nat⦄ ⦃w0:J⦄ ⦃p:Nat⦄ ⦃lv:Vu⦄ ⦃nl:Int⦄ ⦃ks:List Qc⦄ ⦃m:MS⦄ ⦃V:J⦄ ⦃x:Ctx⦄ ⦃t:Ctv⦄ (a b v:Int) (g:List Int) (r:Option Addr) (q:Nat) (h:MSt D w0 p lv nl ks m V) (y:CtR D w0 x t ks) (M:m.e=0),AkC D w0 p lv nl x t m.s ks V ⟨16,a,b,v,g⟩ r q):=by
 refine⟨?c0,?c1,?c2⟩;case' c0=>have d:=0
 case' c1=>have c:=0
 case' c2=>have l:=0
 all_goals
  intro D w0 p lv nl ks m V x t a b v g r q h y M
  unfold AkC
  first|(replace d:=d;obtain⟨ta,tc,fa,fc,ga,gc,X,W,B,rfl,H,I,u⟩:=JG 35 a b v g r q h y)|(replace c:=c;obtain⟨ta,tc,fa,fc,ga,gc,X,W,B,rfl,H,I,u⟩:=JG 13 a b v g r q h y)|(obtain⟨ta,tc,fa,fc,ga,gc,X,W,B,rfl,H,I,u⟩:=JG 16 a b v g r q h y)
  obtain⟨⟨d0,d1,d4⟩,c0,c1,c2,c4,c5⟩:=cl6 u;obtain⟨sa,sc,ba,bc,a3,po,hm,A⟩:=u.opnS;obtain⟨⟨q0,q1,q2,q3,q4,q5⟩,f2,f3,f4,f5⟩:=Xj hm;clear hm A q0 q2 q4 q5 f2 f3 f4 f5;have HI:=Hm u;have L:=Hm M;have Y:=Hm (λf=>Q1 f u)
  first|(replace d:=d;have E:=Hm (λw=>QN 35 w))|(replace c:=c;have E:=Hm (λw=>QN 13 w))|(have E:=Hm (λw=>QN 16 w))
  first|(replace d:=d;obtain⟨f,A⟩:∃f,f=Qj (Qb 35):=⟨_,rfl⟩)|(replace c:=c;obtain⟨f,A⟩:∃f,f=Qj (Qb 13):=⟨_,rfl⟩)|(obtain⟨f,A⟩:∃f,f=Qj (Qb 16):=⟨_,rfl⟩)
  rw[<- A]at E;have z:f=2:=by rw[A];decide +kernel
  have ar:(f==5)=false:=by rw[z];rfl
  have aq:(f==6)=false:=by rw[z];rfl
  clear A z h y M
  first|(replace d:=d;by_cases j:a<(N x.globals:Int))|(replace c:=c;by_cases j:a<(N m.s.blocks:Int))|(by_cases j:a<(N x.funcs:Int))
  . first
    | (
     replace d:=d
     have F:Hid ((⟨m.s,Qq x frm m.s ⟨35,a,b,v,g⟩⟩:MS)=m):=by
      show _=m
      rw[show Qq x frm m.s ⟨35,a,b,v,g⟩=0 by simp[Qq,Qk,show frm 35=2 by decide +kernel,j]];exact(ms0 L.o).symm)
    | (
     replace c:=c
     have F:Hid ((⟨m.s,Qq x frm m.s ⟨13,a,b,v,g⟩⟩:MS)=m):=by
      show _=m
      rw[show Qq x frm m.s ⟨13,a,b,v,g⟩=0 by simp[Qq,Qk,show frm 13=2 by decide +kernel,j]];exact(ms0 L.o).symm)
    | (
     replace l:=l
     have F:Hid ((⟨m.s,Qq x frm m.s ⟨16,a,b,v,g⟩⟩:MS)=m):=by
      show _=m
      rw[show Qq x frm m.s ⟨16,a,b,v,g⟩=0 by simp[Qq,Qk,show frm 16=2 by decide +kernel,j]];exact(ms0 L.o).symm)
    first|(replace d:=d;have k:¬((N x.globals:Int)<=a):=by omega)|(replace c:=c;have k:¬((N m.s.blocks:Int)<=a):=by omega)|(have k:¬((N x.funcs:Int)<=a):=by omega)
    clear j u
    go_enter func144,ntmps144
    go_upto_region 1 with fail
    rw[<- H,<- I];clear H I
    go_upto_region 35 with (go_at_call 141;refine(E.o _).mono ?_;rintro e w2 ⟨rfl,rfl⟩)
    have C:=Hm (λn=>(E.o (W.drewN n)).mono (R':=λe w'=>e=Z (U O f)/\∃m,w'=W.drewN m) λe w' ⟨a,b⟩=>⟨a,n,b.symm⟩)
    go_quiet (with_reducible exact C.o _)
    go_wp2
    go_end0
    rw[F.o]
    exact⟨rfl,[_,_],(HI.o).keep ⟨rfl,rfl,rfl,lRz,λ_ _=>rfl⟩⟩
  . first
    | (
     replace d:=d
     have F:Hid ((⟨m.s,Qq x frm m.s ⟨35,a,b,v,g⟩⟩:MS)=fail m 2):=by
      show _=fail m _
      rw[show Qq x frm m.s ⟨35,a,b,v,g⟩=2 by simp[Qq,Qk,show frm 35=2 by decide +kernel,j]];exact(JT L.o _).symm)
    | (
     replace c:=c
     have F:Hid ((⟨m.s,Qq x frm m.s ⟨13,a,b,v,g⟩⟩:MS)=fail m 2):=by
      show _=fail m _
      rw[show Qq x frm m.s ⟨13,a,b,v,g⟩=2 by simp[Qq,Qk,show frm 13=2 by decide +kernel,j]];exact(JT L.o _).symm)
    | (
     replace l:=l
     have F:Hid ((⟨m.s,Qq x frm m.s ⟨16,a,b,v,g⟩⟩:MS)=fail m 2):=by
      show _=fail m _
      rw[show Qq x frm m.s ⟨16,a,b,v,g⟩=2 by simp[Qq,Qk,show frm 16=2 by decide +kernel,j]];exact(JT L.o _).symm)
    first|(replace d:=d;have k:(N x.globals:Int)<=a:=by omega)|(replace c:=c;have k:(N m.s.blocks:Int)<=a:=by omega)|(have k:(N x.funcs:Int)<=a:=by omega)
    clear j u
    go_enter func144,ntmps144
    go_upto_region 1 with fail
    rw[<- H,<- I];clear H I
    go_upto_region 35 with (first|(go_at_call 141;refine(E.o _).mono ?_;rintro e w2 ⟨rfl,rfl⟩)|(go_at_call 182;refine(Y.o 2).mono ?_;rintro e w1 ⟨rfl,R⟩;obtain⟨⟨d0,d1,d4⟩,c0,c1,c2,c4,c5⟩:=cl6 R))
    have C:=Hm (λn=>(E.o (w1.drewN n)).mono (R':=λe w'=>e=Z (U O f)/\∃m,w'=w1.drewN m) λe w' ⟨a,b⟩=>⟨a,n,b.symm⟩)
    go_quiet (with_reducible exact C.o _)
    go_wp2
    go_end0
    rw[F.o]
    exact⟨rfl,[_,_],(R).keep ⟨rfl,rfl,rfl,lRz,λ_ _=>rfl⟩⟩
def sask_35:=sask_y.1
def sask_13:=sask_y.2.1
def sask_16:=sask_y.2.2
theorem sask_x:(∀⦃D:Nat⦄ ⦃w0:J⦄ ⦃p:Nat⦄ ⦃lv:Vu⦄ ⦃nl:Int⦄ ⦃ks:List Qc⦄ ⦃m:MS⦄ ⦃V:J⦄ ⦃x:Ctx⦄ ⦃t:Ctv⦄ (a b v:Int) (j:List Int) (z:Option Addr) (y:Nat) (h:MSt D w0 p lv nl ks m V) (C:CtR D w0 x t ks) (he:m.e=0) (l:nl=X3 m.s),AkC D w0 p lv nl x t m.s ks V ⟨32,a,b,v,j⟩ z y)/\(∀⦃D:Nat⦄ ⦃w0:J⦄ ⦃p:Nat⦄ ⦃lv:Vu⦄ ⦃nl:Int⦄ ⦃ks:List Qc⦄ ⦃m:MS⦄ ⦃V:J⦄ ⦃x:Ctx⦄ ⦃t:Ctv⦄ (a b v:Int) (j:List Int) (z:Option Addr) (y:Nat) (h:MSt D w0 p lv nl ks m V) (C:CtR D w0 x t ks) (he:m.e=0) (l:nl=X3 m.s),AkC D w0 p lv nl x t m.s ks V ⟨33,a,b,v,j⟩ z y)/\(∀⦃D:Nat⦄ ⦃w0:J⦄ ⦃p:Nat⦄ ⦃lv:Vu⦄ ⦃nl:Int⦄ ⦃ks:List Qc⦄ ⦃m:MS⦄ ⦃V:J⦄ ⦃x:Ctx⦄ ⦃t:Ctv⦄ (a b v:Int) (j:List Int) (z:Option Addr) (y:Nat) (h:MSt D w0 p lv nl ks m V) (C:CtR D w0 x t ks) (he:m.e=0) (l:nl=X3 m.s),AkC D w0 p lv nl x t m.s ks V ⟨34,a,b,v,j⟩ z y):=by
 refine⟨?c0,?c1,?c2⟩;case' c0=>have g:=0
 case' c1=>have d:=0
 case' c2=>have u:=0
 all_goals
  intro D w0 p lv nl ks m V x t a b v j z y h C he l
  unfold AkC
  first|(replace g:=g;obtain⟨ta,tc,fa,fc,ga,gc,ad,W,B,rfl,X,Y,A⟩:=JG 32 a b v j z y h C)|(replace d:=d;obtain⟨ta,tc,fa,fc,ga,gc,ad,W,B,rfl,X,Y,A⟩:=JG 33 a b v j z y h C)|(obtain⟨ta,tc,fa,fc,ga,gc,ad,W,B,rfl,X,Y,A⟩:=JG 34 a b v j z y h C)
  obtain⟨⟨d0,d1,d4⟩,c0,c1,c2,c4,c5⟩:=cl6 A;obtain⟨sa,sc,ba,bc,a8,po,hm,F⟩:=A.opnS;obtain⟨⟨q0,q1,q2,q3,q4,q5⟩,f2,f3,f4,f5⟩:=Xj hm;clear hm F q0 q2 q4 q5 f2 f3 f4 f5;have HI:=Hm A;have HE:=Hm he;have L:=Hm (λf=>Q1 f A)
  first|(replace g:=g;have M:=Hm (λw=>QN 32 w))|(replace d:=d;have M:=Hm (λw=>QN 33 w))|(have M:=Hm (λw=>QN 34 w))
  first|(replace g:=g;obtain⟨f,F⟩:∃f,f=Qj (Qb 32):=⟨_,rfl⟩)|(replace d:=d;obtain⟨f,F⟩:∃f,f=Qj (Qb 33):=⟨_,rfl⟩)|(obtain⟨f,F⟩:∃f,f=Qj (Qb 34):=⟨_,rfl⟩)
  rw[<- F]at M;have E:f=2:=by rw[F];decide +kernel
  have a3:(f==5)=false:=by rw[E];rfl
  have a2:(f==6)=false:=by rw[E];rfl
  clear F E h C he
  by_cases q:a<nl
  . first
    | (
     replace g:=g
     have R:Hid ((⟨m.s,Qq x frm m.s ⟨32,a,b,v,j⟩⟩:MS)=m):=by
      show _=m
      rw[show Qq x frm m.s ⟨32,a,b,v,j⟩=0 by rw[l]at q;simp[Qq,Qk,show frm 32=2 by decide +kernel,q]];exact(ms0 HE.o).symm)
    | (
     replace d:=d
     have R:Hid ((⟨m.s,Qq x frm m.s ⟨33,a,b,v,j⟩⟩:MS)=m):=by
      show _=m
      rw[show Qq x frm m.s ⟨33,a,b,v,j⟩=0 by rw[l]at q;simp[Qq,Qk,show frm 33=2 by decide +kernel,q]];exact(ms0 HE.o).symm)
    | (
     replace u:=u
     have R:Hid ((⟨m.s,Qq x frm m.s ⟨34,a,b,v,j⟩⟩:MS)=m):=by
      show _=m
      rw[show Qq x frm m.s ⟨34,a,b,v,j⟩=0 by rw[l]at q;simp[Qq,Qk,show frm 34=2 by decide +kernel,q]];exact(ms0 HE.o).symm)
    have k:¬(nl<=a):=by omega
    clear q A
    go_enter func144,ntmps144
    go_upto_region 1 with fail
    rw[<- X,<- Y];clear X Y
    go_upto_region 24 with fail
    go_quiet (fail)
    obtain⟨H,r⟩:∃H,H=W.drewN nq:=⟨_,rfl⟩;have c:=HI.o.drewN nq;rw[<- r]at c⊢;clear r;obtain⟨⟨d0,d1,d4⟩,c0,c1,c2,c4,c5⟩:=cl6 c;have ae:=Hm c;have L:=Hm (λf=>Q1 f c);clear c
    go_upto_region 35 with (go_at_call 141;refine(M.o _).mono ?_;rintro e w2 ⟨rfl,rfl⟩)
    have I:=Hm (λn=>(M.o (H.drewN n)).mono (R':=λe w'=>e=Z (U O f)/\∃m,w'=H.drewN m) λe w' ⟨a,b⟩=>⟨a,n,b.symm⟩)
    go_quiet (with_reducible exact I.o _)
    go_wp2
    go_end0
    rw[R.o]
    exact⟨rfl,[_,_],(ae.o).keep ⟨rfl,rfl,rfl,lRz,λ_ _=>rfl⟩⟩
  . first
    | (
     replace g:=g
     have R:Hid ((⟨m.s,Qq x frm m.s ⟨32,a,b,v,j⟩⟩:MS)=fail m 2):=by
      show _=fail m _
      rw[show Qq x frm m.s ⟨32,a,b,v,j⟩=2 by rw[l]at q;simp[Qq,Qk,show frm 32=2 by decide +kernel,q]];exact(JT HE.o _).symm)
    | (
     replace d:=d
     have R:Hid ((⟨m.s,Qq x frm m.s ⟨33,a,b,v,j⟩⟩:MS)=fail m 2):=by
      show _=fail m _
      rw[show Qq x frm m.s ⟨33,a,b,v,j⟩=2 by rw[l]at q;simp[Qq,Qk,show frm 33=2 by decide +kernel,q]];exact(JT HE.o _).symm)
    | (
     replace u:=u
     have R:Hid ((⟨m.s,Qq x frm m.s ⟨34,a,b,v,j⟩⟩:MS)=fail m 2):=by
      show _=fail m _
      rw[show Qq x frm m.s ⟨34,a,b,v,j⟩=2 by rw[l]at q;simp[Qq,Qk,show frm 34=2 by decide +kernel,q]];exact(JT HE.o _).symm)
    have k:nl<=a:=by omega
    clear q A
    go_enter func144,ntmps144
    go_upto_region 1 with fail
    rw[<- X,<- Y];clear X Y
    go_upto_region 24 with fail
    go_quiet (fail)
    obtain⟨H,r⟩:∃H,H=W.drewN nq:=⟨_,rfl⟩;have c:=HI.o.drewN nq;rw[<- r]at c⊢;clear r;obtain⟨⟨d0,d1,d4⟩,c0,c1,c2,c4,c5⟩:=cl6 c;have ae:=Hm c;have L:=Hm (λf=>Q1 f c);clear c
    go_upto_region 35 with (first|(go_at_call 141;refine(M.o _).mono ?_;rintro e w2 ⟨rfl,rfl⟩)|(go_at_call 182;refine(L.o 2).mono ?_;rintro e w1 ⟨rfl,ac⟩;obtain⟨⟨d0,d1,d4⟩,c0,c1,c2,c4,c5⟩:=cl6 ac))
    have I:=Hm (λn=>(M.o (w1.drewN n)).mono (R':=λe w'=>e=Z (U O f)/\∃m,w'=w1.drewN m) λe w' ⟨a,b⟩=>⟨a,n,b.symm⟩)
    go_quiet (with_reducible exact I.o _)
    go_wp2
    go_end0
    rw[R.o]
    exact⟨rfl,[_,_],(ac).keep ⟨rfl,rfl,rfl,lRz,λ_ _=>rfl⟩⟩
def sask_32:=sask_x.1
def sask_33:=sask_x.2.1
def sask_34:=sask_x.2.2
theorem sask_17 (a b v:Int)(j:List Int)(M:Option Addr)(L:Nat)(h:MSt D w0 p lv nl ks m V)(R:CtR D w0 x t ks)(Y:m.e=0)  :AkC D w0 p lv nl x t m.s ks V ⟨17,a,b,v,j⟩ M L:=by
 unfold AkC;obtain⟨ta,tc,fa,fc,ga,gc,ao,W,B,rfl,y,z,q⟩:=JG 17 a b v j M L h R;obtain⟨⟨d0,d1,d4⟩,c0,g,r,c4,c5⟩:=cl6 q;obtain⟨sa,sc,ba,bc,ax,po,X,C⟩:=q.opnS;obtain⟨⟨q0,q1,q2,q3,q4,q5⟩,f2,f3,f4,f5⟩:=Xj X;clear X C q0 q2 q4 q5 f2 f3 f4 f5;have HI:=Hm q;have H:=Hm Y;have E:=Hm (λf=>Q1 f q);have u:=Hm (λw=>QN 17 w);obtain⟨f,C⟩:∃f,f=Qj (Qb 17):=⟨_,rfl⟩;rw[<- C]at u;have l:f=4:=by rw[C];decide +kernel
 have aq:(f==5)=false:=by rw[l];rfl
 have ap:(f==6)=false:=by rw[l];rfl
 clear C l h R Y;by_cases g:a<(N x.types:Int)
 . by_cases r:0<x.tables
   . (have F:Hid ((⟨m.s,Qq x frm m.s ⟨17,a,b,v,j⟩⟩:MS)=m):=by show _=m;rw[show Qq x frm m.s ⟨17,a,b,v,j⟩=0 by simp[Qq,Qk,show frm 17=4 by decide +kernel,g,r]];exact(ms0 H.o).symm);(have k:¬((N x.types:Int)<=a):=by omega);(have k2:((x.tables:Int)==0)=false:=by simp;omega);clear g r;clear q;go_enter func144,ntmps144;(go_upto_region 1 with fail);rw[<- y,<- z];clear y z;(go_upto_region 35 with (go_at_call 141;refine(u.o _).mono ?_;rintro e I ⟨rfl,rfl⟩));have d:=Hm (λn=>(u.o (W.drewN n)).mono (R':=λe w'=>e=Z (U O f)/\∃m,w'=W.drewN m) λe w' ⟨a,b⟩=>⟨a,n,b.symm⟩);(go_quiet (with_reducible exact d.o _));go_wp2;go_end0;rw[F.o];exact⟨rfl,[_,_],(HI.o).keep ⟨rfl,rfl,rfl,lRz,λ_ _=>rfl⟩⟩
   (have F:Hid ((⟨m.s,Qq x frm m.s ⟨17,a,b,v,j⟩⟩:MS)=fail m 2):=by show _=fail m 2;rw[show Qq x frm m.s ⟨17,a,b,v,j⟩=2 by simp[Qq,Qk,show frm 17=4 by decide +kernel,g,r]];exact(JT H.o _).symm);(have k:¬((N x.types:Int)<=a):=by omega);(have k2:((x.tables:Int)==0)=true:=by simp;omega);clear g r;clear q;go_enter func144,ntmps144;(go_upto_region 1 with fail);rw[<- y,<- z];clear y z;(go_upto_region 35 with (first|(go_at_call 141;refine(u.o _).mono ?_;rintro e I ⟨rfl,rfl⟩)|(go_at_call 182;refine(E.o 2).mono ?_;rintro e A ⟨rfl,c⟩;obtain⟨⟨d0,d1,d4⟩,c0,g,r,c4,c5⟩:=cl6 c)));have d:=Hm (λn=>(u.o (A.drewN n)).mono (R':=λe w'=>e=Z (U O f)/\∃m,w'=A.drewN m) λe w' ⟨a,b⟩=>⟨a,n,b.symm⟩);(go_quiet (with_reducible exact d.o _));go_wp2;go_end0;rw[F.o];exact⟨rfl,[_,_],(c).keep ⟨rfl,rfl,rfl,lRz,λ_ _=>rfl⟩⟩
 have F:Hid ((⟨m.s,Qq x frm m.s ⟨17,a,b,v,j⟩⟩:MS)=fail m 2):=by show _=fail m 2;rw[show Qq x frm m.s ⟨17,a,b,v,j⟩=2 by simp[Qq,Qk,show frm 17=4 by decide +kernel,g]];exact(JT H.o _).symm
 have k:(N x.types:Int)<=a:=by omega
 clear g;clear q;go_enter func144,ntmps144;go_upto_region 1 with fail
 rw[<- y,<- z];clear y z;go_upto_region 35 with (first|(go_at_call 141;refine(u.o _).mono ?_;rintro e I ⟨rfl,rfl⟩)|(go_at_call 182;refine(E.o 2).mono ?_;rintro e A ⟨rfl,c⟩;obtain⟨⟨d0,d1,d4⟩,c0,g,r,c4,c5⟩:=cl6 c))
 have d:=Hm (λn=>(u.o (A.drewN n)).mono (R':=λe w'=>e=Z (U O f)/\∃m,w'=A.drewN m) λe w' ⟨a,b⟩=>⟨a,n,b.symm⟩);go_quiet (with_reducible exact d.o _)
 go_wp2;go_end0;rw[F.o];exact⟨rfl,[_,_],(c).keep ⟨rfl,rfl,rfl,lRz,λ_ _=>rfl⟩⟩
theorem sask_36 (n:Nat)(b v:Int)(q:List Int)(la:Option Addr)(lc:Nat)(h:MSt D w0 p lv nl ks m V)(L:CtR D w0 x t ks)(he:m.e=0)  :AkC D w0 p lv nl x t m.s ks V ⟨36,(n:Int),b,v,q⟩ la lc:=by
 unfold AkC;obtain⟨ta,tc,fa,fc,ga,gc,av,W,B,rfl,z,A,r⟩:=JG 36 (n:Int) b v q la lc h L;obtain⟨⟨d0,d1,d4⟩,R,j,l,c4,c5⟩:=cl6 r;obtain⟨sa,sc,ba,bc,a4,po,hm,E⟩:=r.opnS;obtain⟨⟨q0,q1,q2,q3,q4,q5⟩,f2,f3,f4,f5⟩:=Xj hm;clear hm E q0 q2 q4 q5 f2 f3 f4 f5;have I:Hid (n<N x.globals->∃g,ga=some ⟨g,0,none⟩/\W.cell? ⟨g,n*2+1,none⟩=some (G (Q3 x n).mu)):=λhn=>by obtain⟨a0,R,e,M⟩:=QA r.mo (mC (mC L.gr));cases e;obtain⟨g,e,M⟩:=M (by omega);have hg:=(Gl (gs:=x.globals) (i:=n) (g:=Q3 x n) (by simp[Q3,Kg,hn])).2;exact⟨g,e,M _ _ hg (by omega)⟩
 have HI:=Hm r;have X:=Hm he;have F:=Hm (λf=>Q1 f r);have y:=Hm (λw=>QN 36 w);obtain⟨f,E⟩:∃f,f=Qj (Qb 36):=⟨_,rfl⟩;rw[<- E]at y;have u:f=2:=by rw[E];decide +kernel
 have ax:(f==5)=false:=by rw[u];rfl
 have aw:(f==6)=false:=by rw[u];rfl
 clear E u h L he;by_cases j:n<N x.globals
 . obtain⟨g,rfl,gm⟩:=I.o j;(have a3:(n:Int)<(N x.globals:Int):=by omega);(have k:¬((N x.globals:Int)<=(n:Int)):=by omega);cases l:(Q3 x n).mu
   . (have H:Hid ((⟨m.s,Qq x frm m.s ⟨36,(n:Int),b,v,q⟩⟩:MS)=fail m 9):=by show _=fail m 9;rw[show Qq x frm m.s ⟨36,(n:Int),b,v,q⟩=9 by simp[Qq,Qk,show frm 36=2 by decide +kernel,j,l]];exact(JT X.o _).symm);rw[l]at gm;clear j l I;clear r;go_enter func144,ntmps144;(go_upto_region 1 with fail);rw[<- z,<- A];clear z A;(go_upto_region 35 with (first|(go_at_call 141;refine(y.o _).mono ?_;rintro e Y ⟨rfl,rfl⟩)|(go_at_call 182;refine(F.o 9).mono ?_;rintro e C ⟨rfl,c⟩;obtain⟨⟨d0,d1,d4⟩,R,j,l,c4,c5⟩:=cl6 c)));have d:=Hm (λn=>(y.o (C.drewN n)).mono (R':=λe w'=>e=Z (U O f)/\∃m,w'=C.drewN m) λe w' ⟨a,b⟩=>⟨a,n,b.symm⟩);(go_quiet (with_reducible exact d.o _));go_wp2;go_end0;rw[H.o];exact⟨rfl,[_,_],(c).keep ⟨rfl,rfl,rfl,lRz,λ_ _=>rfl⟩⟩
   (have H:Hid ((⟨m.s,Qq x frm m.s ⟨36,(n:Int),b,v,q⟩⟩:MS)=m):=by show _=m;rw[show Qq x frm m.s ⟨36,(n:Int),b,v,q⟩=0 by simp[Qq,Qk,show frm 36=2 by decide +kernel,j,l]];exact(ms0 X.o).symm);rw[l]at gm;clear j l I;clear r;go_enter func144,ntmps144;(go_upto_region 1 with fail);rw[<- z,<- A];clear z A;(go_upto_region 35 with (go_at_call 141;refine(y.o _).mono ?_;rintro e Y ⟨rfl,rfl⟩));have d:=Hm (λn=>(y.o (W.drewN n)).mono (R':=λe w'=>e=Z (U O f)/\∃m,w'=W.drewN m) λe w' ⟨a,b⟩=>⟨a,n,b.symm⟩);(go_quiet (with_reducible exact d.o _));go_wp2;go_end0;rw[H.o];exact⟨rfl,[_,_],(HI.o).keep ⟨rfl,rfl,rfl,lRz,λ_ _=>rfl⟩⟩
 have H:Hid ((⟨m.s,Qq x frm m.s ⟨36,(n:Int),b,v,q⟩⟩:MS)=fail m 2):=by show _=fail m 2;rw[show Qq x frm m.s ⟨36,(n:Int),b,v,q⟩=2 by simp[Qq,Qk,show frm 36=2 by decide +kernel,j]];exact(JT X.o _).symm
 have k:(N x.globals:Int)<=(n:Int):=by omega
 clear j I;clear r;go_enter func144,ntmps144;go_upto_region 1 with fail
 rw[<- z,<- A];clear z A;go_upto_region 35 with (first|(go_at_call 141;refine(y.o _).mono ?_;rintro e Y ⟨rfl,rfl⟩)|(go_at_call 182;refine(F.o 2).mono ?_;rintro e C ⟨rfl,c⟩;obtain⟨⟨d0,d1,d4⟩,R,j,l,c4,c5⟩:=cl6 c))
 have d:=Hm (λn=>(y.o (C.drewN n)).mono (R':=λe w'=>e=Z (U O f)/\∃m,w'=C.drewN m) λe w' ⟨a,b⟩=>⟨a,n,b.symm⟩);go_quiet (with_reducible exact d.o _)
 go_wp2;go_end0;rw[H.o];exact⟨rfl,[_,_],(c).keep ⟨rfl,rfl,rfl,lRz,λ_ _=>rfl⟩⟩
theorem sask_14 (a b v:Int)(c:List Int)(M:Option Addr)(L:Nat)(h:MSt D w0 p lv nl ks m V)(hx:CtR D w0 x t ks)(he:m.e=0)(tL:Ty D w0 [] (S M (N c) L) c)(bj:N c<=1048577):AkC D w0 p lv nl x t m.s ks V ⟨14,a,b,v,c⟩ M L:=by
 unfold AkC;obtain⟨ta,tc,fa,fc,ga,gc,bo,W,B,rfl,hW,hB,Y⟩:=JG 14 a b v c M L h hx;obtain⟨⟨d0,d1,d4⟩,c0,c1,c2,c4,c5⟩:=cl6 Y;obtain⟨sa,sc,ba,bc,bv,po,hm,X⟩:=Y.opnS;obtain⟨⟨q0,q1,q2,q3,q4,q5⟩,f2,f3,f4,f5⟩:=Xj hm;clear hm X q0 q2 q4 q5 f2 f3 f4 f5;have HI:=Hm Y;have R:=Hm he;have bz:=Hm (λf=>Q1 f Y);have HF:=Hm (λw=>QN 14 w);obtain⟨f,X⟩:∃f,f=Qj (Qb 14):=⟨_,rfl⟩;rw[<- X]at HF;have C:f=3:=by rw[X];decide +kernel
 have bq:(f==5)=false:=by rw[C];rfl
 have bp:(f==6)=false:=by rw[C];rfl
 clear X C h hx he;have HT:=Hm tL;obtain⟨g,A⟩:∃g:Int,g=N m.s.blocks:=⟨_,rfl⟩;have HA:Hid (Qq x frm m.s ⟨14,a,b,v,c⟩=if c.all (λi=>decide (i<g))&&decide (a<g)then 0 else 2):=by
  show Qq x frm m.s ⟨14,a,b,v,c⟩=_;rw[A];have e:Qk x frm m.s ⟨14,a,b,v,c⟩=(c.all (λi=>decide (i<(N m.s.blocks:Int)))&&decide (a<(N m.s.blocks:Int))):=by simp only[Qk,show frm 14=3 by decide +kernel];simp
  unfold Qq;rw[e];cases(c.all (λi=>decide (i<(N m.s.blocks:Int)))&&decide (a<(N m.s.blocks:Int)))
  . simp
  simp[show frm 14=3 by decide +kernel]
 clear Y tL;go_enter func144,ntmps144;go_upto_region 1 with fail
 rw[<- hW,<- hB];clear hW hB;go_wp2_with fail
 rw[<- A];clear A;go_loopw [7] (λi wr=>∃k:Nat,k<=N c/\i=U O k/\MSt D w0 p lv nl (box 204 5 (B+1) (inC 14 a b v c M L)::box 66 6 B [S ta (N x.types) tc,S fa (N x.funcs) fc,S ga (N x.globals) gc,U O x.imports,U O x.tables,U O x.mems]::ks) (if(c.take k).all (λi=>decide (i<g))then m else fail m 2) wr) (λi _=>N c-(intOf i).toNat)
 case atStart=>exact⟨0,Kz _,rfl,HI.o⟩
 obtain⟨k,hk,rfl,d⟩:=hrel;obtain⟨⟨d0,d1,d4⟩,c0,c1,c2,c4,c5⟩:=cl6 d;by_cases z:k<N c
 . (have bl:(k:Int)<(N c:Int):=by omega);obtain⟨a',c',e,hh⟩:=Ty.ms (HT.o.sub (ks':=box 204 5 (B+1) (inC 14 a b v c M L)::box 66 6 B [S ta (N x.types) tc,S fa (N x.funcs) fc,S ga (N x.globals) gc,U O x.imports,U O x.tables,U O x.mems]::ks) (λr hr=>by cases hr)) d;cases e;rcases hh with hx|⟨b_,off,ea,hc⟩
   . subst hx;simp at z
   rw[ea]at d4;have g1:=hc k z;obtain⟨y,hy⟩:∃y,y=c.getD k 0:=⟨_,rfl⟩;rw[<- hy]at g1;(have l:(c.take (k+1)).all (λi=>decide (i<g))=((c.take k).all (λi=>decide (i<g))&&decide (y<g)):=by rw[List.take_add_one,List.all_append,hy];simp[Kg,z]);have q:=Hm l;have E:=Hm d;have H:=Hm (Q1 2 d);clear hc hy l d ea;by_cases cy:y<g
   . (have k1:¬(g<=y):=by omega);go_wp2;(go_roundw);(case rel=>exact⟨k+1,by omega,by go_num,by rw[q.o,decide_eq_true cy,Bool.and_true];exact E.o⟩);case measure=>simp[intOf];omega
   (have k1:g<=y:=by omega);go_wp2_with (go_at_call 182;refine H.o.mono ?_;rintro e w1 ⟨rfl,j⟩)
   have aj:MSt D w0 p lv nl (box 204 5 (B+1) (inC 14 a b v c M L)::box 66 6 B [S ta (N x.types) tc,S fa (N x.funcs) fc,S ga (N x.globals) gc,U O x.imports,U O x.tables,U O x.mems]::ks) (if(c.take (k+1)).all (λi=>decide (i<g))then m else fail m 2) w1:=by
    rw[q.o,decide_eq_false (by omega:¬y<g),Bool.and_false];have e:fail (if(c.take k).all (λi=>decide (i<g))=true then m else fail m 2) 2=fail m 2:=by
     split
     · rfl
     rw[fail_e _ 2 (by rw[JT R.o];show(2:Int)≠0;decide)]
    rw[e]at j;simpa using j
   (go_roundw);(case rel=>exact⟨k+1,by omega,by go_num,aj⟩);case measure=>simp[intOf];omega
 obtain rfl:k=N c:=by omega
 rw[List.take_length]at d;obtain⟨I,u⟩:∃I,I=(if c.all (λi=>decide (i<g))=true then m else fail m 2):=⟨_,rfl⟩;rw[<- u]at d;have aa:=Hm u;have E:=Hm d;have H:=Hm (Q1 2 d);clear u d;by_cases cy:a<g
 . have k1:¬(g<=a):=by omega
   have HR:Hid ((⟨m.s,Qq x frm m.s ⟨14,a,b,v,c⟩⟩:MS)=I):=by
    show _=I;rw[aa.o,HA.o,decide_eq_true cy,Bool.and_true];split
    · exact(ms0 R.o).symm
    exact(JT R.o _).symm
   (go_upto_region 35 with (go_at_call 141;refine(HF.o _).mono ?_;rintro e w2 ⟨rfl,rfl⟩));have F:=Hm (λn=>(HF.o (wr.drewN n)).mono (R':=λe w'=>e=Z (U O f)/\∃m,w'=wr.drewN m) λe w' ⟨a,b⟩=>⟨a,n,b.symm⟩);(go_quiet (with_reducible exact F.o _));go_wp2;go_end0;rw[HR.o];exact⟨rfl,[_,_],E.o.keep ⟨rfl,rfl,rfl,lRz,λ_ _=>rfl⟩⟩
 have k1:g<=a:=by omega
 have HR:Hid ((⟨m.s,Qq x frm m.s ⟨14,a,b,v,c⟩⟩:MS)=fail I 2):=by
  show _=fail I 2;rw[aa.o,HA.o,decide_eq_false cy,Bool.and_false];split
  · rename_i h;cases h
  split
  · exact(JT R.o _).symm
  rw[fail_e _ 2 (by rw[JT R.o];show(2:Int)≠0;decide)];exact(JT R.o _).symm
 go_upto_region 35 with (first|(go_at_call 141;refine(HF.o _).mono ?_;rintro e w2 ⟨rfl,rfl⟩)|(go_at_call 182;refine H.o.mono ?_;rintro e w1 ⟨rfl,j⟩;obtain⟨⟨d0,d1,d4⟩,c0,c1,c2,c4,c5⟩:=cl6 j))
 have F:=Hm (λn=>(HF.o (w1.drewN n)).mono (R':=λe w'=>e=Z (U O f)/\∃m,w'=w1.drewN m) λe w' ⟨a,b⟩=>⟨a,n,b.symm⟩);go_quiet (with_reducible exact F.o _)
 go_wp2;go_end0;rw[HR.o];exact⟨rfl,[_,_],j.keep ⟨rfl,rfl,rfl,lRz,λ_ _=>rfl⟩⟩
theorem sask_o (op a b v:Int)(l:List Int)(A:Option Addr)(z:Nat)(h:MSt D w0 p lv nl ks m V)(C:CtR D w0 x t ks)(F:m.e=0)(d:∀c∈[12,13,14,16,17,32,33,34,35,36],(op==c)=false)(r:frm op≠5)(q:frm op≠6):AkC D w0 p lv nl x t m.s ks V ⟨op,a,b,v,l⟩ A z:=by
 unfold AkC;obtain⟨ta,tc,fa,fc,ga,gc,aj,W,B,rfl,H,I,k⟩:=JG op a b v l A z h C;obtain⟨⟨d0,d1,d4⟩,c0,c1,c2,c4,c5⟩:=cl6 k;obtain⟨sa,sc,ba,bc,av,po,E,j⟩:=k.opnS;obtain⟨⟨X,q1,R,q3,M,L⟩,f2,f3,f4,f5⟩:=Xj E;clear E j X R M L f2 f3 f4 f5;have HI:=Hm k;have HE:=Hm F;have aw:=Hm (λf=>Q1 f k);have ai:=d 12 (by simp);have ah:=d 13 (by simp);have ag:=d 14 (by simp);have af:=d 16 (by simp);have ae:=d 17 (by simp);have ad:=d 32 (by simp);have ac:=d 33 (by simp);have ab:=d 34 (by simp);have aa:=d 35 (by simp);have Y:=d 36 (by simp);have on:∀c∈[12,13,14,16,17,32,33,34,35,36],op≠c:=λc hc=>by have:=d c hc;simpa using this
 clear d;have y:=Hm (λw=>QN op w);obtain⟨f,j⟩:∃f,f=Qj (Qb op):=⟨_,rfl⟩;rw[<- j]at y;have g:frm op=f:=j.symm;have HA:Hid ((⟨m.s,Qq x frm m.s ⟨op,a,b,v,l⟩⟩:MS)=m):=by show _=m;rw[show Qq x frm m.s ⟨op,a,b,v,l⟩=0 by simp[Qq,Qk,r,q,on 12 (by simp),on 13 (by simp),on 14 (by simp),on 16 (by simp),on 17 (by simp),on 32 (by simp),on 33 (by simp),on 34 (by simp),on 35 (by simp),on 36 (by simp)]];exact(ms0 HE.o).symm
 rw[g]at r q;have ao:(f==5)=false:=by simpa using r
 have ak:(f==6)=false:=by simpa using q
 clear j g h C F on r q k;go_enter func144,ntmps144;go_upto_region 1 with fail
 rw[<- H,<- I];clear H I;go_upto_region 35 with (go_at_call 141;refine(y.o _).mono ?_;rintro e w2 ⟨rfl,rfl⟩)
 have u:=Hm (λn=>(y.o (W.drewN n)).mono (R':=λe w'=>e=Z (U O f)/\∃m,w'=W.drewN m) λe w' ⟨a,b⟩=>⟨a,n,b.symm⟩);go_quiet (with_reducible exact u.o _)
 go_wp2;go_end0;rw[HA.o];exact⟨rfl,[_,_],(HI.o).keep ⟨rfl,rfl,rfl,lRz,λ_ _=>rfl⟩⟩
theorem sask_z (op a b v:Int)(q:List Int)(X:Option Addr)(R:Nat)(h:MSt D w0 p lv nl ks m V)(F:CtR D w0 x t ks)(H:m.e=0)(d:∀c∈[12,13,14,16,17,32,33,34,35,36],(op==c)=false)(j:frm op=6):AkC D w0 p lv nl x t m.s ks V ⟨op,a,b,v,q⟩ X R:=by
 unfold AkC;obtain⟨ta,tc,fa,fc,ga,gc,av,W,B,rfl,A,C,u⟩:=JG op a b v q X R h F;obtain⟨⟨d0,d1,d4⟩,c0,c1,c2,c4,c5⟩:=cl6 u;obtain⟨sa,sc,ba,bc,bb,po,Y,r⟩:=u.opnS;obtain⟨⟨q0,q1,q2,q3,q4,q5⟩,f2,f3,f4,f5⟩:=Xj Y;clear Y r q0 q2 q4 q5 f2 f3 f4 f5;have HI:=Hm u;have HE:=Hm H;have I:=Hm (λf=>Q1 f u);have au:=d 12 (by simp);have ar:=d 13 (by simp);have aq:=d 14 (by simp);have ap:=d 16 (by simp);have ao:=d 17 (by simp);have ak:=d 32 (by simp);have aj:=d 33 (by simp);have ai:=d 34 (by simp);have ah:=d 35 (by simp);have ag:=d 36 (by simp);have on:∀c∈[12,13,14,16,17,32,33,34,35,36],op≠c:=λc hc=>by have:=d c hc;simpa using this
 clear d;have z:=Hm (λw=>QN op w);obtain⟨f,r⟩:∃f,f=Qj (Qb op):=⟨_,rfl⟩;rw[<- r]at z;have g:frm op=f:=r.symm;rw[g]at j;have ax:(f==5)=false:=by rw[j];rfl
 have aw:(f==6)=true:=by rw[j];rfl
 by_cases E:0<x.mems
 . (have L:Hid ((⟨m.s,Qq x frm m.s ⟨op,a,b,v,q⟩⟩:MS)=m):=by show _=m;rw[show Qq x frm m.s ⟨op,a,b,v,q⟩=0 by simp[Qq,Qk,g,j,E,on 12 (by simp),on 13 (by simp),on 14 (by simp),on 16 (by simp),on 17 (by simp),on 32 (by simp),on 33 (by simp),on 34 (by simp),on 35 (by simp),on 36 (by simp)]];exact(ms0 HE.o).symm);(have k:((x.mems:Int)==0)=false:=by simp;omega);clear r g h F H on j E;clear u;go_enter func144,ntmps144;(go_upto_region 1 with fail);rw[<- A,<- C];clear A C;(go_upto_region 35 with (go_at_call 141;refine(z.o _).mono ?_;rintro e w2 ⟨rfl,rfl⟩));have l:=Hm (λn=>(z.o (W.drewN n)).mono (R':=λe w'=>e=Z (U O f)/\∃m,w'=W.drewN m) λe w' ⟨a,b⟩=>⟨a,n,b.symm⟩);(go_quiet (with_reducible exact l.o _));go_wp2;go_end0;rw[L.o];exact⟨rfl,[_,_],(HI.o).keep ⟨rfl,rfl,rfl,lRz,λ_ _=>rfl⟩⟩
 have L:Hid ((⟨m.s,Qq x frm m.s ⟨op,a,b,v,q⟩⟩:MS)=fail m 2):=by show _=fail m 2;rw[show Qq x frm m.s ⟨op,a,b,v,q⟩=2 by simp[Qq,Qk,g,j,E,on 12 (by simp),on 13 (by simp),on 14 (by simp),on 16 (by simp),on 17 (by simp),on 32 (by simp),on 33 (by simp),on 34 (by simp),on 35 (by simp),on 36 (by simp)]];exact(JT HE.o _).symm
 have k:((x.mems:Int)==0)=true:=by simp;omega
 clear r g h F H on j E;clear u;go_enter func144,ntmps144;go_upto_region 1 with fail
 rw[<- A,<- C];clear A C;go_upto_region 35 with (first|(go_at_call 141;refine(z.o _).mono ?_;rintro e w2 ⟨rfl,rfl⟩)|(go_at_call 182;refine(I.o 2).mono ?_;rintro e M ⟨rfl,y⟩;obtain⟨⟨d0,d1,d4⟩,c0,c1,c2,c4,c5⟩:=cl6 y))
 have l:=Hm (λn=>(z.o (M.drewN n)).mono (R':=λe w'=>e=Z (U O f)/\∃m,w'=M.drewN m) λe w' ⟨a,b⟩=>⟨a,n,b.symm⟩);go_quiet (with_reducible exact l.o _)
 go_wp2;go_end0;rw[L.o];exact⟨rfl,[_,_],(y).keep ⟨rfl,rfl,rfl,lRz,λ_ _=>rfl⟩⟩
theorem sask_m (op a b v:Int)(I:List Int)(la:Option Addr)(lc:Nat)(h:MSt D w0 p lv nl ks m V)(hx:CtR D w0 x t ks)(he:m.e=0)(d:∀c∈[12,13,14,16,17,32,33,34,35,36],(op==c)=false)(h5:frm op=5)(ae:0<=a):AkC D w0 p lv nl x t m.s ks V ⟨op,a,b,v,I⟩ la lc:=by
 unfold AkC;obtain⟨ta,tc,fa,fc,ga,gc,bn,W,B,rfl,hW,hB,hI⟩:=JG op a b v I la lc h hx;obtain⟨⟨d0,d1,d4⟩,c0,c1,c2,c4,c5⟩:=cl6 hI;obtain⟨sa,sc,ba,bc,b7,po,hm,hf⟩:=hI.opnS;obtain⟨⟨q0,q1,q2,q3,q4,q5⟩,f2,f3,f4,f5⟩:=Xj hm;clear hm hf q0 q2 q4 q5 f2 f3 f4 f5;have HI:=Hm hI;have HE:=Hm he;have au:=Hm (λf=>Q1 f hI);have bl:=d 12 (by simp);have bj:=d 13 (by simp);have bh:=d 14 (by simp);have bg:=d 16 (by simp);have bf:=d 17 (by simp);have bd:=d 32 (by simp);have bb:=d 33 (by simp);have a9:=d 34 (by simp);have a8:=d 35 (by simp);have a7:=d 36 (by simp);have on:∀c∈[12,13,14,16,17,32,33,34,35,36],op≠c:=λc hc=>by have:=d c hc;simpa using this
 clear d;have HF:=Hm (λw=>QN op w);obtain⟨f,hf⟩:∃f,f=Qj (Qb op):=⟨_,rfl⟩;rw[<- hf]at HF;have y:frm op=f:=hf.symm;rw[y]at h5;have bo:(f==5)=true:=by rw[h5];rfl
 have R:Hid (Qq x frm m.s ⟨op,a,b,v,I⟩=if 0<x.mems then(if Jk op<a then 8 else 0)else 2):=by
  show Qq x frm m.s ⟨op,a,b,v,I⟩=_;by_cases M:0<x.mems
  . rw[if_pos M];by_cases ca:Jk op<a
    . simp[Qq,Qk,y,h5,M,ca]
    simp[Qq,Qk,y,h5,M,ca,on 12 (by simp),on 13 (by simp),on 14 (by simp),on 16 (by simp),on 17 (by simp),on 32 (by simp),on 33 (by simp),on 34 (by simp),on 35 (by simp),on 36 (by simp)]
  simp[Qq,Qk,y,h5,M]
 obtain⟨H,L⟩:∃H,H=P2 (Jk op):=⟨_,rfl⟩;have ag:=Hm (λw=>swid_c op w);rw[<- L]at ag;have bw:1<=H/\H<=8:=by have:=width_le op;rw[L];rcases(by omega:Jk op=0\/Jk op=1\/Jk op=2\/Jk op=3)with e|e|e|e<;>rw[e]<;>simp[P2]
 have F:Hid (a<=3->((H<P2 a) ↔ Jk op<a)):=λh=>by rw[L];exact align_iff ae h
 have aq:=Hm (width_le op);clear hf y h hx he on h5 L;by_cases M:0<x.mems
 . (have k:((x.mems:Int)==0)=false:=by simp;omega);(have g:Hid (Qq x frm m.s ⟨op,a,b,v,I⟩=if Jk op<a then 8 else 0):=by show _=_;rw[R.o,if_pos M]);clear M R;by_cases c3:3<a
   . (have X:Hid ((⟨m.s,Qq x frm m.s ⟨op,a,b,v,I⟩⟩:MS)=fail m 8):=by show _=fail m 8;have:=aq.o;rw[g.o,if_pos (by omega)];exact(JT HE.o _).symm);clear g F hI;go_enter func144,ntmps144;(go_upto_region 1 with fail);rw[<- hW,<- hB];clear hW hB;(go_upto_region 35 with (go_at_call 141;refine(HF.o _).mono ?_;rintro e w2 ⟨rfl,rfl⟩));have r:=Hm (λn=>(HF.o (W.drewN n)).mono (R':=λe w'=>e=Z (U O f)/\∃m,w'=W.drewN m) λe w' ⟨a,b⟩=>⟨a,n,b.symm⟩);have u:=Hm (λn=>Q1 8 (HI.o.drewN n));(go_quiet (with_reducible exact r.o _));(go_wp2_with (go_at_call 182;refine(u.o _).mono ?_;rintro e Y ⟨rfl,q⟩));go_end0;rw[X.o];exact⟨rfl,[_,_],q⟩
   obtain⟨l,j⟩:∃l,l=P2 a:=⟨_,rfl⟩;have E:=Hm (λw=>spow_c a w ae (by omega));rw[<- j]at E;have z:=F.o (by omega);rw[<- j]at z;(have bp:1<=l/\l<=8:=by rw[j];rcases(by omega:a=0\/a=1\/a=2\/a=3)with e|e|e|e<;>rw[e]<;>simp[P2]);(have ap:IntKind.i64.wrap l=l:=by rw[Kv];omega);have r:=Hm (λn=>(HF.o (W.drewN n)).mono (R':=λe w'=>e=Z (U O f)/\∃m,w'=W.drewN m) λe w' ⟨a,b⟩=>⟨a,n,b.symm⟩);have C:=Hm (λn=>(E.o (W.drewN n)).mono (R':=λe w'=>e=Z (U Ou l)/\∃m,w'=W.drewN m) λe w' ⟨a,b⟩=>⟨a,n,b.symm⟩);have A:=Hm (λn=>(ag.o (W.drewN n)).mono (R':=λe w'=>e=Z (U O H)/\∃m,w'=W.drewN m) λe w' ⟨a,b⟩=>⟨a,n,b.symm⟩);have u:=Hm (λn=>Q1 8 (HI.o.drewN n));have bm:¬(3<a):=c3;by_cases ca:H<l
   . (have X:Hid ((⟨m.s,Qq x frm m.s ⟨op,a,b,v,I⟩⟩:MS)=fail m 8):=by show _=fail m 8;rw[g.o,if_pos (z.1 ca)];exact(JT HE.o _).symm);clear g F z j hI;go_enter func144,ntmps144;(go_upto_region 1 with fail);rw[<- hW,<- hB];clear hW hB;(go_upto_region 35 with (go_at_call 141;refine(HF.o _).mono ?_;rintro e w2 ⟨rfl,rfl⟩));(go_quiet (first|(with_reducible exact r.o _)|(with_reducible exact C.o _)|(with_reducible exact A.o _)));(go_wp2_with (go_at_call 182;refine(u.o _).mono ?_;rintro e Y ⟨rfl,q⟩));go_end0;rw[X.o];exact⟨rfl,[_,_],q⟩
   (have X:Hid ((⟨m.s,Qq x frm m.s ⟨op,a,b,v,I⟩⟩:MS)=m):=by show _=m;rw[g.o,if_neg (λh=>ca (z.2 h))];exact(ms0 HE.o).symm);clear g F z j hI;go_enter func144,ntmps144;(go_upto_region 1 with fail);rw[<- hW,<- hB];clear hW hB;(go_upto_region 35 with (go_at_call 141;refine(HF.o _).mono ?_;rintro e w2 ⟨rfl,rfl⟩));(go_quiet (first|(with_reducible exact r.o _)|(with_reducible exact C.o _)|(with_reducible exact A.o _)));go_wp2;go_end0;rw[X.o];exact⟨rfl,[_,_],HI.o.keep ⟨rfl,rfl,rfl,lRz,λ_ _=>rfl⟩⟩
 have k:((x.mems:Int)==0)=true:=by simp;omega
 have X:Hid ((⟨m.s,Qq x frm m.s ⟨op,a,b,v,I⟩⟩:MS)=fail m 2):=by show _=fail m 2;rw[R.o,if_neg M];exact(JT HE.o _).symm
 have av:Hid (fail (fail m 2) 8=fail m 2):=fail_e _ 8 (by rw[JT HE.o];show(2:Int)≠0;decide);clear M R F hI;go_enter func144,ntmps144;go_upto_region 1 with fail
 rw[<- hW,<- hB];clear hW hB;go_upto_region 35 with (first|(go_at_call 141;refine(HF.o _).mono ?_;rintro e w2 ⟨rfl,rfl⟩)|(go_at_call 182;refine(au.o 2).mono ?_;rintro e Y ⟨rfl,q⟩;obtain⟨⟨d0,d1,d4⟩,c0,c1,c2,c4,c5⟩:=cl6 q))
 have r:=Hm (λn=>(HF.o (Y.drewN n)).mono (R':=λe w'=>e=Z (U O f)/\∃m,w'=Y.drewN m) λe w' ⟨a,b⟩=>⟨a,n,b.symm⟩);have A:=Hm (λn=>(ag.o (Y.drewN n)).mono (R':=λe w'=>e=Z (U O H)/\∃m,w'=Y.drewN m) λe w' ⟨a,b⟩=>⟨a,n,b.symm⟩);have u:=Hm (λn=>Q1 8 (q.drewN n));rw[av.o]at u;have ar:=Hm q;clear q;by_cases c3:3<a
 . (go_quiet (with_reducible exact r.o _));(go_wp2_with (go_at_call 182;refine(u.o _).mono ?_;rintro e w3 ⟨rfl,af⟩));go_end0;rw[X.o];exact⟨rfl,[_,_],af⟩
 obtain⟨l,j⟩:∃l,l=P2 a:=⟨_,rfl⟩;have E:=Hm (λw=>spow_c a w ae (by omega));rw[<- j]at E;have bp:1<=l/\l<=8:=by rw[j];rcases(by omega:a=0\/a=1\/a=2\/a=3)with e|e|e|e<;>rw[e]<;>simp[P2]
 have ap:IntKind.i64.wrap l=l:=by rw[Kv];omega
 have C:=Hm (λn=>(E.o (Y.drewN n)).mono (R':=λe w'=>e=Z (U Ou l)/\∃m,w'=Y.drewN m) λe w' ⟨a,b⟩=>⟨a,n,b.symm⟩);clear j;by_cases ca:H<l
 . (go_quiet (first|(with_reducible exact r.o _)|(with_reducible exact C.o _)|(with_reducible exact A.o _)));(go_wp2_with (go_at_call 182;refine(u.o _).mono ?_;rintro e w3 ⟨rfl,af⟩));go_end0;rw[X.o];exact⟨rfl,[_,_],af⟩
 go_quiet (first|(with_reducible exact r.o _)|(with_reducible exact C.o _)|(with_reducible exact A.o _))
 go_wp2;go_end0;rw[X.o];exact⟨rfl,[_,_],ar.o.keep ⟨rfl,rfl,rfl,lRz,λ_ _=>rfl⟩⟩
theorem sopen_3 (a b v:Int)(ll:List Int)(la:Option Addr)(lc:Nat)(h:MSt D w0 p lv nl ks m V)(i:Inv m.s)(co:m.s.blocks≠[])(a8:N m.s.blocks<=1048577)(cn:N m.s.stack<=1099511627776):Ec Q 146 #[Yp (some ⟨p,0,none⟩),inV ⟨3,a,b,v,ll⟩ la lc] V λe w'=>e=Z (.tuple #[])/\∃ns,MSt D w0 p lv nl (ns++ks) (mopen m 3 (Qi a)) w':=by
 obtain⟨M,hM⟩:∃M,M=mopen m 3 (Qi a):=⟨_,rfl⟩;rw[<- hM];have hI:=h.bxn #[U O 3,U O a,U O b,U Ou v,S la (N ll) lc] 204 5 rfl;obtain⟨W,hW⟩:∃W,W=V.alloc (Fc #[U O 3,U O a,U O b,U Ou v,S la (N ll) lc] 204):=⟨_,rfl⟩;obtain⟨B,hB⟩:∃B,B=V.heap.size:=⟨_,rfl⟩;rw[<- hW,<- hB]at hI;have d0:=(hI.mo.b0 0 (u:=U O 3)).1;have a9:M=JD m (QI m.s 3 (Qi a)):=by rw[hM];rfl
 have c6:N m.s.blocks<=1048577:=a8;have c2:=Hm a9;clear h hM a9 i co a8 cn;go_enter func146,ntmps146;go_upto_region 1 with fail
 rw[<- hW,<- hB];clear hW hB;go_upto_region 3 with fail
 obtain⟨sa,sc,L,H,A,z,hm,hf⟩:=hI.opnS;obtain⟨⟨q0,q1,q2,q3,q4,q5⟩,f2,f3,f4,f5⟩:=Xj hm;have l:=hI.mo;have k0:W.drew.cell? ⟨B,0,none⟩=some (U O 3):=(l.b0 0 (u:=U O 3)).1;have k1:W.drew.cell? ⟨B,1,none⟩=some (U O a):=(l.b0 1 (u:=U O a)).1;have k2:W.drew.cell? ⟨p,2,none⟩=some (S sa (N m.s.stack) sc):=q2;have k3:W.drew.cell? ⟨p,5,none⟩=some (U O z):=q5;have HF:=Hm hf;obtain⟨T,hT⟩:∃T:List Qc,T=(mxR p lv nl (S sa (N m.s.stack) sc) (S L (N m.s.blocks) H) m.e z::stR m.s (S sa (N m.s.stack) sc)::mlR (N m.s.blocks) (S L (N m.s.blocks) H) A::box 204 5 B (inC 3 a b v ll la lc)::ks):=⟨_,rfl⟩;have Y:Hid (∀ns w',Mo D w0 (ns++T) w'->w'.cell? ⟨B,0,none⟩=some (U O 3)/\w'.cell? ⟨B,1,none⟩=some (U O a)/\w'.cell? ⟨p,2,none⟩=some (S sa (N m.s.stack) sc)/\w'.cell? ⟨p,5,none⟩=some (U O z)):=λns w' h=>by rw[hT]at h;have b1:=λ(j:Nat) (u:Vu) (hj:j<5) (hu:(inC 3 a b v ll la lc)[j]?=some u)=>(h.bx (t:=204) (n:=5) (g:=B) (cs:=inC 3 a b v ll la lc) (by simp) j hj hu).1;have b2:=λ(j:Nat) (u:Vu) (hj:j<6) (hu:(sb lv nl (S sa (N m.s.stack) sc) (S L (N m.s.blocks) H) m.e z)[j]?=some u)=>(h.bx (t:=217) (n:=6) (g:=p) (cs:=sb lv nl (S sa (N m.s.stack) sc) (S L (N m.s.blocks) H) m.e z) (by simp) j hj hu).1;exact⟨b1 0 _ (by omega) rfl,b1 1 _ (by omega) rfl,b2 2 _ (by omega) rfl,b2 5 _ (by omega) rfl⟩
 have H0:Hid (Mo D w0 T W.drew):=by rw[hT];exact hm.drewN 1
 have HA:Hid (Mo D w0 (box 265 7 W.heap.size bz7::T) (W.alloc (Fc #[S none 0 0,S none 0 0,U O 0,G false,G false,U O 0,G false] 265)).drew):=Mo.box (cur:=#[S none 0 0,S none 0 0,U O 0,G false,G false,U O 0,G false]) H0.o 265 7 rfl;have SA:=Hm (Y.o [_] _ HA.o);have HR:=Hm (λw=>sres_c a w);have HT:=Hm hT;obtain⟨n,hn⟩:∃n,n=(Qi a).length:=⟨_,rfl⟩;have HN:=Hm hn;rw[<- hn]at HR;clear hm hf l hI q0 q1 q2 q3 q4 q5 f2 f3 f4 f5 hn;go_cut [4]from 10 (λs V'=>∃g v1 v2,s=Yp (some ⟨g,0,none⟩)/\Mo D w0 (box 265 7 g (mbk v1 v2 (N m.s.stack) false false z false)::⟨2,1,n,v2,I (Qi a)⟩::⟨2,1,n,v1,I (Qi a)⟩::T) V')
 case first=>
  clear hT
  go_region_held3 (λw'=>w'.cell? ⟨B,0,none⟩=some (U O 3)/\w'.cell? ⟨B,1,none⟩=some (U O a)/\w'.cell? ⟨p,2,none⟩=some (S sa (N m.s.stack) sc)/\w'.cell? ⟨p,5,none⟩=some (U O z))
   (first|with_reducible exact⟨k0,k1,k2,k3⟩|with_reducible exact SA.o|with_reducible exact⟨Qd k0,Qd k1,Qd k2,Qd k3⟩|with_reducible exact SS.o)
   (first
    | (
     go_at_call 186
     refine Rx (HR.o _) ?_
     rintro e w2 ⟨v1,rfl,ab,av⟩;obtain⟨va,vc,rfl⟩:=Qh ab
     first
      | (
       have y:Below W.drew.heap.size W.drew w2:=by with_reducible exact av
       have ay:=Hm (H0.o.new (ns:=[⟨2,1,n,S va n vc,I (Qi a)⟩]) y (Own.one ab));clear y;obtain⟨k0,k1,k2,k3⟩:=Y.o [_] w2 ay.o;have c5:=Hm (Mo.box (cur:=#[S none 0 0,S none 0 0,U O 0,G false,G false,U O 0,G false]) ay.o 265 7 rfl))
      | (
       have y:Below (W.alloc (Fc #[S none 0 0,S none 0 0,U O 0,G false,G false,U O 0,G false] 265)).drew.heap.size (W.alloc (Fc #[S none 0 0,S none 0 0,U O 0,G false,G false,U O 0,G false] 265)).drew w2:=by with_reducible exact av
       have bj:=Hm (HA.o.new (ns:=[⟨2,1,n,S va n vc,I (Qi a)⟩]) y (Own.one ab));clear y;obtain⟨k0,k1,k2,k3⟩:=Y.o [_,_] w2 bj.o)
     clear H0 HA ab av)
    | (
     go_at_call 186
     refine Rx (HR.o _) ?_
     rintro e w3 ⟨v2,rfl,X,ad⟩;obtain⟨f,d,rfl⟩:=Qh X
     first
      | (
       have ag:Below (w2.alloc (Fc #[S none 0 0,S none 0 0,U O 0,G false,G false,U O 0,G false] 265)).heap.size (w2.alloc (Fc #[S none 0 0,S none 0 0,U O 0,G false,G false,U O 0,G false] 265)) w3:=by with_reducible exact ad
       have q:=Hm ((c5.o.new (ns:=[⟨2,1,n,S f n d,I (Qi a)⟩]) ag (Own.one X)).perm swap2);clear ag;obtain⟨k0,k1,k2,k3⟩:=Y.o [_,_,_] w3 q.o;obtain⟨⟨z0,z1,z2,z3,z4,z5,z6⟩,y0,y1,y2,y3,y4,y5,y6⟩:=z7 q.o (mS ..);have bh:=Hm (put7m q.o rfl);have SS:=Hm (Y.o [_,_,_] _ (put7m q.o rfl (S va n vc) (S f n d) (U O (N m.s.stack)) (G false) (G false) (U O z) (G false))))
      | (
       have q:=Hm (ay.o.new (ns:=[⟨2,1,n,S f n d,I (Qi a)⟩]) ad (Own.one X));obtain⟨k0,k1,k2,k3⟩:=Y.o [_,_] w3 q.o;have c4:=Hm (fun x0 x1 x2 x3 x4 x5 x6=>Mo.box (cur:=#[x0,x1,x2,x3,x4,x5,x6]) q.o 265 7 rfl))
      | (
       have q:=Hm ((bj.o.new (ns:=[⟨2,1,n,S f n d,I (Qi a)⟩]) ad (Own.one X)).perm swap1);obtain⟨k0,k1,k2,k3⟩:=Y.o [_,_,_] w3 q.o;obtain⟨⟨z0,z1,z2,z3,z4,z5,z6⟩,y0,y1,y2,y3,y4,y5,y6⟩:=z7 q.o (mS ..);have bh:=Hm (put7m q.o rfl);have SS:=Hm (Y.o [_,_,_] _ (put7m q.o rfl (S va n vc) (S f n d) (U O (N m.s.stack)) (G false) (G false) (U O z) (G false))))
     clear HR X ad))
  all_goals
   go_wp2_with fail
   go_meet
   first
    |exact⟨_,_,_,rfl,c4.o _ _ _ _ _ _ _⟩
    |exact⟨_,_,_,rfl,bh.o _ _ _ _ _ _ _⟩
 obtain⟨g,v1,v2,rfl,l⟩:=hcut;rw[HT.o]at l;have hn:=HN.o;subst hn;obtain⟨va,vc,a5⟩:=Qh (l.row (r:=⟨2,1,(Qi a).length,v1,I (Qi a)⟩) (by simp));obtain⟨f,d,a4⟩:=Qh (l.row (r:=⟨2,1,(Qi a).length,v2,I (Qi a)⟩) (by simp));dsimp only at a5 a4;subst a5 a4;obtain⟨⟨z0,z1,z2,z3,z4,z5,z6⟩,y0,y1,y2,y3,y4,y5,y6⟩:=z7 l (mS ..);have c0:=(Y.o [_,_,_] wc (by rw[HT.o];exact l)).1;obtain⟨E3,bd⟩:∃E,E=wc.heap.size:=⟨_,rfl⟩;obtain⟨C,aw⟩:∃C,C=((wc.alloc (Fc #[] 2)).setCell ⟨g,0,none⟩ (S (some ⟨E3,0,none⟩) 0 0)).setCell ⟨g,6,none⟩ (G true):=⟨_,rfl⟩;have au:Mo D w0 (box 265 7 g (mbk (S (some ⟨E3,0,none⟩) 0 0) (S f (Qi a).length d) (N m.s.stack) false false z true)::_) _:=((l.keep (W:=wc.alloc (Fc #[] 2)) (bFz.alloc lRz _)).set 0 (S (some ⟨E3,0,none⟩) 0 0)).set 6 (G true);obtain⟨⟨x0,x1,x2,x3,x4,x5,x6⟩,u0,u1,u2,u3,u4,u5,u6⟩:=z7 (l.keep (W:=wc.alloc (Fc #[] 2)) (bFz.alloc lRz _)) (mS ..);rw[<- aw]at au;go_upto_region 7 with fail
 rw[<- bd,<- aw];obtain⟨⟨z0,z1,z2,z3,z4,z5,z6⟩,y0,y1,y2,y3,y4,y5,y6⟩:=z7 au (mS ..);clear aw bd x0 x1 x2 x3 x4 x5 x6 u0 u1 u2 u3 u4 u5 u6;obtain⟨i0,hi,cm,cl,ck⟩:=info_parts info265;obtain⟨KS,F⟩:∃KS:List Qc,KS=box 265 7 g (mbk (S (some ⟨E3,0,none⟩) 0 0) (S f (Qi a).length d) (N m.s.stack) false false z true)::⟨2,1,(Qi a).length,S f (Qi a).length d,I (Qi a)⟩::⟨2,1,(Qi a).length,S va (Qi a).length vc,I (Qi a)⟩::box 204 5 B (inC 3 a b v ll la lc)::ks:=⟨_,rfl⟩;have hm:Mo D w0 (mxR p lv nl (S sa (N m.s.stack) sc) (S L (N m.s.blocks) H) m.e z::stR m.s (S sa (N m.s.stack) sc)::mlR (N m.s.blocks) (S L (N m.s.blocks) H) A::KS) C:=by
  rw[F];refine au.perm ?_;classical
  rw[Th];intro x;simp[Hd];omega
 have hf:Fl (MRep D w0 KS) m.s.blocks A:=HF.o.mono λb c ⟨tv,rv,x,e,t1,t2⟩=>⟨tv,rv,x,e,t1.sub λr hr=>by rw[F];exact mC (mC (mC hr)),t2.sub λr hr=>by rw[F];exact mC (mC (mC hr))⟩;have T2:Ty D w0 KS (S f (Qi a).length d) (Qi a):=.inr (by rw[F];simp);have T1:Ty D w0 KS (S (some ⟨E3,0,none⟩) 0 0) ([]):=Ty.nil _ _ _ _ _;obtain⟨⟨q0,q1,q2,q3,q4,q5⟩,f2,f3,f4,f5⟩:=Xj hm;have ae:C.ownsRow D 265 7 (S L (N m.s.blocks) H) (N m.s.blocks) A:=hm.row (r:=mlR _ _ A) (by simp);have OW:=Hm ae;have cp:=hm.le;have HB:Hid (∀o,Below C.heap.size C ((C.alloc o).drew)):=λo=>⟨rfl,rfl,rfl,by show C.heap.size<=(C.alloc o).heap.size;simp,λk hk=>QM C o k hk⟩;have cz:Hid (∀V1 W' v',Below C.heap.size C V1->W'.ownsRow D 265 7 v' (N m.s.blocks+1) (A++mbk (S (some ⟨E3,0,none⟩) 0 0) (S f (Qi a).length d) (N m.s.stack) false false z true)->V1.grownBy W' (Tq L (N m.s.blocks) H).ownBlock->(v'.ownBlock=(Tq L (N m.s.blocks) H).ownBlock\/v'.ownBlock=some V1.heap.size)->MSt D w0 p lv nl KS M (W'.setCell ⟨p,3,none⟩ v')/\W'.cell? ⟨p,3,none⟩=some (S L (N m.s.blocks) H)/\W'.frozen? ⟨p,3,none⟩=false):=λV1 W' v' hb ho hg hl=>by rw[c2.o];exact MSt.begun (b:=⟨3,[],Qi a,N m.s.stack,false⟩) hm hf hb ho hg hl T1 T2
 have kd:∀o,(C.alloc o).cell? ⟨p,3,none⟩=some (S L (N m.s.blocks) H):=λo=>Qd q3;have c3:=Hm F;clear hm hf ae l F T1 T2 q0 q1 q2 q4 q5 f2 f3 f4 f5 HT Y HA H0 HR SA
 go_region_law (first
  | (
   refine Qt rfl (.tmp 39) (.tmp 41) 215 rfl D 265 i0 (Ag #[S none 0 0,S none 0 0,U O 0,G false,G false,U O 0,G false]) 7 80 underlying215 hi cm cl ck rfl (by decide) (S L (N m.s.blocks) H) (N m.s.blocks) A (by first|rfl|simp[Lz,Lf]) (World.ownsRow.alloc OW.o _) ⟨C.heap.size,0,none⟩ 1 1 (mbk (S (some ⟨E3,0,none⟩) 0 0) (S f (Qi a).length d) (N m.s.stack) false false z true) (by first|rfl|simp[Lz,Lf]) (by first|rfl|simp) (Jn C (mbk (S (some ⟨E3,0,none⟩) 0 0) (S f (Qi a).length d) (N m.s.stack) false false z true) 265) (one7 rfl rfl) (by unfold maxLen;omega) (by omega) (Ky cp (HB.o _).size) ?_
   intro v5 w5 R bf af
   have HQ:=Hm (cz.o _ w5 v5 (HB.o _) R bf af);have du:=HQ.o.2.1;have dt:=HQ.o.2.2;obtain⟨dh,dg,rfl⟩:=Qh R;clear R bf af))
 all_goals
  go_wp2_with fail
  go_end0
  have h9:=HQ.o.1;rw[c3.o]at h9
  exact⟨rfl,[_,_,_,_],h9⟩
theorem sopen_4 (a b v:Int)(ll:List Int)(la:Option Addr)(lc:Nat)(h:MSt D w0 p lv nl ks m V)(i:Inv m.s)(a8:m.s.blocks≠[])(aw:N m.s.blocks<=1048577)(a6:N m.s.stack<=1099511627776):Ec Q 146 #[Yp (some ⟨p,0,none⟩),inV ⟨4,a,b,v,ll⟩ la lc] V λe w'=>e=Z (.tuple #[])/\∃ns,MSt D w0 p lv nl (ns++ks) (mopen m 4 (Qi a)) w':=by
 obtain⟨M,hM⟩:∃M,M=mopen m 4 (Qi a):=⟨_,rfl⟩;rw[<- hM];have hI:=h.bxn #[U O 4,U O a,U O b,U Ou v,S la (N ll) lc] 204 5 rfl;obtain⟨W,hW⟩:∃W,W=V.alloc (Fc #[U O 4,U O a,U O b,U Ou v,S la (N ll) lc] 204):=⟨_,rfl⟩;obtain⟨B,hB⟩:∃B,B=V.heap.size:=⟨_,rfl⟩;rw[<- hW,<- hB]at hI;have d0:=(hI.mo.b0 0 (u:=U O 4)).1;have pk:=XK m 127;have HP:=Hm (XD 127 hI i a8 aw a6);have ag:M=JD (QC m 127).2 (QI (QC m 127).2.s 4 (Qi a)):=by rw[hM];rfl
 obtain⟨r1,a7⟩:∃r,r=QC m 127:=⟨_,rfl⟩;rw[<- a7]at HP ag pk;obtain⟨z1,d⟩:=r1;dsimp only at HP ag pk;have cz:N d.s.blocks<=1048577:=by rw[pk.bl];exact aw
 clear a7 pk hI;have cj:=Hm ag;clear h hM ag i a8 aw a6;go_enter func146,ntmps146;go_upto_region 1 with fail
 rw[<- hW,<- hB];clear hW hB;go_upto_region 3 with (go_at_call 150;refine HP.o.mono ?_;rintro e X ⟨rfl,ay⟩)
 obtain⟨sa,sc,R,L,C,E,hm,hf⟩:=ay.opnS;obtain⟨⟨q0,q1,q2,q3,q4,q5⟩,f2,f3,f4,f5⟩:=Xj hm;have y:=ay.mo;have k0:X.drew.cell? ⟨B,0,none⟩=some (U O 4):=(y.b0 0 (u:=U O 4)).1;have k1:X.drew.cell? ⟨B,1,none⟩=some (U O a):=(y.b0 1 (u:=U O a)).1;have k2:X.drew.cell? ⟨p,2,none⟩=some (S sa (N d.s.stack) sc):=q2;have k3:X.drew.cell? ⟨p,5,none⟩=some (U O E):=q5;have HF:=Hm hf;obtain⟨T,hT⟩:∃T:List Qc,T=(mxR p lv nl (S sa (N d.s.stack) sc) (S R (N d.s.blocks) L) d.e E::stR d.s (S sa (N d.s.stack) sc)::mlR (N d.s.blocks) (S R (N d.s.blocks) L) C::box 204 5 B (inC 4 a b v ll la lc)::ks):=⟨_,rfl⟩;have SF:Hid (∀ns w',Mo D w0 (ns++T) w'->w'.cell? ⟨B,0,none⟩=some (U O 4)/\w'.cell? ⟨B,1,none⟩=some (U O a)/\w'.cell? ⟨p,2,none⟩=some (S sa (N d.s.stack) sc)/\w'.cell? ⟨p,5,none⟩=some (U O E)):=λns w' h=>by rw[hT]at h;have b1:=λ(j:Nat) (u:Vu) (hj:j<5) (hu:(inC 4 a b v ll la lc)[j]?=some u)=>(h.bx (t:=204) (n:=5) (g:=B) (cs:=inC 4 a b v ll la lc) (by simp) j hj hu).1;have b2:=λ(j:Nat) (u:Vu) (hj:j<6) (hu:(sb lv nl (S sa (N d.s.stack) sc) (S R (N d.s.blocks) L) d.e E)[j]?=some u)=>(h.bx (t:=217) (n:=6) (g:=p) (cs:=sb lv nl (S sa (N d.s.stack) sc) (S R (N d.s.blocks) L) d.e E) (by simp) j hj hu).1;exact⟨b1 0 _ (by omega) rfl,b1 1 _ (by omega) rfl,b2 2 _ (by omega) rfl,b2 5 _ (by omega) rfl⟩
 have H0:Hid (Mo D w0 T X.drew):=by rw[hT];exact hm.drewN 1
 have HA:Hid (Mo D w0 (box 265 7 X.heap.size bz7::T) (X.alloc (Fc #[S none 0 0,S none 0 0,U O 0,G false,G false,U O 0,G false] 265)).drew):=Mo.box (cur:=#[S none 0 0,S none 0 0,U O 0,G false,G false,U O 0,G false]) H0.o 265 7 rfl;have SA:=Hm (SF.o [_] _ HA.o);have HR:=Hm (λw=>sres_c a w);have HT:=Hm hT;obtain⟨n,hn⟩:∃n,n=(Qi a).length:=⟨_,rfl⟩;have HN:=Hm hn;rw[<- hn]at HR;clear hm hf y ay q0 q1 q2 q3 q4 q5 f2 f3 f4 f5 hn;go_cut [4]from 10 (λs V'=>∃g v1 v2,s=Yp (some ⟨g,0,none⟩)/\Mo D w0 (box 265 7 g (mbk v1 v2 (N d.s.stack) false true E false)::⟨2,1,n,v2,I (Qi a)⟩::⟨2,1,n,v1,I (Qi a)⟩::T) V')
 case first=>
  clear hT
  go_region_held3 (λw'=>w'.cell? ⟨B,0,none⟩=some (U O 4)/\w'.cell? ⟨B,1,none⟩=some (U O a)/\w'.cell? ⟨p,2,none⟩=some (S sa (N d.s.stack) sc)/\w'.cell? ⟨p,5,none⟩=some (U O E))
   (first|with_reducible exact⟨k0,k1,k2,k3⟩|with_reducible exact SA.o|with_reducible exact⟨Qd k0,Qd k1,Qd k2,Qd k3⟩|with_reducible exact SS.o)
   (first
    | (
     go_at_call 186
     refine Rx (HR.o _) ?_
     rintro e w2 ⟨v1,rfl,ad,ax⟩;obtain⟨H,F,rfl⟩:=Qh ad
     first
      | (
       have z:Below X.drew.heap.size X.drew w2:=by with_reducible exact ax
       have a0:=Hm (H0.o.new (ns:=[⟨2,1,n,S H n F,I (Qi a)⟩]) z (Own.one ad));clear z;obtain⟨k0,k1,k2,k3⟩:=SF.o [_] w2 a0.o;have cm:=Hm (Mo.box (cur:=#[S none 0 0,S none 0 0,U O 0,G false,G false,U O 0,G false]) a0.o 265 7 rfl))
      | (
       have z:Below (X.alloc (Fc #[S none 0 0,S none 0 0,U O 0,G false,G false,U O 0,G false] 265)).drew.heap.size (X.alloc (Fc #[S none 0 0,S none 0 0,U O 0,G false,G false,U O 0,G false] 265)).drew w2:=by with_reducible exact ax
       have bh:=Hm (HA.o.new (ns:=[⟨2,1,n,S H n F,I (Qi a)⟩]) z (Own.one ad));clear z;obtain⟨k0,k1,k2,k3⟩:=SF.o [_,_] w2 bh.o)
     clear H0 HA ad ax)
    | (
     go_at_call 186
     refine Rx (HR.o _) ?_
     rintro e w3 ⟨v2,rfl,aa,af⟩;obtain⟨l,f,rfl⟩:=Qh aa
     first
      | (
       have aj:Below (w2.alloc (Fc #[S none 0 0,S none 0 0,U O 0,G false,G false,U O 0,G false] 265)).heap.size (w2.alloc (Fc #[S none 0 0,S none 0 0,U O 0,G false,G false,U O 0,G false] 265)) w3:=by with_reducible exact af
       have q:=Hm ((cm.o.new (ns:=[⟨2,1,n,S l n f,I (Qi a)⟩]) aj (Own.one aa)).perm swap2);clear aj;obtain⟨k0,k1,k2,k3⟩:=SF.o [_,_,_] w3 q.o;obtain⟨⟨z0,z1,z2,z3,z4,z5,z6⟩,y0,y1,y2,y3,y4,y5,y6⟩:=z7 q.o (mS ..);have bg:=Hm (put7m q.o rfl);have SS:=Hm (SF.o [_,_,_] _ (put7m q.o rfl (S H n F) (S l n f) (U O (N d.s.stack)) (G false) (G true) (U O E) (G false))))
      | (
       have q:=Hm (a0.o.new (ns:=[⟨2,1,n,S l n f,I (Qi a)⟩]) af (Own.one aa));obtain⟨k0,k1,k2,k3⟩:=SF.o [_,_] w3 q.o;have cl:=Hm (fun x0 x1 x2 x3 x4 x5 x6=>Mo.box (cur:=#[x0,x1,x2,x3,x4,x5,x6]) q.o 265 7 rfl))
      | (
       have q:=Hm ((bh.o.new (ns:=[⟨2,1,n,S l n f,I (Qi a)⟩]) af (Own.one aa)).perm swap1);obtain⟨k0,k1,k2,k3⟩:=SF.o [_,_,_] w3 q.o;obtain⟨⟨z0,z1,z2,z3,z4,z5,z6⟩,y0,y1,y2,y3,y4,y5,y6⟩:=z7 q.o (mS ..);have bg:=Hm (put7m q.o rfl);have SS:=Hm (SF.o [_,_,_] _ (put7m q.o rfl (S H n F) (S l n f) (U O (N d.s.stack)) (G false) (G true) (U O E) (G false))))
     clear HR aa af))
  all_goals
   go_wp2_with fail
   go_meet
   first
    |exact⟨_,_,_,rfl,cl.o _ _ _ _ _ _ _⟩
    |exact⟨_,_,_,rfl,bg.o _ _ _ _ _ _ _⟩
 obtain⟨g,v1,v2,rfl,y⟩:=hcut;rw[HT.o]at y;have hn:=HN.o;subst hn;obtain⟨H,F,a5⟩:=Qh (y.row (r:=⟨2,1,(Qi a).length,v1,I (Qi a)⟩) (by simp));obtain⟨l,f,a4⟩:=Qh (y.row (r:=⟨2,1,(Qi a).length,v2,I (Qi a)⟩) (by simp));dsimp only at a5 a4;subst a5 a4;obtain⟨⟨z0,z1,z2,z3,z4,z5,z6⟩,y0,y1,y2,y3,y4,y5,y6⟩:=z7 y (mS ..);have c0:=(SF.o [_,_,_] wc (by rw[HT.o];exact y)).1;go_upto_region 7 with fail
 obtain⟨i0,hi,b6,b5,b4⟩:=info_parts info265;obtain⟨KS,A⟩:∃KS:List Qc,KS=box 265 7 g (mbk (S H (Qi a).length F) (S l (Qi a).length f) (N d.s.stack) false true E false)::⟨2,1,(Qi a).length,S l (Qi a).length f,I (Qi a)⟩::⟨2,1,(Qi a).length,S H (Qi a).length F,I (Qi a)⟩::box 204 5 B (inC 4 a b v ll la lc)::ks:=⟨_,rfl⟩;have hm:Mo D w0 (mxR p lv nl (S sa (N d.s.stack) sc) (S R (N d.s.blocks) L) d.e E::stR d.s (S sa (N d.s.stack) sc)::mlR (N d.s.blocks) (S R (N d.s.blocks) L) C::KS) wc:=by
  rw[A];refine y.perm ?_;classical
  rw[Th];intro x;simp[Hd];omega
 have hf:Fl (MRep D w0 KS) d.s.blocks C:=HF.o.mono λb c ⟨tv,rv,x,e,t1,t2⟩=>⟨tv,rv,x,e,t1.sub λr hr=>by rw[A];exact mC (mC (mC hr)),t2.sub λr hr=>by rw[A];exact mC (mC (mC hr))⟩;have T2:Ty D w0 KS (S l (Qi a).length f) (Qi a):=.inr (by rw[A];simp);have T1:Ty D w0 KS (S H (Qi a).length F) (Qi a):=.inr (by rw[A];simp);obtain⟨⟨q0,q1,q2,q3,q4,q5⟩,f2,f3,f4,f5⟩:=Xj hm;have ah:wc.ownsRow D 265 7 (S R (N d.s.blocks) L) (N d.s.blocks) C:=hm.row (r:=mlR _ _ C) (by simp);have OW:=Hm ah;have b7:=hm.le;have HB:Hid (∀o,Below wc.heap.size wc ((wc.alloc o).drew)):=λo=>⟨rfl,rfl,rfl,by show wc.heap.size<=(wc.alloc o).heap.size;simp,λk hk=>QM wc o k hk⟩;have cg:Hid (∀V1 W' v',Below wc.heap.size wc V1->W'.ownsRow D 265 7 v' (N d.s.blocks+1) (C++mbk (S H (Qi a).length F) (S l (Qi a).length f) (N d.s.stack) false true E false)->V1.grownBy W' (Tq R (N d.s.blocks) L).ownBlock->(v'.ownBlock=(Tq R (N d.s.blocks) L).ownBlock\/v'.ownBlock=some V1.heap.size)->MSt D w0 p lv nl KS M (W'.setCell ⟨p,3,none⟩ v')/\W'.cell? ⟨p,3,none⟩=some (S R (N d.s.blocks) L)/\W'.frozen? ⟨p,3,none⟩=false):=λV1 W' v' hb ho hg hl=>by rw[cj.o];exact MSt.begun (b:=⟨4,Qi a,Qi a,N d.s.stack,false⟩) hm hf hb ho hg hl T1 T2
 have kd:∀o,(wc.alloc o).cell? ⟨p,3,none⟩=some (S R (N d.s.blocks) L):=λo=>Qd q3;have kz:∀o,(wc.alloc o).cell? ⟨g,0,none⟩=some (S H (Qi a).length F):=λo=>Qd z0;have ck:=Hm A;clear hm hf ah y A T1 T2 q0 q1 q2 q4 q5 f2 f3 f4 f5 HT SF HA H0 HR SA
 go_region_law (first
  | (
   refine Qt rfl (.tmp 39) (.tmp 41) 215 rfl D 265 i0 (Ag #[S none 0 0,S none 0 0,U O 0,G false,G false,U O 0,G false]) 7 80 underlying215 hi b6 b5 b4 rfl (by decide) (S R (N d.s.blocks) L) (N d.s.blocks) C (by first|rfl|simp[Lz,Lf]) (World.ownsRow.alloc OW.o _) ⟨wc.heap.size,0,none⟩ 1 1 (mbk (S H (Qi a).length F) (S l (Qi a).length f) (N d.s.stack) false true E false) (by first|rfl|simp[Lz,Lf]) (by first|rfl|simp) (Jn wc (mbk (S H (Qi a).length F) (S l (Qi a).length f) (N d.s.stack) false true E false) 265) (one7 rfl rfl) (by unfold maxLen;omega) (by omega) (Ky b7 (HB.o _).size) ?_
   intro v5 w5 Y bd ai
   have HQ:=Hm (cg.o _ w5 v5 (HB.o _) Y bd ai);have dh:=HQ.o.2.1;have dg:=HQ.o.2.2;obtain⟨db,da,rfl⟩:=Qh Y;clear Y bd ai))
 all_goals
  go_wp2_with fail
  go_end0
  have h9:=HQ.o.1;rw[ck.o]at h9
  exact⟨rfl,[_,_,_,_],h9⟩
theorem sstep_x:(∀⦃D:Nat⦄ ⦃w0:J⦄ ⦃p:Nat⦄ ⦃lv:Vu⦄ ⦃nl:Int⦄ ⦃ks:List Qc⦄ ⦃s:Fn⦄ ⦃V:J⦄ ⦃x:Ctx⦄ ⦃t:Ctv⦄ (a b v:Int) (d:List Int) (l:Option Addr) (k:Nat) (H:P7 D w0 p lv nl ks s V x t ⟨2,a,b,v,d⟩ l k) (f:Qq x frm s ⟨2,a,b,v,d⟩=0),SpC D w0 p lv nl ks s V x t ⟨2,a,b,v,d⟩ l k)/\(∀⦃D:Nat⦄ ⦃w0:J⦄ ⦃p:Nat⦄ ⦃lv:Vu⦄ ⦃nl:Int⦄ ⦃ks:List Qc⦄ ⦃s:Fn⦄ ⦃V:J⦄ ⦃x:Ctx⦄ ⦃t:Ctv⦄ (a b v:Int) (d:List Int) (l:Option Addr) (k:Nat) (H:P7 D w0 p lv nl ks s V x t ⟨3,a,b,v,d⟩ l k) (f:Qq x frm s ⟨3,a,b,v,d⟩=0),SpC D w0 p lv nl ks s V x t ⟨3,a,b,v,d⟩ l k)/\(∀⦃D:Nat⦄ ⦃w0:J⦄ ⦃p:Nat⦄ ⦃lv:Vu⦄ ⦃nl:Int⦄ ⦃ks:List Qc⦄ ⦃s:Fn⦄ ⦃V:J⦄ ⦃x:Ctx⦄ ⦃t:Ctv⦄ (a b v:Int) (d:List Int) (l:Option Addr) (k:Nat) (H:P7 D w0 p lv nl ks s V x t ⟨4,a,b,v,d⟩ l k) (f:Qq x frm s ⟨4,a,b,v,d⟩=0),SpC D w0 p lv nl ks s V x t ⟨4,a,b,v,d⟩ l k):=by
 refine⟨?c0,?c1,?c2⟩;case' c0=>have j:=0
 case' c1=>have g:=0
 case' c2=>have ab:=0
 all_goals
  intro D w0 p lv nl ks s V x t a b v d l k H f
  obtain⟨h,hx,ad,B,C,X,HK⟩:=H;unfold SpC
  first|(replace j:=j;obtain⟨A,z,L,I,F,E,Y,W,y,rfl,hW,hB,hI⟩:=JG 2 a b v d l k h hx)|(replace g:=g;obtain⟨A,z,L,I,F,E,Y,W,y,rfl,hW,hB,hI⟩:=JG 3 a b v d l k h hx)|(obtain⟨A,z,L,I,F,E,Y,W,y,rfl,hW,hB,hI⟩:=JG 4 a b v d l k h hx)
  have u:=Hm (HK hI (hx.sub (λr hr=>by simp[hr])));obtain⟨⟨d0,d1,d2,d3,d4⟩,c0,c1,c2,c3,c4,c5⟩:=MSt.ins (ns:=[]) hI
  first
  | (
   replace j:=j
   have HR:Hid (Qu x frm oty s ⟨2,a,b,v,d⟩=mopen ⟨s,0⟩ 2 (Qi a)):=by
    show Qu x frm oty s ⟨2,a,b,v,d⟩=_
    rw[Qu,if_neg (λc=>c f)]
    simp[Q7])
  | (
   replace g:=g
   have HR:Hid (Qu x frm oty s ⟨3,a,b,v,d⟩=mopen ⟨s,0⟩ 3 (Qi a)):=by
    show Qu x frm oty s ⟨3,a,b,v,d⟩=_
    rw[Qu,if_neg (λc=>c f)]
    simp[Q7])
  | (
   replace ab:=ab
   have HR:Hid (Qu x frm oty s ⟨4,a,b,v,d⟩=mopen ⟨s,0⟩ 4 (Qi a)):=by
    show Qu x frm oty s ⟨4,a,b,v,d⟩=_
    rw[Qu,if_neg (λc=>c f)]
    simp[Q7])
  rw[f]at u;have HX:=Hm (⟨hx,ad⟩:CtR D w0 x ⟨S A (N x.types) z,S L (N x.funcs) I,S F (N x.globals) E,Y⟩ ks/\LoM lv ks (QP s));clear h hx ad hI HK f
  go_enter func105,ntmps105
  go_upto_region 1 with fail
  rw[<- hW,<- hB];clear hW hB
  go_wp2_with fail
  refine u.o.mono ?_
  rintro e w1 ⟨rfl,ns,n⟩;have q9:=n.err
  dsimp only at q9
  clear u d0 d1 d2 d3 d4 c0 c1 c2 c3 c4 c5;obtain⟨⟨d0,d1,d2,d3,d4⟩,c0,c1,c2,c3,c4,c5⟩:=n.ins
  first|(replace j:=j;obtain⟨q,m⟩:∃q:List Qc,q=ns++(box 204 5 (y+1) (inC 2 a b v d l k)::box 66 6 y [S A (N x.types) z,S L (N x.funcs) I,S F (N x.globals) E,U O x.imports,U O x.tables,U O x.mems]::ks):=⟨_,rfl⟩)|(replace g:=g;obtain⟨q,m⟩:∃q:List Qc,q=ns++(box 204 5 (y+1) (inC 3 a b v d l k)::box 66 6 y [S A (N x.types) z,S L (N x.funcs) I,S F (N x.globals) E,U O x.imports,U O x.tables,U O x.mems]::ks):=⟨_,rfl⟩)|(obtain⟨q,m⟩:∃q:List Qc,q=ns++(box 204 5 (y+1) (inC 4 a b v d l k)::box 66 6 y [S A (N x.types) z,S L (N x.funcs) I,S F (N x.globals) E,U O x.imports,U O x.tables,U O x.mems]::ks):=⟨_,rfl⟩)
  replace n:MSt D w0 p lv nl q ⟨s,0⟩ w1:=by rw[m];exact n
  first|(replace j:=j;have ag:Hid (∀(m':MS) (W':J) (ns':List Qc),MSt D w0 p lv nl (ns'++q) m' W'->XW W' y 2 a b v d l k (S A (N x.types) z) (S L (N x.funcs) I) (S F (N x.globals) E) (U O x.imports) (U O x.tables) (U O x.mems)):=λm' W' ns' h=>by rw[m,<- Kw]at h;exact h.ins)|(replace g:=g;have ag:Hid (∀(m':MS) (W':J) (ns':List Qc),MSt D w0 p lv nl (ns'++q) m' W'->XW W' y 3 a b v d l k (S A (N x.types) z) (S L (N x.funcs) I) (S F (N x.globals) E) (U O x.imports) (U O x.tables) (U O x.mems)):=λm' W' ns' h=>by rw[m,<- Kw]at h;exact h.ins)|(have ag:Hid (∀(m':MS) (W':J) (ns':List Qc),MSt D w0 p lv nl (ns'++q) m' W'->XW W' y 4 a b v d l k (S A (N x.types) z) (S L (N x.funcs) I) (S F (N x.globals) E) (U O x.imports) (U O x.tables) (U O x.mems)):=λm' W' ns' h=>by rw[m,<- Kw]at h;exact h.ins)
  have ap:Hid (∃R,q=R++ks):=⟨ns++[_,_],by rw[m,Kw];rfl⟩;have a5:Hid (∀r∈ks,r∈q):=λr hr=>by rw[m];simp[hr]
  clear m
  first|(replace j:=j;have HC:=Hm (sopen_2 a b v d l k n B.inv X B.bl B.st))|(replace g:=g;have HC:=Hm (sopen_3 a b v d l k n B.inv X B.bl B.st))|(have HC:=Hm (sopen_4 a b v d l k n B.inv X B.bl B.st))
  clear n
  go_wp2_with fail
  refine HC.o.mono ?_
  rintro e w9 ⟨rfl,n9,ae⟩;clear HC;obtain⟨po,⟨r5,a2⟩,M⟩:=ae.pos;have ak:=Hm M;clear M ae
  go_wp2
  go_end0
  rw[HR.o];obtain⟨R,ac⟩:=ap.o
  exact⟨rfl,n9++R,by rw[Kw,<- ac];exact ak.o _⟩
def sstep_2:=sstep_x.1
def sstep_3:=sstep_x.2.1
def sstep_4:=sstep_x.2.2
theorem sstep_5 (a b v:Int)(k:List Int)(u:Option Addr)(q:Nat)(H:P7 D w0 p lv nl ks s V x t ⟨5,a,b,v,k⟩ u q)(f:Qq x frm s ⟨5,a,b,v,k⟩=0)  :SpC D w0 p lv nl ks s V x t ⟨5,a,b,v,k⟩ u q:=by
 obtain⟨h,F,A,B,C,z,HK⟩:=H;unfold SpC;obtain⟨L,I,fa,fc,X,R,Y,W,B_,rfl,hW,hB,M⟩:=JG 5 a b v k u q h F;have j:=Hm (HK M (F.sub (λr hr=>by simp[hr])));obtain⟨⟨d0,d1,d2,d3,d4⟩,c0,c1,c2,c3,c4,c5⟩:=MSt.ins (ns:=[]) M;have HR:Hid (Qu x frm oty s ⟨5,a,b,v,k⟩=Q9 ⟨s,0⟩ true):=by show Qu x frm oty s ⟨5,a,b,v,k⟩=_;rw[Qu,if_neg (λc=>c f)];simp[Q7]
 rw[f]at j;have HX:=Hm (⟨F,A⟩:CtR D w0 x ⟨S L (N x.types) I,S fa (N x.funcs) fc,S X (N x.globals) R,Y⟩ ks/\LoM lv ks (QP s));clear h F A M HK f;go_enter func105,ntmps105;go_upto_region 1 with fail
 rw[<- hW,<- hB];clear hW hB;go_wp2_with fail
 refine j.o.mono ?_;rintro e w1 ⟨rfl,ns,d⟩;have q9:=d.err;dsimp only at q9;clear j d0 d1 d2 d3 d4 c0 c1 c2 c3 c4 c5;obtain⟨⟨d0,d1,d2,d3,d4⟩,c0,c1,c2,c3,c4,c5⟩:=d.ins;obtain⟨n,g⟩:∃n:List Qc,n=ns++(box 204 5 (B_+1) (inC 5 a b v k u q)::box 66 6 B_ [S L (N x.types) I,S fa (N x.funcs) fc,S X (N x.globals) R,U O x.imports,U O x.tables,U O x.mems]::ks):=⟨_,rfl⟩;replace d:MSt D w0 p lv nl n ⟨s,0⟩ w1:=by rw[g];exact d
 have a5:Hid (∀(m':MS) (W':J) (ns':List Qc),MSt D w0 p lv nl (ns'++n) m' W'->XW W' B_ 5 a b v k u q (S L (N x.types) I) (S fa (N x.funcs) fc) (S X (N x.globals) R) (U O x.imports) (U O x.tables) (U O x.mems)):=λm' W' ns' h=>by rw[g,<- Kw]at h;exact h.ins
 have ad:Hid (∃m,n=m++ks):=⟨ns++[_,_],by rw[g,Kw];rfl⟩;have a3:Hid (∀r∈ks,r∈n):=λr hr=>by rw[g];simp[hr]
 clear g;have HC:=Hm (sclose_c true d B.inv z B.bl B.st (B.rl _ (top_mem z)));clear d;go_wp2_with fail
 refine HC.o.mono ?_;rintro e w9 ⟨rfl,n9,E⟩;clear HC;obtain⟨po,⟨r5,a0⟩,l⟩:=E.pos;have ac:=Hm l;clear l E;go_wp2;go_end0;rw[HR.o];obtain⟨m,y⟩:=ad.o;exact⟨rfl,n9++m,by rw[Kw,<- y];exact ac.o _⟩
theorem sstep_11 (a b v:Int)(k:List Int)(u:Option Addr)(q:Nat)(H:P7 D w0 p lv nl ks s V x t ⟨11,a,b,v,k⟩ u q)(f:Qq x frm s ⟨11,a,b,v,k⟩=0)  :SpC D w0 p lv nl ks s V x t ⟨11,a,b,v,k⟩ u q:=by
 obtain⟨h,F,A,B,C,z,HK⟩:=H;unfold SpC;obtain⟨L,I,fa,fc,X,R,Y,W,B_,rfl,hW,hB,M⟩:=JG 11 a b v k u q h F;have j:=Hm (HK M (F.sub (λr hr=>by simp[hr])));obtain⟨⟨d0,d1,d2,d3,d4⟩,c0,c1,c2,c3,c4,c5⟩:=MSt.ins (ns:=[]) M;have HR:Hid (Qu x frm oty s ⟨11,a,b,v,k⟩=Q9 ⟨s,0⟩ false):=by show Qu x frm oty s ⟨11,a,b,v,k⟩=_;rw[Qu,if_neg (λc=>c f)];simp[Q7]
 rw[f]at j;have HX:=Hm (⟨F,A⟩:CtR D w0 x ⟨S L (N x.types) I,S fa (N x.funcs) fc,S X (N x.globals) R,Y⟩ ks/\LoM lv ks (QP s));clear h F A M HK f;go_enter func105,ntmps105;go_upto_region 1 with fail
 rw[<- hW,<- hB];clear hW hB;go_wp2_with fail
 refine j.o.mono ?_;rintro e w1 ⟨rfl,ns,d⟩;have q9:=d.err;dsimp only at q9;clear j d0 d1 d2 d3 d4 c0 c1 c2 c3 c4 c5;obtain⟨⟨d0,d1,d2,d3,d4⟩,c0,c1,c2,c3,c4,c5⟩:=d.ins;obtain⟨n,g⟩:∃n:List Qc,n=ns++(box 204 5 (B_+1) (inC 11 a b v k u q)::box 66 6 B_ [S L (N x.types) I,S fa (N x.funcs) fc,S X (N x.globals) R,U O x.imports,U O x.tables,U O x.mems]::ks):=⟨_,rfl⟩;replace d:MSt D w0 p lv nl n ⟨s,0⟩ w1:=by rw[g];exact d
 have a5:Hid (∀(m':MS) (W':J) (ns':List Qc),MSt D w0 p lv nl (ns'++n) m' W'->XW W' B_ 11 a b v k u q (S L (N x.types) I) (S fa (N x.funcs) fc) (S X (N x.globals) R) (U O x.imports) (U O x.tables) (U O x.mems)):=λm' W' ns' h=>by rw[g,<- Kw]at h;exact h.ins
 have ad:Hid (∃m,n=m++ks):=⟨ns++[_,_],by rw[g,Kw];rfl⟩;have a3:Hid (∀r∈ks,r∈n):=λr hr=>by rw[g];simp[hr]
 clear g;have HC:=Hm (sclose_c false d B.inv z B.bl B.st (B.rl _ (top_mem z)));clear d;go_wp2_with fail
 refine HC.o.mono ?_;rintro e w9 ⟨rfl,n9,E⟩;clear HC;obtain⟨po,⟨r5,a0⟩,l⟩:=E.pos;have ac:=Hm l;clear l E;go_wp2;go_end0;rw[HR.o];obtain⟨m,y⟩:=ad.o;exact⟨rfl,n9++m,by rw[Kw,<- y];exact ac.o _⟩
theorem sstep_26 (a b v:Int)(k:List Int)(u:Option Addr)(q:Nat)(H:P7 D w0 p lv nl ks s V x t ⟨26,a,b,v,k⟩ u q)(f:Qq x frm s ⟨26,a,b,v,k⟩=0)  :SpC D w0 p lv nl ks s V x t ⟨26,a,b,v,k⟩ u q:=by
 obtain⟨h,E,z,B,C,L,HK⟩:=H;unfold SpC;obtain⟨I,F,fa,fc,X,R,Y,W,B_,rfl,hW,hB,M⟩:=JG 26 a b v k u q h E;have j:=Hm (HK M (E.sub (λr hr=>by simp[hr])));obtain⟨⟨d0,d1,d2,d3,d4⟩,c0,c1,c2,c3,c4,c5⟩:=MSt.ins (ns:=[]) M;have HR:Hid (Qu x frm oty s ⟨26,a,b,v,k⟩=(QC ⟨s,0⟩ 0).2):=by show Qu x frm oty s ⟨26,a,b,v,k⟩=_;rw[Qu,if_neg (λc=>c f)];simp[Q7]
 rw[f]at j;have HX:=Hm (⟨E,z⟩:CtR D w0 x ⟨S I (N x.types) F,S fa (N x.funcs) fc,S X (N x.globals) R,Y⟩ ks/\LoM lv ks (QP s));clear h E z M HK f;go_enter func105,ntmps105;go_upto_region 1 with fail
 rw[<- hW,<- hB];clear hW hB;go_wp2_with fail
 refine j.o.mono ?_;rintro e w1 ⟨rfl,ns,d⟩;have q9:=d.err;dsimp only at q9;clear j d0 d1 d2 d3 d4 c0 c1 c2 c3 c4 c5;obtain⟨⟨d0,d1,d2,d3,d4⟩,c0,c1,c2,c3,c4,c5⟩:=d.ins;obtain⟨n,g⟩:∃n:List Qc,n=ns++(box 204 5 (B_+1) (inC 26 a b v k u q)::box 66 6 B_ [S I (N x.types) F,S fa (N x.funcs) fc,S X (N x.globals) R,U O x.imports,U O x.tables,U O x.mems]::ks):=⟨_,rfl⟩;replace d:MSt D w0 p lv nl n ⟨s,0⟩ w1:=by rw[g];exact d
 have a4:Hid (∀(m':MS) (W':J) (ns':List Qc),MSt D w0 p lv nl (ns'++n) m' W'->XW W' B_ 26 a b v k u q (S I (N x.types) F) (S fa (N x.funcs) fc) (S X (N x.globals) R) (U O x.imports) (U O x.tables) (U O x.mems)):=λm' W' ns' h=>by rw[g,<- Kw]at h;exact h.ins
 have ad:Hid (∃m,n=m++ks):=⟨ns++[_,_],by rw[g,Kw];rfl⟩;have a2:Hid (∀r∈ks,r∈n):=λr hr=>by rw[g];simp[hr]
 clear g;have HC:=Hm (XD 0 d B.inv L B.bl B.st);clear d;go_wp2_with fail
 refine HC.o.mono ?_;rintro e w9 ⟨rfl,A⟩;clear HC;obtain⟨po,⟨r5,a0⟩,l⟩:=A.pos;have ac:=Hm l;clear l A;go_wp2;go_end0;rw[HR.o];obtain⟨m,y⟩:=ad.o;exact⟨rfl,m,by rw[<- y];exact ac.o _⟩
theorem sstep_27 (a b v:Int)(k:List Int)(u:Option Addr)(q:Nat)(H:P7 D w0 p lv nl ks s V x t ⟨27,a,b,v,k⟩ u q)(f:Qq x frm s ⟨27,a,b,v,k⟩=0)  :SpC D w0 p lv nl ks s V x t ⟨27,a,b,v,k⟩ u q:=by
 obtain⟨h,E,z,B,C,L,HK⟩:=H;unfold SpC;obtain⟨I,F,fa,fc,X,R,Y,W,B_,rfl,hW,hB,M⟩:=JG 27 a b v k u q h E;have j:=Hm (HK M (E.sub (λr hr=>by simp[hr])));obtain⟨⟨d0,d1,d2,d3,d4⟩,c0,c1,c2,c3,c4,c5⟩:=MSt.ins (ns:=[]) M;have HR:Hid (Qu x frm oty s ⟨27,a,b,v,k⟩=mselect ⟨s,0⟩):=by show Qu x frm oty s ⟨27,a,b,v,k⟩=_;rw[Qu,if_neg (λc=>c f)];simp[Q7]
 rw[f]at j;have HX:=Hm (⟨E,z⟩:CtR D w0 x ⟨S I (N x.types) F,S fa (N x.funcs) fc,S X (N x.globals) R,Y⟩ ks/\LoM lv ks (QP s));clear h E z M HK f;go_enter func105,ntmps105;go_upto_region 1 with fail
 rw[<- hW,<- hB];clear hW hB;go_wp2_with fail
 refine j.o.mono ?_;rintro e w1 ⟨rfl,ns,d⟩;have q9:=d.err;dsimp only at q9;clear j d0 d1 d2 d3 d4 c0 c1 c2 c3 c4 c5;obtain⟨⟨d0,d1,d2,d3,d4⟩,c0,c1,c2,c3,c4,c5⟩:=d.ins;obtain⟨n,g⟩:∃n:List Qc,n=ns++(box 204 5 (B_+1) (inC 27 a b v k u q)::box 66 6 B_ [S I (N x.types) F,S fa (N x.funcs) fc,S X (N x.globals) R,U O x.imports,U O x.tables,U O x.mems]::ks):=⟨_,rfl⟩;replace d:MSt D w0 p lv nl n ⟨s,0⟩ w1:=by rw[g];exact d
 have a4:Hid (∀(m':MS) (W':J) (ns':List Qc),MSt D w0 p lv nl (ns'++n) m' W'->XW W' B_ 27 a b v k u q (S I (N x.types) F) (S fa (N x.funcs) fc) (S X (N x.globals) R) (U O x.imports) (U O x.tables) (U O x.mems)):=λm' W' ns' h=>by rw[g,<- Kw]at h;exact h.ins
 have ad:Hid (∃m,n=m++ks):=⟨ns++[_,_],by rw[g,Kw];rfl⟩;have a2:Hid (∀r∈ks,r∈n):=λr hr=>by rw[g];simp[hr]
 clear g;have HC:=Hm (sselect_c d B.inv L B.bl B.st);clear d;go_wp2_with fail
 refine HC.o.mono ?_;rintro e w9 ⟨rfl,A⟩;clear HC;obtain⟨po,⟨r5,a0⟩,l⟩:=A.pos;have ac:=Hm l;clear l A;go_wp2;go_end0;rw[HR.o];obtain⟨m,y⟩:=ad.o;exact⟨rfl,m,by rw[<- y];exact ac.o _⟩
theorem sstep_14 (j:Nat)(b v:Int)(a:List Int)(q:Option Addr)(n:Nat)(H:P7 D w0 p lv nl ks s V x t ⟨14,(j:Int),b,v,a⟩ q n)(f:Qq x frm s ⟨14,(j:Int),b,v,a⟩=0)(hj:j<N s.blocks)(tL:Ty D w0 [] (S q (N a) n) a)(L:N a<=1048577)(M:∀i∈a,0<=i/\i<N s.blocks):SpC D w0 p lv nl ks s V x t ⟨14,(j:Int),b,v,a⟩ q n:=by
 obtain⟨h,E,z,B,C,a5,HK⟩:=H;unfold SpC;obtain⟨I,F,fa,fc,Y,X,aa,W,B_,rfl,hW,hB,R⟩:=JG 14 (j:Int) b v a q n h E;have k:=Hm (HK R (E.sub (λr hr=>by simp[hr])));obtain⟨⟨d0,d1,d2,d3,d4⟩,c0,c1,c2,c3,c4,c5⟩:=MSt.ins (ns:=[]) R;have HR:Hid (Qu x frm oty s ⟨14,(j:Int),b,v,a⟩=mtable ⟨s,0⟩ a j):=by show Qu x frm oty s ⟨14,(j:Int),b,v,a⟩=_;rw[Qu,if_neg (λc=>c f)];simp[Q7]
 rw[f]at k;have HX:=Hm (⟨E,z⟩:CtR D w0 x ⟨S I (N x.types) F,S fa (N x.funcs) fc,S Y (N x.globals) X,aa⟩ ks/\LoM lv ks (QP s));clear h E z R HK f;go_enter func105,ntmps105;go_upto_region 1 with fail
 rw[<- hW,<- hB];clear hW hB;go_wp2_with fail
 refine k.o.mono ?_;rintro e w1 ⟨rfl,ns,d⟩;have q9:=d.err;dsimp only at q9;clear k d0 d1 d2 d3 d4 c0 c1 c2 c3 c4 c5;obtain⟨⟨d0,d1,d2,d3,d4⟩,c0,c1,c2,c3,c4,c5⟩:=d.ins;obtain⟨u,g⟩:∃u:List Qc,u=ns++(box 204 5 (B_+1) (inC 14 (j:Int) b v a q n)::box 66 6 B_ [S I (N x.types) F,S fa (N x.funcs) fc,S Y (N x.globals) X,U O x.imports,U O x.tables,U O x.mems]::ks):=⟨_,rfl⟩;replace d:MSt D w0 p lv nl u ⟨s,0⟩ w1:=by rw[g];exact d
 have a9:Hid (∀(m':MS) (W':J) (ns':List Qc),MSt D w0 p lv nl (ns'++u) m' W'->XW W' B_ 14 (j:Int) b v a q n (S I (N x.types) F) (S fa (N x.funcs) fc) (S Y (N x.globals) X) (U O x.imports) (U O x.tables) (U O x.mems)):=λm' W' ns' h=>by rw[g,<- Kw]at h;exact h.ins
 have ae:Hid (∃m,u=m++ks):=⟨ns++[_,_],by rw[g,Kw];rfl⟩;have a7:Hid (∀r∈ks,r∈u):=λr hr=>by rw[g];simp[hr]
 clear g;have HC:=Hm (stable_c j b v a q n d B.inv hj B.bl B.st B.tl tL L M);clear d;go_wp2_with fail
 refine HC.o.mono ?_;rintro e w9 ⟨rfl,n9,A⟩;clear HC;obtain⟨po,⟨r5,a2⟩,l⟩:=A.pos;have ad:=Hm l;clear l A;go_wp2;go_end0;rw[HR.o];obtain⟨m,y⟩:=ae.o;exact⟨rfl,n9++m,by rw[Kw,<- y];exact ad.o _⟩
theorem sstep_12 (j:Nat)(b v:Int)(n:List Int)(R:Option Addr)(M:Nat)(H:P7 D w0 p lv nl ks s V x t ⟨12,(j:Int),b,v,n⟩ R M)(d:Qq x frm s ⟨12,(j:Int),b,v,n⟩=0)(hj:j<N s.blocks):SpC D w0 p lv nl ks s V x t ⟨12,(j:Int),b,v,n⟩ R M:=by
 obtain⟨h,hx,ac,B,C,Y,HK⟩:=H;unfold SpC;obtain⟨ta,tc,fa,fc,ga,gc,az,W,B_,rfl,hW,hB,hI⟩:=JG 12 (j:Int) b v n R M h hx;have l:=Hm (HK hI (hx.sub (λr hr=>by simp[hr])));obtain⟨⟨d0,d1,d2,d3,d4⟩,c0,c1,c2,c3,c4,c5⟩:=MSt.ins (ns:=[]) hI;have HR:Hid (Qu x frm oty s ⟨12,(j:Int),b,v,n⟩=mdie (Qr ⟨s,0⟩ (label s (j:Int)).takes)):=by show Qu x frm oty s ⟨12,(j:Int),b,v,n⟩=_;rw[Qu,if_neg (λc=>c d)];simp[Q7]
 rw[d]at l;have HX:=Hm (⟨hx,ac⟩:CtR D w0 x ⟨S ta (N x.types) tc,S fa (N x.funcs) fc,S ga (N x.globals) gc,az⟩ ks/\LoM lv ks (QP s));clear h hx ac hI HK d;go_enter func105,ntmps105;go_upto_region 1 with fail
 rw[<- hW,<- hB];clear hW hB;go_wp2_with fail
 refine l.o.mono ?_;rintro e w1 ⟨rfl,ns,a⟩;have q9:=a.err;dsimp only at q9;clear l d0 d1 d2 d3 d4 c0 c1 c2 c3 c4 c5;obtain⟨⟨d0,d1,d2,d3,d4⟩,c0,c1,c2,c3,c4,c5⟩:=a.ins;obtain⟨L,f⟩:∃L:List Qc,L=ns++(box 204 5 (B_+1) (inC 12 (j:Int) b v n R M)::box 66 6 B_ [S ta (N x.types) tc,S fa (N x.funcs) fc,S ga (N x.globals) gc,U O x.imports,U O x.tables,U O x.mems]::ks):=⟨_,rfl⟩;replace a:MSt D w0 p lv nl L ⟨s,0⟩ w1:=by rw[f];exact a
 have b9:Hid (∀(m':MS) (W':J) (ns':List Qc),MSt D w0 p lv nl (ns'++L) m' W'->XW W' B_ 12 (j:Int) b v n R M (S ta (N x.types) tc) (S fa (N x.funcs) fc) (S ga (N x.globals) gc) (U O x.imports) (U O x.tables) (U O x.mems)):=λm' W' ns' h=>by rw[f,<- Kw]at h;exact h.ins
 have a5:Hid (∃u,L=u++ks):=⟨ns++[_,_],by rw[f,Kw];rfl⟩;have b8:Hid (∀r∈ks,r∈L):=λr hr=>by rw[f];simp[hr]
 clear f;obtain⟨m,z⟩:∃m,m=(label s (j:Int)).takes:=⟨_,rfl⟩;have ba:N m<=1048576:=by rw[z];exact B.tl _ (Xb hj)
 have A:=B.bl;have au:=B.st;have ag:Hid (m=(label (⟨s,0⟩:MS).s (j:Int)).takes):=z;have av:j<(⟨s,0⟩:MS).s.blocks.length:=hj;have b6:(⟨s,0⟩:MS).s.blocks.length<=1048577:=A;obtain⟨g,k,c,b3,hk,e3,dt,t1⟩:=a.lab av;rw[<- ag.o]at t1;obtain⟨xa,xc,rfl,_⟩:=t1.ms a;have F:=Hm (slabel_c p g k c (j:Int) w1 e3 (by omega) (by omega) (by omega));have ej:(k-(j:Int).toNat)*7=(k-j)*7:=by simp
 rw[ej]at F;have a2:=Hm t1;have ah:=Hm a;clear a t1 ej;go_wp2_with fail
 refine F.o.mono ?_;rintro e w2 ⟨rfl,n1,rfl⟩;obtain⟨w3,y⟩:∃w3,w3=w1.drewN n1:=⟨_,rfl⟩;have I:=Hm (ah.o.drewN n1);have b7:w3.cell? ⟨g,(k-j)*7,none⟩=some (S xa (N m) xc):=by rw[y];exact dt
 rw[<- y]at I⊢;clear y dt e3 ah F;have E:=Hm (J9 _ m I.o a2.o B.inv Y A au (by omega));have pk:=JH ⟨s,0⟩ m;have i4:=pk.iv B.inv;have aa:(Qr ⟨s,0⟩ m).s.blocks≠[]:=by rw[pk.bl];exact Y
 have ad:(Qr ⟨s,0⟩ m).s.blocks.length<=1048577:=by rw[pk.bl];exact A
 rw[<- ag.o]at HR;obtain⟨m4,ab⟩:∃m4,m4=Qr ⟨s,0⟩ m:=⟨_,rfl⟩;rw[<- ab]at E i4 aa ad HR;clear I pk ab z;go_wp2_with fail
 refine E.o.mono ?_;rintro e w4 ⟨rfl,af⟩;have HD:=Hm (sdead_c af i4 aa ad);clear af E;go_wp2_with fail
 refine HD.o.mono ?_;rintro e w9 ⟨rfl,ae⟩;clear HD;obtain⟨po,⟨r5,b4⟩,q⟩:=ae.pos;have a3:=Hm q;clear q ae;go_wp2;go_end0;rw[HR.o];obtain⟨u,X⟩:=a5.o;exact⟨rfl,u,by rw[<- X];exact a3.o _⟩
theorem sstep_13 (j:Nat)(b v:Int)(y:List Int)(la:Option Addr)(lc:Nat)(H:P7 D w0 p lv nl ks s V x t ⟨13,(j:Int),b,v,y⟩ la lc)(f:Qq x frm s ⟨13,(j:Int),b,v,y⟩=0)(hj:j<N s.blocks):SpC D w0 p lv nl ks s V x t ⟨13,(j:Int),b,v,y⟩ la lc:=by
 obtain⟨h,hx,ao,B,C,aj,HK⟩:=H;unfold SpC;obtain⟨ta,tc,fa,fc,ga,gc,bn,W,B_,rfl,hW,hB,hI⟩:=JG 13 (j:Int) b v y la lc h hx;have n:=Hm (HK hI (hx.sub (λr hr=>by simp[hr])));obtain⟨⟨d0,d1,d2,d3,d4⟩,c0,c1,c2,c3,c4,c5⟩:=MSt.ins (ns:=[]) hI;have HR:Hid (Qu x frm oty s ⟨13,(j:Int),b,v,y⟩=Xa (Qr (QC ⟨s,0⟩ 127).2 (label s (j:Int)).takes) (label s (j:Int)).takes):=by show Qu x frm oty s ⟨13,(j:Int),b,v,y⟩=_;rw[Qu,if_neg (λc=>c f)];simp[Q7,QU,mapp,mpopAll_127]
 rw[f]at n;have HX:=Hm (⟨hx,ao⟩:CtR D w0 x ⟨S ta (N x.types) tc,S fa (N x.funcs) fc,S ga (N x.globals) gc,bn⟩ ks/\LoM lv ks (QP s));clear h hx ao hI HK f;go_enter func105,ntmps105;go_upto_region 1 with fail
 rw[<- hW,<- hB];clear hW hB;go_wp2_with fail
 refine n.o.mono ?_;rintro e w1 ⟨rfl,ns,a⟩;have q9:=a.err;dsimp only at q9;clear n d0 d1 d2 d3 d4 c0 c1 c2 c3 c4 c5;obtain⟨⟨d0,d1,d2,d3,d4⟩,c0,c1,c2,c3,c4,c5⟩:=a.ins;obtain⟨KS,l⟩:∃KS:List Qc,KS=ns++(box 204 5 (B_+1) (inC 13 (j:Int) b v y la lc)::box 66 6 B_ [S ta (N x.types) tc,S fa (N x.funcs) fc,S ga (N x.globals) gc,U O x.imports,U O x.tables,U O x.mems]::ks):=⟨_,rfl⟩;replace a:MSt D w0 p lv nl KS ⟨s,0⟩ w1:=by rw[l];exact a
 have bs:Hid (∀(m':MS) (W':J) (ns':List Qc),MSt D w0 p lv nl (ns'++KS) m' W'->XW W' B_ 13 (j:Int) b v y la lc (S ta (N x.types) tc) (S fa (N x.funcs) fc) (S ga (N x.globals) gc) (U O x.imports) (U O x.tables) (U O x.mems)):=λm' W' ns' h=>by rw[l,<- Kw]at h;exact h.ins
 have br:Hid (∃A,KS=A++ks):=⟨ns++[_,_],by rw[l,Kw];rfl⟩;have cj:Hid (∀r∈ks,r∈KS):=λr hr=>by rw[l];simp[hr]
 clear l;obtain⟨d,u⟩:∃d,d=(label s (j:Int)).takes:=⟨_,rfl⟩;have b2:N d<=1048576:=by rw[u];exact B.tl _ (Xb hj)
 have ap:=B.bl;have af:=B.st;have HP:=Hm (XD 127 a B.inv aj ap af);have q:=XK ⟨s,0⟩ 127;have i1:=q.iv B.inv;have I:(QC ⟨s,0⟩ 127).2.s.blocks≠[]:=by rw[q.bl];exact aj
 have M:(QC ⟨s,0⟩ 127).2.s.blocks.length<=1048577:=by rw[q.bl];exact ap
 have F:(QC ⟨s,0⟩ 127).2.s.stack.length<=1099511627776:=Ky q.ln af;have L:j<(QC ⟨s,0⟩ 127).2.s.blocks.length:=by rw[q.bl];exact hj
 have X:Hid (d=(label (QC ⟨s,0⟩ 127).2.s (j:Int)).takes):=by show d=_;rw[u,q.label]
 rw[<- u]at HR;obtain⟨r1,ah⟩:∃r,r=QC ⟨s,0⟩ 127:=⟨_,rfl⟩;rw[<- ah]at HP i1 I M F L X HR;obtain⟨z1,m1⟩:=r1;dsimp only at HP i1 I M F L X HR;clear ah q a u;go_wp2_with fail
 refine HP.o.mono ?_;rintro e wa ⟨rfl,m⟩;clear HP d0 d1 d2 d3 d4 c0 c1 c2 c3 c4 c5 q9;obtain⟨⟨d0,d1,d2,d3,d4⟩,c0,c1,c2,c3,c4,c5⟩:=bs.o m1 wa [] m;obtain⟨g,k,c,cf,hk,e3,dt,t1⟩:=m.lab L;rw[<- X.o]at t1;obtain⟨xa,xc,rfl,_⟩:=t1.ms m;have aa:=Hm (slabel_c p g k c (j:Int) wa e3 (by omega) (by omega) (by omega));have ej:(k-(j:Int).toNat)*7=(k-j)*7:=by simp
 rw[ej]at aa;have ar:=Hm t1;have av:=Hm m;clear m t1 ej;go_wp2_with fail
 refine aa.o.mono ?_;rintro e w2 ⟨rfl,n1,rfl⟩;obtain⟨w3,E⟩:∃w3,w3=wa.drewN n1:=⟨_,rfl⟩;have ab:=Hm (av.o.drewN n1);have ci:w3.cell? ⟨g,(k-j)*7,none⟩=some (S xa (N d) xc):=by rw[E];exact dt
 rw[<- E]at ab⊢;clear E dt e3 av aa;have Y:=Hm (J9 _ d ab.o ar.o i1 I M F (by omega));have q:=JH m1 d;have ag:(Qr m1 d).s.stack.length<=2199023255552:=Ky q.ln (by omega);obtain⟨m4,ak⟩:∃m4,m4=Qr m1 d:=⟨_,rfl⟩;rw[<- ak]at Y ag HR;clear ab q ak;go_wp2_with fail
 refine Y.o.mono ?_;rintro e w4 ⟨rfl,R⟩;obtain⟨cd,cc,e,hh⟩:=ar.o.ms R;cases e;have HD:=Hm (XI xa xc d R hh (by omega) ag);clear R Y hh;go_wp2_with fail
 refine HD.o.mono ?_;rintro e w9 ⟨rfl,aq⟩;clear HD;obtain⟨po,⟨r5,cg⟩,z⟩:=aq.pos;have bq:=Hm z;clear z aq;go_wp2;go_end0;rw[HR.o];obtain⟨A,ai⟩:=br.o;exact⟨rfl,A,by rw[<- ai];exact bq.o _⟩
theorem sstep_15 (a b v:Int)(u:List Int)(L:Option Addr)(I:Nat)(H:P7 D w0 p lv nl ks s V x t ⟨15,a,b,v,u⟩ L I)(f:Qq x frm s ⟨15,a,b,v,u⟩=0)  :SpC D w0 p lv nl ks s V x t ⟨15,a,b,v,u⟩ L I:=by
 obtain⟨h,hx,Y,B,C,q,HK⟩:=H;unfold SpC;obtain⟨ta,tc,fa,fc,ga,gc,ap,W,B_,rfl,hW,hB,hI⟩:=JG 15 a b v u L I h hx;have k:=Hm (HK hI (hx.sub (λr hr=>by simp[hr])));obtain⟨⟨d0,d1,d2,d3,d4⟩,c0,c1,c2,c3,c4,c5⟩:=MSt.ins (ns:=[]) hI;have HR:Hid (Qu x frm oty s ⟨15,a,b,v,u⟩=mdie (Qr ⟨s,0⟩ (s.blocks.headD ⟨0,[],[],0,false⟩).results)):=by show Qu x frm oty s ⟨15,a,b,v,u⟩=_;rw[Qu,if_neg (λc=>c f)];simp[Q7]
 rw[f]at k;have HX:=Hm (⟨hx,Y⟩:CtR D w0 x ⟨S ta (N x.types) tc,S fa (N x.funcs) fc,S ga (N x.globals) gc,ap⟩ ks/\LoM lv ks (QP s));clear h hx Y hI HK f;go_enter func105,ntmps105;go_upto_region 1 with fail
 rw[<- hW,<- hB];clear hW hB;go_wp2_with fail
 refine k.o.mono ?_;rintro e w1 ⟨rfl,ns,d⟩;have q9:=d.err;dsimp only at q9;clear k d0 d1 d2 d3 d4 c0 c1 c2 c3 c4 c5;obtain⟨⟨d0,d1,d2,d3,d4⟩,c0,c1,c2,c3,c4,c5⟩:=d.ins;obtain⟨A,j⟩:∃A:List Qc,A=ns++(box 204 5 (B_+1) (inC 15 a b v u L I)::box 66 6 B_ [S ta (N x.types) tc,S fa (N x.funcs) fc,S ga (N x.globals) gc,U O x.imports,U O x.tables,U O x.mems]::ks):=⟨_,rfl⟩;replace d:MSt D w0 p lv nl A ⟨s,0⟩ w1:=by rw[j];exact d
 have bp:Hid (∀(m':MS) (W':J) (ns':List Qc),MSt D w0 p lv nl (ns'++A) m' W'->XW W' B_ 15 a b v u L I (S ta (N x.types) tc) (S fa (N x.funcs) fc) (S ga (N x.globals) gc) (U O x.imports) (U O x.tables) (U O x.mems)):=λm' W' ns' h=>by rw[j,<- Kw]at h;exact h.ins
 have aw:Hid (∃z,A=z++ks):=⟨ns++[_,_],by rw[j,Kw];rfl⟩;have bo:Hid (∀r∈ks,r∈A):=λr hr=>by rw[j];simp[hr]
 clear j;have aa:=B.bl;have ai:=B.st;obtain⟨g,n,c,rv,e3,dr,F⟩:=d.hd q;obtain⟨l,m⟩:∃l,l=(s.blocks.headD ⟨0,[],[],0,false⟩).results:=⟨_,rfl⟩;have a0:N l<=1048576:=by
  rw[m];cases hb:s.blocks with
  |nil=>exact absurd hb q
  |cons b bs=>exact B.rl b (by rw[hb];simp)
 replace F:Ty D w0 A rv l:=by rw[m];exact F
 obtain⟨xa,xc,rfl,_⟩:=F.ms d;have E:=Hm (J9 _ l d F B.inv q aa ai (by omega));have pk:=JH ⟨s,0⟩ l;have i4:=pk.iv B.inv;have R:(Qr ⟨s,0⟩ l).s.blocks≠[]:=by rw[pk.bl];exact q
 have ab:(Qr ⟨s,0⟩ l).s.blocks.length<=1048577:=by rw[pk.bl];exact aa
 rw[<- m]at HR;obtain⟨m4,X⟩:∃m4,m4=Qr ⟨s,0⟩ l:=⟨_,rfl⟩;rw[<- X]at E i4 R ab HR;have i5:(0:Int)<((n+1:Nat):Int):=by omega
 clear d pk X m F;go_wp2_with fail
 refine E.o.mono ?_;rintro e w4 ⟨rfl,ad⟩;have HD:=Hm (sdead_c ad i4 R ab);clear ad E;go_wp2_with fail
 refine HD.o.mono ?_;rintro e w9 ⟨rfl,ac⟩;clear HD;obtain⟨po,⟨r5,bm⟩,y⟩:=ac.pos;have au:=Hm y;clear y ac;go_wp2;go_end0;rw[HR.o];obtain⟨z,M⟩:=aw.o;exact⟨rfl,z,by rw[<- M];exact au.o _⟩
theorem sstep_32 (a b v:Int)(l:List Int)(I:Option Addr)(F:Nat)(H:P7 D w0 p lv nl ks s V x t ⟨32,a,b,v,l⟩ I F)(f:Qq x frm s ⟨32,a,b,v,l⟩=0)(aa:0<=a)(ag:a<=4294967295):SpC D w0 p lv nl ks s V x t ⟨32,a,b,v,l⟩ I F:=by
 obtain⟨h,hx,M,B,C,bf,HK⟩:=H;unfold SpC;obtain⟨ta,tc,fa,fc,ga,gc,ak,W,B_,rfl,hW,hB,hI⟩:=JG 32 a b v l I F h hx;have k:=Hm (HK hI (hx.sub (λr hr=>by simp[hr])));obtain⟨⟨d0,d1,d2,d3,d4⟩,c0,c1,c2,c3,c4,c5⟩:=MSt.ins (ns:=[]) hI;have HR:Hid (Qu x frm oty s ⟨32,a,b,v,l⟩=Xa ⟨s,0⟩ [loc s a]):=by show Qu x frm oty s ⟨32,a,b,v,l⟩=_;rw[Qu,if_neg (λc=>c f)];simp[Q7,QU,mapp,Qr,JP]
 rw[f]at k;have HX:=Hm (⟨hx,M⟩:CtR D w0 x ⟨S ta (N x.types) tc,S fa (N x.funcs) fc,S ga (N x.globals) gc,ak⟩ ks/\LoM lv ks (QP s));clear h hx M hI HK f;go_enter func105,ntmps105;go_upto_region 1 with fail
 rw[<- hW,<- hB];clear hW hB;go_wp2_with fail
 refine k.o.mono ?_;rintro e u ⟨rfl,ns,d⟩;have q9:=d.err;dsimp only at q9;clear k d0 d1 d2 d3 d4 c0 c1 c2 c3 c4 c5;obtain⟨⟨d0,d1,d2,d3,d4⟩,c0,c1,c2,c3,c4,c5⟩:=d.ins;obtain⟨A,j⟩:∃A:List Qc,A=ns++(box 204 5 (B_+1) (inC 32 a b v l I F)::box 66 6 B_ [S ta (N x.types) tc,S fa (N x.funcs) fc,S ga (N x.globals) gc,U O x.imports,U O x.tables,U O x.mems]::ks):=⟨_,rfl⟩;replace d:MSt D w0 p lv nl A ⟨s,0⟩ u:=by rw[j];exact d
 have bm:Hid (∀(m':MS) (W':J) (ns':List Qc),MSt D w0 p lv nl (ns'++A) m' W'->XW W' B_ 32 a b v l I F (S ta (N x.types) tc) (S fa (N x.funcs) fc) (S ga (N x.globals) gc) (U O x.imports) (U O x.tables) (U O x.mems)):=λm' W' ns' h=>by rw[j,<- Kw]at h;exact h.ins
 have au:Hid (∃y,A=y++ks):=⟨ns++[_,_],by rw[j,Kw];rfl⟩;have ar:Hid (∀r∈ks,r∈A):=λr hr=>by rw[j];simp[hr]
 clear j;have bh:=B.bl;have bd:=B.st;have R:∀g∈QP s,0<=g.n:=λg Y=>by
  rcases List.mem_append.1 Y with Y|Y
  . obtain⟨q,_,rfl⟩:=List.mem_map.1 Y;show(0:Int)<=1;omega
  exact B.nn g Y
 have X:(QP s).length<=2097154:=by have:=B.pl;have:=B.gl;simp[QP];omega
 have E:=Hm (slocal_c a (QP s) d (ar.o _ HX.o.2) aa ag R X);obtain⟨lt,z⟩:∃lt,lt=loc s a:=⟨_,rfl⟩;rw[loc_eq s a aa,<- z]at E;rw[<- z]at HR;clear z R X;go_wp2_with fail
 refine E.o.mono ?_;rintro e w2 ⟨rfl,rfl⟩;clear E;have ac:Hid (Ec Q 151 #[Yp (some ⟨p,0,none⟩),S (some ⟨u.heap.size,0,none⟩) 1 1] (u.alloc (Fc #[U O lt] 2)) λe w'=>e=Z (.tuple #[])/\MSt D w0 p lv nl A (Xa ⟨s,0⟩ [lt]) w'):=by
  have hh:Has (u.alloc (Fc #[U O lt] 2)) (some ⟨u.heap.size,0,none⟩) [lt]:=.inr ⟨u.heap.size,0,rfl,fun i hi=>by
   have:i=0:=by simp at hi;omega
   subst this
   exact Qf rfl rfl⟩
  exact XI (some ⟨u.heap.size,0,none⟩) 1 [lt] (d.keep (bFz.alloc lRz _)) hh (by simp) (by show(N s.stack)<=_;omega)
 clear d;go_wp2_with fail
 refine ac.o.mono ?_;rintro e w9 ⟨rfl,ab⟩;clear ac;obtain⟨po,⟨r5,bb⟩,m⟩:=ab.pos;have aq:=Hm m;clear m ab;go_wp2;go_end0;rw[HR.o];obtain⟨y,L⟩:=au.o;exact⟨rfl,y,by rw[<- L];exact aq.o _⟩
theorem sstep_33 (a b v:Int)(l:List Int)(F:Option Addr)(E:Nat)(H:P7 D w0 p lv nl ks s V x t ⟨33,a,b,v,l⟩ F E)(f:Qq x frm s ⟨33,a,b,v,l⟩=0)(Y:0<=a)(ah:a<=4294967295):SpC D w0 p lv nl ks s V x t ⟨33,a,b,v,l⟩ F E:=by
 obtain⟨h,hx,L,B,C,af,HK⟩:=H;unfold SpC;obtain⟨ta,tc,fa,fc,ga,gc,ao,W,B_,rfl,hW,hB,hI⟩:=JG 33 a b v l F E h hx;have k:=Hm (HK hI (hx.sub (λr hr=>by simp[hr])));obtain⟨⟨d0,d1,d2,d3,d4⟩,c0,c1,c2,c3,c4,c5⟩:=MSt.ins (ns:=[]) hI;have HR:Hid (Qu x frm oty s ⟨33,a,b,v,l⟩=(QC ⟨s,0⟩ (loc s a)).2):=by show Qu x frm oty s ⟨33,a,b,v,l⟩=_;rw[Qu,if_neg (λc=>c f)];simp[Q7,QU,mapp,Qr,JP,mpush_nil]
 rw[f]at k;have HX:=Hm (⟨hx,L⟩:CtR D w0 x ⟨S ta (N x.types) tc,S fa (N x.funcs) fc,S ga (N x.globals) gc,ao⟩ ks/\LoM lv ks (QP s));clear h hx L hI HK f;go_enter func105,ntmps105;go_upto_region 1 with fail
 rw[<- hW,<- hB];clear hW hB;go_wp2_with fail
 refine k.o.mono ?_;rintro e w1 ⟨rfl,ns,d⟩;have q9:=d.err;dsimp only at q9;clear k d0 d1 d2 d3 d4 c0 c1 c2 c3 c4 c5;obtain⟨⟨d0,d1,d2,d3,d4⟩,c0,c1,c2,c3,c4,c5⟩:=d.ins;obtain⟨A,j⟩:∃A:List Qc,A=ns++(box 204 5 (B_+1) (inC 33 a b v l F E)::box 66 6 B_ [S ta (N x.types) tc,S fa (N x.funcs) fc,S ga (N x.globals) gc,U O x.imports,U O x.tables,U O x.mems]::ks):=⟨_,rfl⟩;replace d:MSt D w0 p lv nl A ⟨s,0⟩ w1:=by rw[j];exact d
 have bj:Hid (∀(m':MS) (W':J) (ns':List Qc),MSt D w0 p lv nl (ns'++A) m' W'->XW W' B_ 33 a b v l F E (S ta (N x.types) tc) (S fa (N x.funcs) fc) (S ga (N x.globals) gc) (U O x.imports) (U O x.tables) (U O x.mems)):=λm' W' ns' h=>by rw[j,<- Kw]at h;exact h.ins
 have av:Hid (∃u,A=u++ks):=⟨ns++[_,_],by rw[j,Kw];rfl⟩;have au:Hid (∀r∈ks,r∈A):=λr hr=>by rw[j];simp[hr]
 clear j;have ag:=B.bl;have ae:=B.st;have M:∀g∈QP s,0<=g.n:=λg X=>by
  rcases List.mem_append.1 X with X|X
  . obtain⟨q,_,rfl⟩:=List.mem_map.1 X;show(0:Int)<=1;omega
  exact B.nn g X
 have R:(QP s).length<=2097154:=by have:=B.pl;have:=B.gl;simp[QP];omega
 have z:=Hm (slocal_c a (QP s) d (au.o _ HX.o.2) Y ah M R);obtain⟨lt,y⟩:∃lt,lt=loc s a:=⟨_,rfl⟩;rw[loc_eq s a Y,<- y]at z;rw[<- y]at HR;clear y M R;have HP:=Hm (XD lt d B.inv af ag ae);clear d;go_wp2_with fail
 refine z.o.mono ?_;rintro e w2 ⟨rfl,rfl⟩;clear z;go_wp2_with fail
 refine HP.o.mono ?_;rintro e w9 ⟨rfl,aa⟩;clear HP;obtain⟨po,⟨r5,bf⟩,m⟩:=aa.pos;have ar:=Hm m;clear m aa;go_wp2;go_end0;rw[HR.o];obtain⟨u,I⟩:=av.o;exact⟨rfl,u,by rw[<- I];exact ar.o _⟩
theorem sstep_34 (a b v:Int)(l:List Int)(L:Option Addr)(I:Nat)(H:P7 D w0 p lv nl ks s V x t ⟨34,a,b,v,l⟩ L I)(f:Qq x frm s ⟨34,a,b,v,l⟩=0)(ac:0<=a)(ar:a<=4294967295):SpC D w0 p lv nl ks s V x t ⟨34,a,b,v,l⟩ L I:=by
 obtain⟨h,hx,X,B,C,ap,HK⟩:=H;unfold SpC;obtain⟨ta,tc,fa,fc,ga,gc,ax,W,B_,rfl,hW,hB,hI⟩:=JG 34 a b v l L I h hx;have k:=Hm (HK hI (hx.sub (λr hr=>by simp[hr])));obtain⟨⟨d0,d1,d2,d3,d4⟩,c0,c1,c2,c3,c4,c5⟩:=MSt.ins (ns:=[]) hI;have HR:Hid (Qu x frm oty s ⟨34,a,b,v,l⟩=Xa (QC ⟨s,0⟩ (loc s a)).2 [loc s a]):=by show Qu x frm oty s ⟨34,a,b,v,l⟩=_;rw[Qu,if_neg (λc=>c f)];simp[Q7,QU,mapp,Qr,JP]
 rw[f]at k;have HX:=Hm (⟨hx,X⟩:CtR D w0 x ⟨S ta (N x.types) tc,S fa (N x.funcs) fc,S ga (N x.globals) gc,ax⟩ ks/\LoM lv ks (QP s));clear h hx X hI HK f;go_enter func105,ntmps105;go_upto_region 1 with fail
 rw[<- hW,<- hB];clear hW hB;go_wp2_with fail
 refine k.o.mono ?_;rintro e w1 ⟨rfl,ns,d⟩;have q9:=d.err;dsimp only at q9;clear k d0 d1 d2 d3 d4 c0 c1 c2 c3 c4 c5;obtain⟨⟨d0,d1,d2,d3,d4⟩,c0,c1,c2,c3,c4,c5⟩:=d.ins;obtain⟨A,j⟩:∃A:List Qc,A=ns++(box 204 5 (B_+1) (inC 34 a b v l L I)::box 66 6 B_ [S ta (N x.types) tc,S fa (N x.funcs) fc,S ga (N x.globals) gc,U O x.imports,U O x.tables,U O x.mems]::ks):=⟨_,rfl⟩;replace d:MSt D w0 p lv nl A ⟨s,0⟩ w1:=by rw[j];exact d
 have bu:Hid (∀(m':MS) (W':J) (ns':List Qc),MSt D w0 p lv nl (ns'++A) m' W'->XW W' B_ 34 a b v l L I (S ta (N x.types) tc) (S fa (N x.funcs) fc) (S ga (N x.globals) gc) (U O x.imports) (U O x.tables) (U O x.mems)):=λm' W' ns' h=>by rw[j,<- Kw]at h;exact h.ins
 have a2:Hid (∃u,A=u++ks):=⟨ns++[_,_],by rw[j,Kw];rfl⟩;have a1:Hid (∀r∈ks,r∈A):=λr hr=>by rw[j];simp[hr]
 clear j;have aq:=B.bl;have ao:=B.st;have Y:∀g∈QP s,0<=g.n:=λg hg=>by
  rcases List.mem_append.1 hg with hg|hg
  . obtain⟨q,_,rfl⟩:=List.mem_map.1 hg;show(0:Int)<=1;omega
  exact B.nn g hg
 have aa:(QP s).length<=2097154:=by have:=B.pl;have:=B.gl;simp[QP];omega
 have E:=Hm (slocal_c a (QP s) d (a1.o _ HX.o.2) ac ar Y aa);obtain⟨lt,z⟩:∃lt,lt=loc s a:=⟨_,rfl⟩;rw[loc_eq s a ac,<- z]at E;rw[<- z]at HR;clear z Y aa;have HP:=Hm (XD lt d B.inv ap aq ao);have pk:=XK ⟨s,0⟩ lt;have y:(QC ⟨s,0⟩ lt).2.s.stack.length<=2199023255552:=Ky pk.ln (by show(N s.stack)<=_;omega);obtain⟨r1,M⟩:∃r,r=QC ⟨s,0⟩ lt:=⟨_,rfl⟩;rw[<- M]at HP y HR;obtain⟨z1,m1⟩:=r1;dsimp only at HP y HR;clear d pk M;go_wp2_with fail
 refine E.o.mono ?_;rintro e w2 ⟨rfl,rfl⟩;clear E;go_wp2_with fail
 refine HP.o.mono ?_;rintro e F ⟨rfl,ae⟩;clear HP;have af:Hid (Ec Q 151 #[Yp (some ⟨p,0,none⟩),S (some ⟨F.heap.size,0,none⟩) 1 1] (F.alloc (Fc #[U O lt] 2)) λe w'=>e=Z (.tuple #[])/\MSt D w0 p lv nl A (Xa m1 [lt]) w'):=by
  have hh:Has (F.alloc (Fc #[U O lt] 2)) (some ⟨F.heap.size,0,none⟩) [lt]:=.inr ⟨F.heap.size,0,rfl,fun i hi=>by
   have:i=0:=by simp at hi;omega
   subst this
   exact Qf rfl rfl⟩
  exact XI (some ⟨F.heap.size,0,none⟩) 1 [lt] (ae.keep (bFz.alloc lRz _)) hh (by simp) (y)
 clear ae;go_wp2_with fail
 refine af.o.mono ?_;rintro e w9 ⟨rfl,ad⟩;clear af;obtain⟨po,⟨r5,bo⟩,m⟩:=ad.pos;have a0:=Hm m;clear m ad;go_wp2;go_end0;rw[HR.o];obtain⟨u,R⟩:=a2.o;exact⟨rfl,u,by rw[<- R];exact a0.o _⟩
theorem sstep_35 (j:Nat)(b v:Int)(l:List Int)(A:Option Addr)(z:Nat)(H:P7 D w0 p lv nl ks s V x t ⟨35,(j:Int),b,v,l⟩ A z)(d:Qq x frm s ⟨35,(j:Int),b,v,l⟩=0)(hj:j<N x.globals):SpC D w0 p lv nl ks s V x t ⟨35,(j:Int),b,v,l⟩ A z:=by
 obtain⟨h,X,I,B,C,a9,HK⟩:=H;unfold SpC;obtain⟨ta,Y,fa,fc,ga,gc,ae,W,B_,rfl,hW,hB,hI⟩:=JG 35 (j:Int) b v l A z h X;have k:=Hm (HK hI (X.sub (λr hr=>by simp[hr])));obtain⟨⟨d0,d1,d2,d3,d4⟩,c0,c1,c2,c3,c4,c5⟩:=MSt.ins (ns:=[]) hI;have HR:Hid (Qu x frm oty s ⟨35,(j:Int),b,v,l⟩=Xa ⟨s,0⟩ [(Q3 x (j:Int)).ty]):=by show Qu x frm oty s ⟨35,(j:Int),b,v,l⟩=_;rw[Qu,if_neg (λc=>c d)];simp[Q7,QU,mapp,Qr,JP]
 rw[d]at k;have HX:=Hm (⟨X,I⟩:CtR D w0 x ⟨S ta (N x.types) Y,S fa (N x.funcs) fc,S ga (N x.globals) gc,ae⟩ ks/\LoM lv ks (QP s));clear h X I hI HK d;go_enter func105,ntmps105;go_upto_region 1 with fail
 rw[<- hW,<- hB];clear hW hB;go_wp2_with fail
 refine k.o.mono ?_;rintro e q ⟨rfl,ns,a⟩;have q9:=a.err;dsimp only at q9;clear k d0 d1 d2 d3 d4 c0 c1 c2 c3 c4 c5;obtain⟨⟨d0,d1,d2,d3,d4⟩,c0,c1,c2,c3,c4,c5⟩:=a.ins;obtain⟨y,f⟩:∃y:List Qc,y=ns++(box 204 5 (B_+1) (inC 35 (j:Int) b v l A z)::box 66 6 B_ [S ta (N x.types) Y,S fa (N x.funcs) fc,S ga (N x.globals) gc,U O x.imports,U O x.tables,U O x.mems]::ks):=⟨_,rfl⟩;replace a:MSt D w0 p lv nl y ⟨s,0⟩ q:=by rw[f];exact a
 have bh:Hid (∀(m':MS) (W':J) (ns':List Qc),MSt D w0 p lv nl (ns'++y) m' W'->XW W' B_ 35 (j:Int) b v l A z (S ta (N x.types) Y) (S fa (N x.funcs) fc) (S ga (N x.globals) gc) (U O x.imports) (U O x.tables) (U O x.mems)):=λm' W' ns' h=>by rw[f,<- Kw]at h;exact h.ins
 have aj:Hid (∃u,y=u++ks):=⟨ns++[_,_],by rw[f,Kw];rfl⟩;have ai:Hid (∀r∈ks,r∈y):=λr hr=>by rw[f];simp[hr]
 clear f;have bc:=B.bl;have a8:=B.st;obtain⟨a0,bf,e,L⟩:=QA a.mo (ai.o _ HX.o.1.gr);cases e;obtain⟨g,rfl,n⟩:=L (by omega);have gt:=n _ _ (Gl (gs:=x.globals) (i:=j) (g:=Q3 x j) (by simp[Q3,Kg,hj])).1 (by omega);obtain⟨lt,F⟩:∃lt,lt=(Q3 x (j:Int)).ty:=⟨_,rfl⟩;rw[<- F]at HR gt;have i5:(j:Int)<(N x.globals:Int):=by omega
 clear F L n;have R:Hid (Ec Q 151 #[Yp (some ⟨p,0,none⟩),S (some ⟨q.heap.size,0,none⟩) 1 1] (q.alloc (Fc #[U O lt] 2)) λe w'=>e=Z (.tuple #[])/\MSt D w0 p lv nl y (Xa ⟨s,0⟩ [lt]) w'):=by
  have hh:Has (q.alloc (Fc #[U O lt] 2)) (some ⟨q.heap.size,0,none⟩) [lt]:=.inr ⟨q.heap.size,0,rfl,fun i hi=>by
   have:i=0:=by simp at hi;omega
   subst this
   exact Qf rfl rfl⟩
  exact XI (some ⟨q.heap.size,0,none⟩) 1 [lt] (a.keep (bFz.alloc lRz _)) hh (by simp) (by show(N s.stack)<=_;omega)
 clear a;go_wp2_with fail
 refine R.o.mono ?_;rintro e w9 ⟨rfl,M⟩;clear R;obtain⟨po,⟨r5,a6⟩,m⟩:=M.pos;have ah:=Hm m;clear m M;go_wp2;go_end0;rw[HR.o];obtain⟨u,E⟩:=aj.o;exact⟨rfl,u,by rw[<- E];exact ah.o _⟩
theorem sstep_36 (j:Nat)(b v:Int)(l:List Int)(z:Option Addr)(y:Nat)(H:P7 D w0 p lv nl ks s V x t ⟨36,(j:Int),b,v,l⟩ z y)(d:Qq x frm s ⟨36,(j:Int),b,v,l⟩=0)(hj:j<N x.globals):SpC D w0 p lv nl ks s V x t ⟨36,(j:Int),b,v,l⟩ z y:=by
 obtain⟨h,M,F,B,C,aa,HK⟩:=H;unfold SpC;obtain⟨X,R,fa,fc,ga,gc,af,W,B_,rfl,hW,hB,hI⟩:=JG 36 (j:Int) b v l z y h M;have k:=Hm (HK hI (M.sub (λr hr=>by simp[hr])));obtain⟨⟨d0,d1,d2,d3,d4⟩,c0,c1,c2,c3,c4,c5⟩:=MSt.ins (ns:=[]) hI;have HR:Hid (Qu x frm oty s ⟨36,(j:Int),b,v,l⟩=(QC ⟨s,0⟩ (Q3 x (j:Int)).ty).2):=by show Qu x frm oty s ⟨36,(j:Int),b,v,l⟩=_;rw[Qu,if_neg (λc=>c d)];simp[Q7,QU,mapp,Qr,JP,mpush_nil]
 rw[d]at k;have HX:=Hm (⟨M,F⟩:CtR D w0 x ⟨S X (N x.types) R,S fa (N x.funcs) fc,S ga (N x.globals) gc,af⟩ ks/\LoM lv ks (QP s));clear h M F hI HK d;go_enter func105,ntmps105;go_upto_region 1 with fail
 rw[<- hW,<- hB];clear hW hB;go_wp2_with fail
 refine k.o.mono ?_;rintro e w1 ⟨rfl,ns,a⟩;have q9:=a.err;dsimp only at q9;clear k d0 d1 d2 d3 d4 c0 c1 c2 c3 c4 c5;obtain⟨⟨d0,d1,d2,d3,d4⟩,c0,c1,c2,c3,c4,c5⟩:=a.ins;obtain⟨u,f⟩:∃u:List Qc,u=ns++(box 204 5 (B_+1) (inC 36 (j:Int) b v l z y)::box 66 6 B_ [S X (N x.types) R,S fa (N x.funcs) fc,S ga (N x.globals) gc,U O x.imports,U O x.tables,U O x.mems]::ks):=⟨_,rfl⟩;replace a:MSt D w0 p lv nl u ⟨s,0⟩ w1:=by rw[f];exact a
 have bg:Hid (∀(m':MS) (W':J) (ns':List Qc),MSt D w0 p lv nl (ns'++u) m' W'->XW W' B_ 36 (j:Int) b v l z y (S X (N x.types) R) (S fa (N x.funcs) fc) (S ga (N x.globals) gc) (U O x.imports) (U O x.tables) (U O x.mems)):=λm' W' ns' h=>by rw[f,<- Kw]at h;exact h.ins
 have ak:Hid (∃q,u=q++ks):=⟨ns++[_,_],by rw[f,Kw];rfl⟩;have aj:Hid (∀r∈ks,r∈u):=λr hr=>by rw[f];simp[hr]
 clear f;have ab:=B.bl;have Y:=B.st;obtain⟨a0,bd,e,I⟩:=QA a.mo (aj.o _ HX.o.1.gr);cases e;obtain⟨g,rfl,n⟩:=I (by omega);have gt:=n _ _ (Gl (gs:=x.globals) (i:=j) (g:=Q3 x j) (by simp[Q3,Kg,hj])).1 (by omega);obtain⟨lt,E⟩:∃lt,lt=(Q3 x (j:Int)).ty:=⟨_,rfl⟩;rw[<- E]at HR gt;have i5:(j:Int)<(N x.globals:Int):=by omega
 clear E I n;have HP:=Hm (XD lt a B.inv aa ab Y);clear a;go_wp2_with fail
 refine HP.o.mono ?_;rintro e w9 ⟨rfl,L⟩;clear HP;obtain⟨po,⟨r5,a9⟩,m⟩:=L.pos;have ai:=Hm m;clear m L;go_wp2;go_end0;rw[HR.o];obtain⟨q,A⟩:=ak.o;exact⟨rfl,q,by rw[<- A];exact ai.o _⟩
theorem sstep_16 (j:Nat)(b v:Int)(A:List Int)(la:Option Addr)(lc:Nat)(H:P7 D w0 p lv nl ks s V x t ⟨16,(j:Int),b,v,A⟩ la lc)(k:Qq x frm s ⟨16,(j:Int),b,v,A⟩=0)(hj:j<N x.funcs):SpC D w0 p lv nl ks s V x t ⟨16,(j:Int),b,v,A⟩ la lc:=by
 obtain⟨h,hx,af,B,C,a1,HK⟩:=H;unfold SpC;obtain⟨ta,tc,fa,fc,ga,gc,a8,W,B_,rfl,hW,hB,hI⟩:=JG 16 (j:Int) b v A la lc h hx;have n:=Hm (HK hI (hx.sub (λr hr=>by simp[hr])));obtain⟨⟨d0,d1,d2,d3,d4⟩,c0,c1,c2,c3,c4,c5⟩:=MSt.ins (ns:=[]) hI;have HR:Hid (Qu x frm oty s ⟨16,(j:Int),b,v,A⟩=Xa (Qr ⟨s,0⟩ (x.funcs.getD j Qe.z).ps) (x.funcs.getD j Qe.z).rs):=by show Qu x frm oty s ⟨16,(j:Int),b,v,A⟩=_;rw[Qu,if_neg (λc=>c k)];simp[Q7,QU,mapp]
 rw[k]at n;have HX:=Hm (⟨hx,af⟩:CtR D w0 x ⟨S ta (N x.types) tc,S fa (N x.funcs) fc,S ga (N x.globals) gc,a8⟩ ks/\LoM lv ks (QP s));clear h hx af hI HK k;go_enter func105,ntmps105;go_upto_region 1 with fail
 rw[<- hW,<- hB];clear hW hB;go_wp2_with fail
 refine n.o.mono ?_;rintro e w1 ⟨rfl,ns,a⟩;have q9:=a.err;dsimp only at q9;clear n d0 d1 d2 d3 d4 c0 c1 c2 c3 c4 c5;obtain⟨⟨d0,d1,d2,d3,d4⟩,c0,c1,c2,c3,c4,c5⟩:=a.ins;obtain⟨L,m⟩:∃L:List Qc,L=ns++(box 204 5 (B_+1) (inC 16 (j:Int) b v A la lc)::box 66 6 B_ [S ta (N x.types) tc,S fa (N x.funcs) fc,S ga (N x.globals) gc,U O x.imports,U O x.tables,U O x.mems]::ks):=⟨_,rfl⟩;replace a:MSt D w0 p lv nl L ⟨s,0⟩ w1:=by rw[m];exact a
 have bj:Hid (∀(m':MS) (W':J) (ns':List Qc),MSt D w0 p lv nl (ns'++L) m' W'->XW W' B_ 16 (j:Int) b v A la lc (S ta (N x.types) tc) (S fa (N x.funcs) fc) (S ga (N x.globals) gc) (U O x.imports) (U O x.tables) (U O x.mems)):=λm' W' ns' h=>by rw[m,<- Kw]at h;exact h.ins
 have bh:Hid (∃F,L=F++ks):=⟨ns++[_,_],by rw[m,Kw];rfl⟩;have bf:Hid (∀r∈ks,r∈L):=λr hr=>by rw[m];simp[hr]
 clear m;have a2:=B.bl;have az:=B.st;obtain⟨a0,cr,e,ag⟩:=QA a.mo (bf.o _ HX.o.1.fr);cases e;obtain⟨g,rfl,f⟩:=ag (by omega);obtain⟨pv,rv,ep,er,tp,tr⟩:=HX.o.1.ft.get hj L;have gp:=f _ _ ep (by omega);have gr:=f _ _ er (by omega);have hC:=C.fu _ (XO hj);obtain⟨t,ht⟩:∃t,t=x.funcs.getD j Qe.z:=⟨_,rfl⟩;rw[<- ht]at HR hC tp tr;obtain⟨pa,pc,rfl,_⟩:=tp.ms a;obtain⟨Y,X,rfl,_⟩:=tr.ms a;have bc:=Hm tp;have bb:=Hm tr;have i5:(j:Int)<(N x.funcs:Int):=by omega
 have d:=a.bxn #[S none 0 0,S none 0 0] 148 2 rfl;obtain⟨R,l⟩:∃R,R=w1.alloc (Fc #[S none 0 0,S none 0 0] 148):=⟨_,rfl⟩;obtain⟨B2,I⟩:∃B2,B2=w1.heap.size:=⟨_,rfl⟩;rw[<- l,<- I]at d;have a5:R.cell? ⟨g,j*2,none⟩=some (S pa (N t.ps) pc):=by rw[l];exact Qd gp
 have a4:R.cell? ⟨g,j*2+1,none⟩=some (S Y (N t.rs) X):=by rw[l];exact Qd gr
 have z0:=d.mo.b0 0 (u:=S none 0 0);have z1:=d.mo.b0 1 (u:=S none 0 0);obtain⟨z0,y0⟩:=z0;obtain⟨z1,y1⟩:=z1;have y:=(d.setBox rfl 0 (S pa (N t.ps) pc)).setBox rfl 1 (S Y (N t.rs) X);obtain⟨⟨cm,cl,ck,cj,ci⟩,v0,v1,v2,v3,v4,v5⟩:=bj.o _ R [_] d;clear ag f ep er tp tr ht gp gr a d;go_upto_region 33 with fail
 rw[<- l,<- I];clear l I q9;go_upto_region 37 with fail
 obtain⟨W3,ah⟩:∃W3,W3=(R.setCell ⟨B2,0,none⟩ (S pa (N t.ps) pc)).setCell ⟨B2,1,none⟩ (S Y (N t.rs) X):=⟨_,rfl⟩;rw[<- ah]at y⊢;clear ah z0 z1 y0 y1 a5 a4;have z0:=(y.mo.b0 0 (u:=S pa (N t.ps) pc)).1;have M:=Hm (J9 _ t.ps y (bc.o.cons _) B.inv a1 a2 az (by omega));have pk:=JH ⟨s,0⟩ t.ps;have ac:(Qr ⟨s,0⟩ t.ps).s.stack.length<=2199023255552:=Ky pk.ln (by show(N s.stack)<=_;omega);obtain⟨m4,ae⟩:∃m4,m4=Qr ⟨s,0⟩ t.ps:=⟨_,rfl⟩;rw[<- ae]at M ac HR;clear pk ae y;go_wp2_with fail
 refine M.o.mono ?_;rintro e w4 ⟨rfl,q⟩;have y1:=(q.mo.b0 1 (u:=S Y (N t.rs) X)).1;obtain⟨cp,co,e,hh⟩:=Ty.ms (bb.o.cons _) q;cases e;have HD:=Hm (XI Y X t.rs q hh (by omega) ac);clear q M hh;go_wp2_with fail
 refine HD.o.mono ?_;rintro e w9 ⟨rfl,ai⟩;clear HD;obtain⟨po,⟨r5,cn⟩,E⟩:=ai.pos;have bd:=Hm E;clear E ai;go_wp2;go_end0;rw[HR.o];obtain⟨F,ad⟩:=bh.o;exact⟨rfl,[_]++F,by rw[Kw,<- ad];exact bd.o _⟩
theorem sstep_17 (j:Nat)(b v:Int)(A:List Int)(la:Option Addr)(lc:Nat)(H:P7 D w0 p lv nl ks s V x t ⟨17,(j:Int),b,v,A⟩ la lc)(f:Qq x frm s ⟨17,(j:Int),b,v,A⟩=0)(hj:j<N x.types):SpC D w0 p lv nl ks s V x t ⟨17,(j:Int),b,v,A⟩ la lc:=by
 obtain⟨h,hx,az,B,C,ax,HK⟩:=H;unfold SpC;obtain⟨ta,tc,fa,fc,ga,gc,bv,W,B_,rfl,hW,hB,hI⟩:=JG 17 (j:Int) b v A la lc h hx;have l:=Hm (HK hI (hx.sub (λr hr=>by simp[hr])));obtain⟨⟨d0,d1,d2,d3,d4⟩,c0,c1,c2,c3,c4,c5⟩:=MSt.ins (ns:=[]) hI;have HR:Hid (Qu x frm oty s ⟨17,(j:Int),b,v,A⟩=Xa (Qr (QC ⟨s,0⟩ 127).2 (x.types.getD j Qe.z).ps) (x.types.getD j Qe.z).rs):=by show Qu x frm oty s ⟨17,(j:Int),b,v,A⟩=_;rw[Qu,if_neg (λc=>c f)];simp[Q7,QU,mapp,mpopAll_127]
 rw[f]at l;have HX:=Hm (⟨hx,az⟩:CtR D w0 x ⟨S ta (N x.types) tc,S fa (N x.funcs) fc,S ga (N x.globals) gc,bv⟩ ks/\LoM lv ks (QP s));clear h hx az hI HK f;go_enter func105,ntmps105;go_upto_region 1 with fail
 rw[<- hW,<- hB];clear hW hB;go_wp2_with fail
 refine l.o.mono ?_;rintro e w1 ⟨rfl,ns,a⟩;have q9:=a.err;dsimp only at q9;clear l d0 d1 d2 d3 d4 c0 c1 c2 c3 c4 c5;obtain⟨⟨d0,d1,d2,d3,d4⟩,c0,c1,c2,c3,c4,c5⟩:=a.ins;obtain⟨F,k⟩:∃F:List Qc,F=ns++(box 204 5 (B_+1) (inC 17 (j:Int) b v A la lc)::box 66 6 B_ [S ta (N x.types) tc,S fa (N x.funcs) fc,S ga (N x.globals) gc,U O x.imports,U O x.tables,U O x.mems]::ks):=⟨_,rfl⟩;replace a:MSt D w0 p lv nl F ⟨s,0⟩ w1:=by rw[k];exact a
 have a6:Hid (∀(m':MS) (W':J) (ns':List Qc),MSt D w0 p lv nl (ns'++F) m' W'->XW W' B_ 17 (j:Int) b v A la lc (S ta (N x.types) tc) (S fa (N x.funcs) fc) (S ga (N x.globals) gc) (U O x.imports) (U O x.tables) (U O x.mems)):=λm' W' ns' h=>by rw[k,<- Kw]at h;exact h.ins
 have b5:Hid (∃I,F=I++ks):=⟨ns++[_,_],by rw[k,Kw];rfl⟩;have df:Hid (∀r∈ks,r∈F):=λr hr=>by rw[k];simp[hr]
 clear k;have a2:=B.bl;have ar:=B.st;obtain⟨a0,dd,e,bp⟩:=HX.o.1.ty;cases e;rcases bp with bo|⟨g,off,rfl,X,a1⟩
 . rw[bo]at hj;simp at hj
 obtain⟨pv,rv,ep,er,tp,tr⟩:=a1 j hj;have hC:=C.ty _ (XO hj);obtain⟨t,ht⟩:∃t,t=x.types.getD j Qe.z:=⟨_,rfl⟩;rw[<- ht]at HR hC tp tr;replace tp:=tp.sub (ks':=F) (λr hr=>by cases hr);replace tr:=tr.sub (ks':=F) (λr hr=>by cases hr);obtain⟨pa,pc,rfl,_⟩:=tp.ms a;obtain⟨ra,rc,rfl,_⟩:=tr.ms a;have b3:=Hm tp;have b2:=Hm tr;have i5:(j:Int)<(N x.types:Int):=by omega
 have b6:Hid (∀{m':MS} {W':J} (L:List Qc),MSt D w0 p lv nl L m' W'->W'.cell? ⟨g,off+j*2,none⟩=some (S pa (N t.ps) pc)/\W'.cell? ⟨g,off+j*2+1,none⟩=some (S ra (N t.rs) rc)):=λL h=>⟨(h.mo.b.cell (p:=⟨g,off+j*2,none⟩) X).trans ep,(h.mo.b.cell (p:=⟨g,off+j*2+1,none⟩) X).trans er⟩;have q:=a.bxn #[S none 0 0,S none 0 0] 148 2 rfl;obtain⟨W2,aa⟩:∃W2,W2=w1.alloc (Fc #[S none 0 0,S none 0 0] 148):=⟨_,rfl⟩;obtain⟨B2,ab⟩:∃B2,B2=w1.heap.size:=⟨_,rfl⟩;rw[<- aa,<- ab]at q;obtain⟨⟨aj,ai,ah,ag,af⟩,v0,v1,v2,v3,v4,v5⟩:=a6.o _ W2 [_] q;have HP:=Hm (XD 127 q B.inv ax a2 ar);have y:=XK ⟨s,0⟩ 127;have i1:=y.iv B.inv;have R:(QC ⟨s,0⟩ 127).2.s.blocks≠[]:=by rw[y.bl];exact ax
 have Y:(QC ⟨s,0⟩ 127).2.s.blocks.length<=1048577:=by rw[y.bl];exact a2
 have M:(QC ⟨s,0⟩ 127).2.s.stack.length<=1099511627776:=Ky y.ln ar;obtain⟨r1,av⟩:∃r,r=QC ⟨s,0⟩ 127:=⟨_,rfl⟩;rw[<- av]at HP i1 R Y M HR;obtain⟨z1,m1⟩:=r1;dsimp only at HP i1 R Y M HR;clear a1 ep er tp tr ht a q y av X;go_upto_region 33 with fail
 rw[<- aa,<- ab];clear aa ab q9;go_upto_region 35 with (go_at_call 150;refine HP.o.mono ?_;rintro e wp ⟨rfl,d⟩)
 clear aj ai ah ag af v0 v1 v2 v3 v4 v5 HP;obtain⟨⟨aj,ai,ah,ag,af⟩,v0,v1,v2,v3,v4,v5⟩:=a6.o _ wp [_] d;obtain⟨bs,br⟩:=b6.o _ d;have z0:=d.mo.b0 0 (u:=S none 0 0);have z1:=d.mo.b0 1 (u:=S none 0 0);obtain⟨z0,y0⟩:=z0;obtain⟨z1,y1⟩:=z1;have n:=(d.setBox rfl 0 (S pa (N t.ps) pc)).setBox rfl 1 (S ra (N t.rs) rc);clear d;go_upto_region 37 with fail
 obtain⟨W3,a3⟩:∃W3,W3=(wp.setCell ⟨B2,0,none⟩ (S pa (N t.ps) pc)).setCell ⟨B2,1,none⟩ (S ra (N t.rs) rc):=⟨_,rfl⟩;rw[<- a3]at n⊢;clear a3 z0 z1 y0 y1 bs br;have z0:=(n.mo.b0 0 (u:=S pa (N t.ps) pc)).1;have ac:=Hm (J9 _ t.ps n (b3.o.cons _) i1 R Y M (by omega));have y:=JH m1 t.ps;have au:(Qr m1 t.ps).s.stack.length<=2199023255552:=Ky y.ln (by omega);obtain⟨m4,ay⟩:∃m4,m4=Qr m1 t.ps:=⟨_,rfl⟩;rw[<- ay]at ac au HR;clear y ay n;go_wp2_with fail
 refine ac.o.mono ?_;rintro e w4 ⟨rfl,m⟩;have y1:=(m.mo.b0 1 (u:=S ra (N t.rs) rc)).1;obtain⟨da,c9,e,hh⟩:=Ty.ms (b2.o.cons _) m;cases e;have HD:=Hm (XI ra rc t.rs m hh (by omega) au);clear m ac hh;go_wp2_with fail
 refine HD.o.mono ?_;rintro e w9 ⟨rfl,a4⟩;clear HD;obtain⟨po,⟨r5,c8⟩,E⟩:=a4.pos;have b4:=Hm E;clear E a4;go_wp2;go_end0;rw[HR.o];obtain⟨I,aw⟩:=b5.o;exact⟨rfl,[_]++I,by rw[Kw,<- aw];exact b4.o _⟩
theorem sstep_d (op a b v:Int)(X:List Int)(la:Option Addr)(lc:Nat)(H:P7 D w0 p lv nl ks s V x t ⟨op,a,b,v,X⟩ la lc)(q:Qq x frm s ⟨op,a,b,v,X⟩=0)(d:∀c∈[0,1,2,3,4,5,11,12,13,14,15,16,17,26,27,32,33,34,35,36],(op==c)=false):SpC D w0 p lv nl ks s V x t ⟨op,a,b,v,X⟩ la lc:=by
 obtain⟨h,hx,ac,B,C,a4,HK⟩:=H;unfold SpC;obtain⟨ta,tc,fa,fc,ga,gc,a9,W,B_,rfl,hW,hB,hI⟩:=JG op a b v X la lc h hx;have E:=Hm (HK hI (hx.sub (λr hr=>by simp[hr])));obtain⟨⟨d0,d1,d2,d3,d4⟩,c0,c1,c2,c3,c4,c5⟩:=MSt.ins (ns:=[]) hI;have HR:Hid (Qu x frm oty s ⟨op,a,b,v,X⟩=mapp ⟨s,0⟩ (oty op)):=by
  show Qu x frm oty s ⟨op,a,b,v,X⟩=_;rw[Qu,if_neg (λc=>c q)];have on:∀c∈[0,1,2,3,4,5,11,12,13,14,15,16,17,26,27,32,33,34,35,36],op≠c:=λc hc=>by have:=d c hc;simpa using this
  simp[Q7,QU,on 0 (by simp),on 2 (by simp),on 3 (by simp),on 4 (by simp),on 5 (by simp),on 11 (by simp),on 12 (by simp),on 13 (by simp),on 14 (by simp),on 15 (by simp),on 16 (by simp),on 17 (by simp),on 26 (by simp),on 27 (by simp),on 32 (by simp),on 33 (by simp),on 34 (by simp),on 35 (by simp),on 36 (by simp)]
 rw[q]at E;have HX:=Hm (⟨hx,ac⟩:CtR D w0 x ⟨S ta (N x.types) tc,S fa (N x.funcs) fc,S ga (N x.globals) gc,a9⟩ ks/\LoM lv ks (QP s));clear h hx ac hI HK q;go_enter func105,ntmps105;go_upto_region 1 with fail
 rw[<- hW,<- hB];clear hW hB;go_wp2_with fail
 refine E.o.mono ?_;rintro e w1 ⟨rfl,ns,f⟩;have q9:=f.err;dsimp only at q9;clear E d0 d1 d2 d3 d4 c0 c1 c2 c3 c4 c5;obtain⟨⟨d0,d1,d2,d3,d4⟩,c0,c1,c2,c3,c4,c5⟩:=f.ins;obtain⟨F,y⟩:∃F:List Qc,F=ns++(box 204 5 (B_+1) (inC op a b v X la lc)::box 66 6 B_ [S ta (N x.types) tc,S fa (N x.funcs) fc,S ga (N x.globals) gc,U O x.imports,U O x.tables,U O x.mems]::ks):=⟨_,rfl⟩;replace f:MSt D w0 p lv nl F ⟨s,0⟩ w1:=by rw[y];exact f
 have bf:Hid (∀(m':MS) (W':J) (ns':List Qc),MSt D w0 p lv nl (ns'++F) m' W'->XW W' B_ op a b v X la lc (S ta (N x.types) tc) (S fa (N x.funcs) fc) (S ga (N x.globals) gc) (U O x.imports) (U O x.tables) (U O x.mems)):=λm' W' ns' h=>by rw[y,<- Kw]at h;exact h.ins
 have bd:Hid (∃ab,F=ab++ks):=⟨ns++[_,_],by rw[y,Kw];rfl⟩;have cx:Hid (∀r∈ks,r∈F):=λr hr=>by rw[y];simp[hr]
 clear y;have a5:=B.bl;have a3:=B.st;have n0:=d 0 (by simp);have n1:=d 1 (by simp);have n2:=d 2 (by simp);have n3:=d 3 (by simp);have n4:=d 4 (by simp);have n5:=d 5 (by simp);have cv:=d 11 (by simp);have cu:=d 12 (by simp);have ct:=d 13 (by simp);have cs:=d 14 (by simp);have cr:=d 15 (by simp);have cq:=d 16 (by simp);have cp:=d 17 (by simp);have co:=d 26 (by simp);have cn:=d 27 (by simp);have cm:=d 32 (by simp);have cl:=d 33 (by simp);have ck:=d 34 (by simp);have cj:=d 35 (by simp);have ci:=d 36 (by simp);clear d;have HO:=Hm (stype_c op w1);have ax:=Hm (oty_len op);have ay:=Hm f;clear f;go_wp2_with fail
 refine HO.o.mono ?_;rintro e w2 ⟨pv,rv,rfl,n,aq⟩;obtain⟨m,l,k,j,rfl,rfl⟩:=n.shape;have A:MSt D w0 p lv nl ([⟨2,1,(oty op).ps.length,S m (oty op).ps.length l,I (oty op).ps⟩,⟨2,1,(oty op).rs.length,S k (oty op).rs.length j,I (oty op).rs⟩]++F) ⟨s,0⟩ w2:=ay.o.new aq (Own.two n.hp n.hr (λi h1 h2=>n.ne i i h1 h2 rfl));obtain⟨t,ht⟩:∃t,t=oty op:=⟨_,rfl⟩;change MSt D w0 p lv nl ([⟨2,1,(oty op).ps.length,S m (oty op).ps.length l,I (oty op).ps⟩,⟨2,1,(oty op).rs.length,S k (oty op).rs.length j,I (oty op).rs⟩]++F) ⟨s,0⟩ w2 at A;have aw:(nz [(Qb op).a,(Qb op).b]).length=N t.ps:=by rw[ht]
 have av:(nz [(Qb op).g]).length=N t.rs:=by rw[ht]
 have ac:N t.ps<=2/\N t.rs<=1:=by rw[ht];exact ax.o
 rw[<- ht]at A HR;rw[aw,av];clear ht n aq HO ay aw av ax;obtain⟨⟨cd,cc,cb,ca,b9⟩,v0,v1,v2,v3,v4,v5⟩:=bf.o _ w2 [_,_] A;have z:=A.bxn #[S m (N t.ps) l,S k (N t.rs) j] 148 2 rfl;have af:Hid (Ty D w0 (box 148 2 w2.heap.size [S m (N t.ps) l,S k (N t.rs) j]::([⟨2,1,N t.ps,S m (N t.ps) l,I t.ps⟩,⟨2,1,N t.rs,S k (N t.rs) j,I t.rs⟩]++F)) (S m (N t.ps) l) t.ps):=.inr (by simp);have ae:Hid (Ty D w0 (box 148 2 w2.heap.size [S m (N t.ps) l,S k (N t.rs) j]::([⟨2,1,N t.ps,S m (N t.ps) l,I t.ps⟩,⟨2,1,N t.rs,S k (N t.rs) j,I t.rs⟩]++F)) (S k (N t.rs) j) t.rs):=.inr (by simp);obtain⟨L9,ar⟩:∃L:List Qc,L=[⟨2,1,N t.ps,S m (N t.ps) l,I t.ps⟩,⟨2,1,N t.rs,S k (N t.rs) j,I t.rs⟩]:=⟨_,rfl⟩;rw[<- ar]at z af ae;go_upto_region 5 with fail
 obtain⟨W3,ad⟩:∃W3,W3=w2.alloc (Fc #[S m (N t.ps) l,S k (N t.rs) j] 148):=⟨_,rfl⟩;obtain⟨B2,R⟩:∃B2,B2=w2.heap.size:=⟨_,rfl⟩;rw[<- ad,<- R]at z;rw[<- R]at af ae;rw[<- ad,<- R];clear ad R A ar;have z0:=(z.mo.b0 0 (u:=S m (N t.ps) l)).1;have ag:=Hm (J9 _ t.ps z af.o B.inv a4 a5 a3 (by omega));have pk:=JH ⟨s,0⟩ t.ps;have ak:(Qr ⟨s,0⟩ t.ps).s.stack.length<=2199023255552:=Ky pk.ln (by show(N s.stack)<=_;omega);rw[mapp]at HR;obtain⟨m4,ap⟩:∃m4,m4=Qr ⟨s,0⟩ t.ps:=⟨_,rfl⟩;rw[<- ap]at ag ak HR;clear pk ap z;go_wp2_with fail
 refine ag.o.mono ?_;rintro e w4 ⟨rfl,M⟩;have y1:=(M.mo.b0 1 (u:=S k (N t.rs) j)).1;obtain⟨cg,cf,e,hh⟩:=Ty.ms ae.o M;cases e;have HD:=Hm (XI k j t.rs M hh (by omega) ak);clear M ag hh;go_wp2_with fail
 refine HD.o.mono ?_;rintro e w9 ⟨rfl,au⟩;clear HD;obtain⟨po,⟨r5,ce⟩,Y⟩:=au.pos;have bc:=Hm Y;clear Y au;go_wp2;go_end0;rw[HR.o];obtain⟨ab,ao⟩:=bd.o;exact⟨rfl,(_::L9)++ab,by rw[Kw,<- ao];exact bc.o _⟩
theorem frm_at (op:Int)(f:Int)(h:frm op=f)(l:List Int)(a:l.all (λc=>decide (frm c≠f))=true):∀c∈l,(op==c)=false:=λc hc=>by
 have:=List.all_eq_true.1 a c hc
 simp only[decide_eq_true_eq]at this
 simp only[beq_eq_false_iff_ne]
 intro e
 subst e
 exact this h
theorem sask_c (y:In)(g:Option Addr)(f:Nat)(q:nl=X3 s)(Y:InB y)(tL:Ty D w0 [] (S g (N y.l) f) y.l):AskC D w0 p lv nl x t s y g f:=by
 intro ks V h k;obtain⟨d,a,b,v,j⟩:=y;obtain⟨r,A,u,z⟩:=Y;dsimp only at r A u z tL;by_cases X:d=12
 . subst X;exact sask_12 (m:=⟨s,0⟩) a b v j g f h k rfl
 by_cases R:d=13
 . subst R;exact sask_13 (m:=⟨s,0⟩) a b v j g f h k rfl
 by_cases M:d=14
 . subst M;exact sask_14 (m:=⟨s,0⟩) a b v j g f h k rfl tL (by omega)
 by_cases L:d=16
 . subst L;exact sask_16 (m:=⟨s,0⟩) a b v j g f h k rfl
 by_cases I:d=17
 . subst I;exact sask_17 (m:=⟨s,0⟩) a b v j g f h k rfl
 by_cases H:d=32
 . subst H;exact sask_32 (m:=⟨s,0⟩) a b v j g f h k rfl q
 by_cases F:d=33
 . subst F;exact sask_33 (m:=⟨s,0⟩) a b v j g f h k rfl q
 by_cases E:d=34
 . subst E;exact sask_34 (m:=⟨s,0⟩) a b v j g f h k rfl q
 by_cases C:d=35
 . subst C;exact sask_35 (m:=⟨s,0⟩) a b v j g f h k rfl
 by_cases B:d=36
 . subst B;obtain⟨n,rfl⟩:∃n:Nat,a=n:=⟨a.toNat,by omega⟩;exact sask_36 (m:=⟨s,0⟩) n b v j g f h k rfl
 have o:∀c∈[12,13,14,16,17,32,33,34,35,36],(d==c)=false:=λc hc=>by simp only[beq_eq_false_iff_ne];simp at hc;rcases hc with rfl|rfl|rfl|rfl|rfl|rfl|rfl|rfl|rfl|rfl<;>assumption
 by_cases f5:frm d=5
 . exact sask_m (m:=⟨s,0⟩) d a b v j g f h k rfl o f5 r
 by_cases f6:frm d=6
 . exact sask_z (m:=⟨s,0⟩) d a b v j g f h k rfl o f6
 exact sask_o (m:=⟨s,0⟩) d a b v j g f h k rfl o f5 f6
theorem ask_has (h:Qq x frm s y=0):Qk x frm s y=true:=by
 unfold Qq at h;split at h
 . cases h
 rename_i c;simpa using c
theorem sstep_c (y:In)(n:Option Addr)(m:Nat)(h:MSt D w0 p lv nl ks ⟨s,0⟩ V)(q:CtR D w0 x t ks)(g:LoM lv ks (QP s))(H:nl=X3 s)(B:Bd s)(C:CxB x)(f:s.blocks≠[])(Y:InB y)(F:Ty D w0 [] (S n (N y.l) m) y.l):Ec Q 105 #[cxV x t,Yp (some ⟨p,0,none⟩),inV y n m] V λe w'=>e=Z (.tuple #[])/\∃ns,MSt D w0 p lv nl (ns++ks) (Qu x frm oty s y) w':=by
 have r:AskC D w0 p lv nl x t s y n m:=sask_c y n m H Y F;obtain⟨o,a,b,v,k⟩:=y;obtain⟨A,z,I,E⟩:=Y;dsimp only at A z I E F;by_cases d:Qq x frm s ⟨o,a,b,v,k⟩=0;case neg=>exact sstep_bad o a b v k n m ⟨h,q,g,B,C,f,r⟩ d
 have u:=ask_has d;obtain⟨j,rfl⟩:∃j:Nat,a=j:=⟨a.toNat,by omega⟩;by_cases h0:o=0
 . subst h0;exact sstep_0 j b v k n m ⟨h,q,g,B,C,f,r⟩ d
 by_cases h1:o=1
 . subst h1;exact sstep_1 j b v k n m ⟨h,q,g,B,C,f,r⟩ d
 by_cases h2:o=2
 . subst h2;exact sstep_2 j b v k n m ⟨h,q,g,B,C,f,r⟩ d
 by_cases h3:o=3
 . subst h3;exact sstep_3 j b v k n m ⟨h,q,g,B,C,f,r⟩ d
 by_cases h4:o=4
 . subst h4;exact sstep_4 j b v k n m ⟨h,q,g,B,C,f,r⟩ d
 by_cases h5:o=5
 . subst h5;exact sstep_5 j b v k n m ⟨h,q,g,B,C,f,r⟩ d
 by_cases aj:o=11
 . subst aj;exact sstep_11 j b v k n m ⟨h,q,g,B,C,f,r⟩ d
 by_cases ai:o=12
 . subst ai;(have e:Qk x frm s ⟨12,j,b,v,k⟩=decide ((j:Int)<N s.blocks):=by simp[Qk,show frm 12=2 by decide +kernel]);rw[e]at u;simp at u;exact sstep_12 j b v k n m ⟨h,q,g,B,C,f,r⟩ d u
 by_cases ah:o=13
 . subst ah;(have e:Qk x frm s ⟨13,j,b,v,k⟩=decide ((j:Int)<N s.blocks):=by simp[Qk,show frm 13=2 by decide +kernel]);rw[e]at u;simp at u;exact sstep_13 j b v k n m ⟨h,q,g,B,C,f,r⟩ d u
 by_cases ag:o=14
 . subst ag;(have e:Qk x frm s ⟨14,j,b,v,k⟩=(k.all (λi=>decide (i<(N s.blocks:Int)))&&decide ((j:Int)<N s.blocks)):=by simp only[Qk,show frm 14=3 by decide +kernel];simp);rw[e]at u;simp only[Kf,Mh,decide_eq_true_eq]at u;exact sstep_14 j b v k n m ⟨h,q,g,B,C,f,r⟩ d (by omega) F (by omega) (λi hi=>⟨E i hi,u.1 i hi⟩)
 by_cases af:o=15
 . subst af;exact sstep_15 j b v k n m ⟨h,q,g,B,C,f,r⟩ d
 by_cases ae:o=16
 . subst ae;(have e:Qk x frm s ⟨16,j,b,v,k⟩=decide ((j:Int)<N x.funcs):=by simp[Qk,show frm 16=2 by decide +kernel]);rw[e]at u;simp at u;exact sstep_16 j b v k n m ⟨h,q,g,B,C,f,r⟩ d u
 by_cases ad:o=17
 . subst ad;(have e:Qk x frm s ⟨17,j,b,v,k⟩=(decide (0<x.tables)&&decide ((j:Int)<N x.types)):=by simp[Qk,show frm 17=4 by decide +kernel]);rw[e]at u;simp at u;exact sstep_17 j b v k n m ⟨h,q,g,B,C,f,r⟩ d u.2
 by_cases ac:o=26
 . subst ac;exact sstep_26 j b v k n m ⟨h,q,g,B,C,f,r⟩ d
 by_cases ab:o=27
 . subst ab;exact sstep_27 j b v k n m ⟨h,q,g,B,C,f,r⟩ d
 by_cases aa:o=32
 . subst aa;exact sstep_32 j b v k n m ⟨h,q,g,B,C,f,r⟩ d A z
 by_cases X:o=33
 . subst X;exact sstep_33 j b v k n m ⟨h,q,g,B,C,f,r⟩ d A z
 by_cases R:o=34
 . subst R;exact sstep_34 j b v k n m ⟨h,q,g,B,C,f,r⟩ d A z
 by_cases M:o=35
 . subst M;(have e:Qk x frm s ⟨35,j,b,v,k⟩=decide ((j:Int)<N x.globals):=by simp[Qk,show frm 35=2 by decide +kernel]);rw[e]at u;simp at u;exact sstep_35 j b v k n m ⟨h,q,g,B,C,f,r⟩ d u
 by_cases L:o=36
 . subst L;(have e:Qk x frm s ⟨36,j,b,v,k⟩=decide ((j:Int)<N x.globals):=by simp[Qk,show frm 36=2 by decide +kernel]);rw[e]at u;simp at u;exact sstep_36 j b v k n m ⟨h,q,g,B,C,f,r⟩ d u
 exact sstep_d o j b v k n m ⟨h,q,g,B,C,f,r⟩ d (fun c hc=>by
  simp only[beq_eq_false_iff_ne]
  simp at hc
  rcases hc with rfl | rfl | rfl | rfl | rfl | rfl | rfl | rfl | rfl | rfl | rfl | rfl | rfl | rfl | rfl | rfl | rfl | rfl | rfl | rfl <;> assumption)
theorem nst_top (h:(nst s).getLast?=some true):(top s).op=4:=by
 have a:s.blocks≠[]:=λe=>by simp[nst,e]at h
 obtain⟨c,b⟩:=JL a;rw[nst,b]at h;simpa using h
def bodyR (r:Except (Int × Nat) Fn):Int × Nat:=match r with|.error e=>e|.ok _=>(0,0)
theorem sbody_c {D w0 ks V}(T:Qe)(pv rv:Vu)(ga:Option Addr)(gc:Nat)(gs:List Grp)(a:Option Addr)(c:Nat)(xs:List In)(hm:Mo D w0 ks V)(hx:CtR D w0 x t ks)(tp:Ty D w0 [] pv T.ps)(tr:Ty D w0 [] rv T.rs)(hg:GrL D w0 ga gs)(b5:N T.ps<=1048577)(ae:N gs<=1048577)(hs:∀k,k<=N gs->0<=QL (gs.take k)/\QL (gs.take k)<=4503599627370496*4) (B:Bd (fn0 T gs)) (C:CxB x) (hL:InL D w0 a xs) (hI:∀y∈xs,InB y) (c5:N xs<=1048576) (bl:goM (nst (fn0 T gs)) xs=true):Ec Q 68 #[cxV x t,Ag #[pv,rv],S ga (N gs) gc,S a (N xs) c] V λe w'=>e=Z (.tuple #[U O (bodyR (JQ x frm oty (fn0 T gs) 0 xs)).1,U O (bodyR (JQ x frm oty (fn0 T gs) 0 xs)).2])/\Mo D w0 ks w':=by
 obtain⟨M,hM⟩:∃M,M=JQ x frm oty (fn0 T gs) 0 xs:=⟨_,rfl⟩;rw[<- hM];obtain⟨ta,tc,fa,fc,I,H,et,ef,eg⟩:=hx.shape hm;obtain⟨tv,fv,gv,c8⟩:=t;dsimp only at et ef eg;subst et ef eg;obtain⟨pa,pc,rfl,_⟩:=tp.shape hm (λr A=>by cases A);obtain⟨ra,rc,rfl,_⟩:=tr.shape hm (λr A=>by cases A);obtain⟨q,hq⟩:∃q,q=V.heap.size:=⟨_,rfl⟩;obtain⟨W,hW⟩:∃W,W=(V.alloc (Fc #[S ta (N x.types) tc,S fa (N x.funcs) fc,S I (N x.globals) H,U O x.imports,U O x.tables,U O x.mems] 66)).alloc (Fc #[S pa (N T.ps) pc,S ra (N T.rs) rc] 148):=⟨_,rfl⟩;obtain⟨L0,v⟩:∃L0:List Qc,L0=box 148 2 (q+1) [S pa (N T.ps) pc,S ra (N T.rs) rc]::box 66 6 q [S ta (N x.types) tc,S fa (N x.funcs) fc,S I (N x.globals) H,U O x.imports,U O x.tables,U O x.mems]::ks:=⟨_,rfl⟩;have ad:Mo D w0 L0 W:=by have:=(hm.box (cur:=#[S ta (N x.types) tc,S fa (N x.funcs) fc,S I (N x.globals) H,U O x.imports,U O x.tables,U O x.mems]) 66 6 rfl).box (cur:=#[S pa (N T.ps) pc,S ra (N T.rs) rc]) 148 2 rfl;rw[hW,v,hq];simpa using this
 have CL:Hid (∀{ns:List Qc} {W':J},Mo D w0 (ns++L0) W'->W'.cell? ⟨q,0,none⟩=some (S ta (N x.types) tc)/\W'.cell? ⟨q,1,none⟩=some (S fa (N x.funcs) fc)/\W'.cell? ⟨q,2,none⟩=some (S I (N x.globals) H)/\W'.cell? ⟨q,3,none⟩=some (U O x.imports)/\W'.cell? ⟨q,4,none⟩=some (U O x.tables)/\W'.cell? ⟨q,5,none⟩=some (U O x.mems)):=λh=>by rw[v]at h;have z:=λ(j:Nat) (u:Vu) (hj:j<6) (hu:[Tq ta (N x.types) tc,S fa (N x.funcs) fc,S I (N x.globals) H,U O x.imports,U O x.tables,U O x.mems][j]?=some u)=>(h.bx (t:=66) (n:=6) (g:=q) (cs:=[S ta (N x.types) tc,S fa (N x.funcs) fc,S I (N x.globals) H,U O x.imports,U O x.tables,U O x.mems]) (by simp) j hj hu).1;exact⟨z 0 _ (by omega) rfl,z 1 _ (by omega) rfl,z 2 _ (by omega) rfl,z 3 _ (by omega) rfl,z 4 _ (by omega) rfl,z 5 _ (by omega) rfl⟩
 have e0:W.cell? ⟨q+1,0,none⟩=some (S pa (N T.ps) pc):=by have h:=ad;rw[v]at h;exact(h.b0 0).1
 have e1:W.cell? ⟨q+1,1,none⟩=some (S ra (N T.rs) rc):=by have h:=ad;rw[v]at h;exact(h.b0 1).1
 have br:=Hm (sbegin_c T _ _ ga gc gs ad tp tr hg b5 ae hs);have cc:Hid (∀r∈ks,r∈L0):=λr A=>by rw[v];simp[A]
 have bq:Hid (∀{ns:List Qc} {W':J},Mo D w0 (ns++L0) W'->Mo D w0 ks W'):=λh=>by have:=h.right;rw[v]at this;exact this.tail.tail
 have ca:=Hm hx;have HL:=Hm hL;have bo:=Hm hI;have ax:=Hm hM;have a3:=Hm (⟨B,bl⟩:Bd (fn0 T gs)/\goM (nst (fn0 T gs)) xs=true);clear hm ad hx tp tr hg hs B hL hI bl hM v;go_enter func68,ntmps68;go_upto_region 1 with fail
 rw[<- hW,<- hq];clear hW hq;go_wp2_with fail
 refine br.o.mono ?_;rintro e w1 ⟨p,lv,E,rfl,m,ai⟩;have bp:=Hm m;have cd:=Hm ai;clear m ai br e0 e1;go_wp2_with fail
 go_loopw [11] (λi wr=>∃(k:Nat) (d:Fn) (ns:List Qc),k<=N xs/\i=U O k/\MSt D w0 p lv (X3 (fn0 T gs)) (ns++(E++L0)) ⟨d,0⟩ wr/\Bd d/\N d.blocks<=k+1/\N d.stack<=k*1048576/\d.ps=(fn0 T gs).ps/\d.locs=(fn0 T gs).locs/\goM (nst d) (xs.drop k)=true/\M=JQ x frm oty d k (xs.drop k)) (λi _=>N xs-(intOf i).toNat)
 case atStart=>exact⟨0,fn0 T gs,[],Kz _,rfl,bp.o,a3.o.1,lRz,lRz,rfl,rfl,a3.o.2,ax.o⟩
 obtain⟨k,d,ns,hk,rfl,m,B1,ap,ak,e1,e2,s,F⟩:=hrel;obtain⟨dk,dj,di,dh,dg,df⟩:=CL.o (ns:=ns++E) (by rw[Kw];exact m.mo);by_cases X:k<N xs
 . (have c6:(k:Int)<(N xs:Int):=by omega);rcases HL.o with hx|⟨b,off,b9,hb,hc⟩
   . subst hx;simp at X
   obtain⟨la,lc,c0,c1,c2,c3,c4,tL⟩:=hc k X;have af:=bo.o (xs.getD k I0) (by simp[Kg,X]);rw[Xv xs k X]at s;have bg:=m.mo.b;have kp:=λ(o:Nat) (u:Vu) (hu:w0.cell? ⟨b,o,none⟩=some u)=>(bg.cell (p:=⟨b,o,none⟩) hb).trans hu;have d0:=kp _ _ c0;have d1:=kp _ _ c1;have d2:=kp _ _ c2;have d3:=kp _ _ c3;have d4:=kp _ _ c4;rw[bodyG_drop x frm oty d xs k X]at F;obtain⟨y,hy⟩:∃y,y=xs.getD k I0:=⟨_,rfl⟩;rw[<- hy]at d0 d1 d2 d3 d4 tL af s F;have ao:gd y=true:=by
    by_cases e:gd y=true
    . exact e
    simp[goM,e]at s
   obtain⟨n',l,aj⟩:∃n',QJ (nst d) y.op=some n'/\goM n' (xs.drop (k+1))=true:=by
    cases hsm:QJ (nst d) y.op with
    |none=>simp[goM,ao,hsm]at s
    |some n'=>exact⟨n',rfl,by simpa[goM,ao,hsm]using s⟩
   have ac:d.blocks≠[]:=λe=>by simp[QJ,nst,e]at l
   have h4:y.op=5->(top d).op=4:=λe=>by
    apply nst_top;rw[e]at l;unfold QJ at l;split at l
    . cases l
    simp at l;exact l.1
   (have ae:QP d=QP (fn0 T gs):=by simp[QP,e1,e2]);(have bf:X3 (fn0 T gs)=X3 d:=by simp[X3,e1,e2]);have cb:=Hm (sstep_c y la lc (m.drewN 1) (ca.o.sub (λr A=>mR (mR (cc.o r A)))) (by rw[ae];exact mR cd.o) bf B1 C ac af tL);have au:=Hm (mstep_rf x frm oty d y B1.inv ac h4);have HK:=Hm (λs' (hs':step x frm oty d y=.ok s')=>step_kp hs' C B1 ac af.a0 l);have a2:=Hm (λs' n (K:Kp d s' n)=>bd_next B1 K (k:=k) (by omega) ap ak);have ah:=Hm F;have ay:=Hm aj;have a1:=Hm e1;have az:=Hm e2;clear m B1 ap ak e1 e2 s F hc c0 c1 c2 c3 c4 tL af hy ao l ac bg kp aj ax ae bf h4 a3 bp;subst b9;go_wp2_with fail
   go_region_law (first
    | (
     go_simp
     go_at_call 105
     refine cb.o.mono ?_
     rintro e w2 ⟨rfl,ab,aq⟩;have q9:=aq.err;have Y:=Hm aq;clear aq))
   all_goals
    rcases au.o with ⟨L,A,R⟩|⟨f,A,R,bj⟩
    . have aa:Hid (M=JQ x frm oty L (k+1) (xs.drop (k+1))):=by show M=_;rw[ah.o,A]
      have K:=HK.o L A;obtain⟨B2,bm,bd⟩:=a2.o L _ K;have av:Hid (L.ps=(fn0 T gs).ps/\L.locs=(fn0 T gs).locs/\goM (nst L) (xs.drop (k+1))=true):=⟨K.ps.trans a1.o,K.locs.trans az.o,by rw[K.nst];exact ay.o⟩;rw[R]at Y q9
      dsimp only at q9
      have cf:Hid (MSt D w0 p lv (X3 (fn0 T gs)) ((ab++ns)++(E++L0)) ⟨L,0⟩ w2):=by
       show MSt D w0 p lv (X3 (fn0 T gs)) ((ab++ns)++(E++L0)) ⟨L,0⟩ w2
       rw[Kw];exact Y.o
      have a4:=Hm (⟨B2,bm,bd⟩:Bd L/\N L.blocks<=k+1+1/\N L.stack<=(k+1)*1048576);clear A K B2 bm bd Y HK a2 ah ay a1 az R au
      go_wp2
      go_roundw
      case rel=>exact⟨k+1,L,ab++ns,by omega,by go_num,cf.o,a4.o.1,a4.o.2.1,a4.o.2.2,av.o.1,av.o.2.1,av.o.2.2,aa.o⟩
      case measure=>simp[intOf];omega
    . have aa:Hid (M=.error (f,k)):=by show M=_;rw[ah.o,A]
      rw[R]at q9;have k0:(f != 0)=true:=by simpa using bj
      have aw:Hid (Mo D w0 ks w2):=bq.o (ns:=ab++(ns++E)) (by simpa[Kw]using Y.o.mo);clear A Y HK a2 ah ay a1 az R au bj
      go_wp2
      go_ret2
      exact⟨by rw[aa.o];rfl,aw.o⟩
 have e:k=N xs:=by omega
 subst e;have aa:Hid (M=.ok d):=by show M=_;rw[F,Ld lRz];rfl
 have aw:Hid (Mo D w0 ks wr):=bq.o (ns:=ns++E) (by rw[Kw];exact m.mo);clear m B1 ap ak e1 e2 s F HL bo ax;go_wp2;go_ret2
 exact⟨by rw[aa.o];rfl,aw.o⟩
def lstR (r:Except (Int × Nat) (List Int)):Int × Nat:=match r with|.error e=>e|.ok _=>(0,0)
theorem goM_nil (n:List Bool)(h:goM n []=true):n=[]:=by simpa[goM]using h
theorem goM_empty {xs:List In}(h:goM [] xs=true):xs=[]:=by
 cases xs with
 |nil=>rfl
 |cons y ys =>
  rw[goM]at h
  split at h
  · simp[QJ]at h
  . cases h
theorem goM_const {b:List In}(h:goM [false] (y::b)=true)(a:y.op≠11)(c:(65<=y.op/\y.op<=68)\/y.op=35):goM [false] b=true:=by
 rw[goM]at h;split at h
 . (have e:QJ [false] y.op=some [false]:=by unfold QJ;rw[if_neg (by simp),if_neg (by omega),if_neg (by omega),if_neg (by omega),if_neg a]);rw[e]at h;exact h
 cases h
theorem goM_end {b:List In}(h:goM [false] (y::b)=true)(a:y.op=11):b=[]:=by
 rw[goM]at h;split at h
 . rw[a]at h;simp[QJ]at h;exact goM_empty h
 cases h
theorem slist_c {D w0 ks V}(a:Option Addr)(c:Nat)(xs:List In)(want:Int)(hm:Mo D w0 ks V)(hx:CtR D w0 x t ks)(hL:InL D w0 a xs)(aj:N xs<=1048576)(hI:∀y∈xs,InB y)(hi:x.imports<=N x.globals)(B:QF xs=true):Ec Q 64 #[cxV x t,S a (N xs) c,U O want] V λe w'=>e=Z (.tuple #[U O (lstR (QS x x.imports want [] 0 xs)).1,U O (lstR (QS x x.imports want [] 0 xs)).2])/\Mo D w0 ks w':=by
 obtain⟨M,hM⟩:∃M,M=QS x x.imports want [] 0 xs:=⟨_,rfl⟩;rw[<- hM];obtain⟨I,H,Y,X,R,L,et,ef,eg⟩:=hx.shape hm;obtain⟨tv,fv,gv,ba⟩:=t;dsimp only at et ef eg;subst et ef eg;obtain⟨q,hq⟩:∃q,q=V.heap.size:=⟨_,rfl⟩;obtain⟨W,hW⟩:∃W,W=V.alloc (Fc #[S I (N x.types) H,S Y (N x.funcs) X,S R (N x.globals) L,U O x.imports,U O x.tables,U O x.mems] 66):=⟨_,rfl⟩;have ab:Mo D w0 (box 66 6 q (cx6 x I H Y X R L)::ks) W:=by have:=hm.box (cur:=#[S I (N x.types) H,S Y (N x.funcs) X,S R (N x.globals) L,U O x.imports,U O x.tables,U O x.mems]) 66 6 rfl;rw[hW,hq];simpa using this
 have HX:=Hm (hx.sub (ks':=box 66 6 q (cx6 x I H Y X R L)::ks) (λr hr=>by simp[hr]));have ay:=Hm ab;have HL:=Hm hL;have HI:=Hm hI;have az:=Hm hM;have aq:0<N xs:=by
  cases xs with
  |nil=>cases(goM_nil _ B)
  |cons y ys=>simp
 have a1:=Hm B;clear hm ab hx hL hI hM B;go_enter func64,ntmps64;go_upto_region 1 with fail
 rw[<- hW,<- hq];clear hW hq;go_wp2_with fail
 go_loopw [8] (λi wr=>∃k:Nat,k<=N xs/\i=U O k/\Mo D w0 (box 66 6 q (cx6 x I H Y X R L)::ks) wr/\((k=N xs/\∃g,M=.ok g)\/(k<N xs/\goM [false] (xs.drop k)=true/\M=QS x x.imports want ((xs.take k).map (ctyM x)) k (xs.drop k)/\(k=1->cgood x (xs.getD 0 I0))))) (λi _=>N xs-(intOf i).toNat)
 case atStart=>exact⟨0,Kz _,rfl,ay.o,.inr ⟨aq,a1.o,az.o,λh=>by cases h⟩⟩
 obtain⟨k,hk,rfl,b,hr⟩:=hrel;have x0:=(b.b0 0 (u:=S I (N x.types) H)).1;have x1:=(b.b0 1 (u:=S Y (N x.funcs) X)).1;have x2:=(b.b0 2 (u:=S R (N x.globals) L)).1;have x3:=(b.b0 3 (u:=U O x.imports)).1;have x4:=(b.b0 4 (u:=U O x.tables)).1;have x5:=(b.b0 5 (u:=U O x.mems)).1;have p:=Hm b;rcases hr with ⟨rfl,g,af⟩|⟨l,A,F,ae⟩
 . have HE:=Hm af;clear b af;go_wp2;(go_ret2);exact⟨by rw[HE.o];rfl,p.o.tail⟩
 have a8:(k:Int)<(N xs:Int):=by omega
 have HC:=Hm (sconst_c a c xs k want b HX.o HL.o l aj HI.o ae hi);obtain⟨y,hy⟩:∃y,y=xs.getD k I0:=⟨_,rfl⟩;have C:=cst_eq (x:=x) (want:=want) hy l rfl;rw[listC_drop x x.imports want _ xs k l,<- hy]at F;rw[Xv xs k l,<- hy]at A;obtain⟨E,hE⟩:∃E,E=constE x xs k want:=⟨_,rfl⟩;rw[<- hE]at HC C;have HY:=Hm hy;have n:=Hm A;have j:=Hm F;have s:=Hm C;clear b A F ae hy C hE;rcases s.o with ⟨z,h2,v,h4⟩|⟨z,h2,v⟩|⟨f,z,h2,v⟩
 . subst h2;have d:=goM_const n.o v (h4.imp id (λh=>h.1));have ac:k+1<N xs:=by
    by_cases e:k+1<N xs
    . exact e
    rw[Ld (by omega)]at d;cases(goM_nil _ d)
   have HN:Hid (k+1<N xs/\goM [false] (xs.drop (k+1))=true/\M=QS x x.imports want ((xs.take (k+1)).map (ctyM x)) (k+1) (xs.drop (k+1))/\(k+1=1->cgood x (xs.getD 0 I0))):=by
    refine⟨ac,d,?_,λe=>?_⟩
    . rw[j.o,z,JF xs k I0 l,Lx,HY.o];rfl
    (have:k=0:=by omega);subst this;rw[<- HY.o];exact h4
   clear z v h4 d j n s HY;(go_wp2_with (go_at_call 103;refine HC.o.mono ?_;rintro e w2 ⟨rfl,m⟩));(go_roundw);(case rel=>exact⟨k+1,by omega,by go_num,p.o.keep m,.inr HN.o⟩);case measure=>simp[intOf];omega
 . subst h2;have hd:=goM_end n.o v;(have ad:k+1=N xs:=by have:=congrArg List.length hd;simp at this;omega);have HN:Hid (k+1=N xs/\∃g,M=.ok g):=⟨ad,_,by rw[j.o,z,hd];rfl⟩;clear z v hd j n s HY;(go_wp2_with (go_at_call 103;refine HC.o.mono ?_;rintro e w2 ⟨rfl,m⟩));(go_roundw);(case rel=>exact⟨k+1,by omega,by go_num,p.o.keep m,.inl HN.o⟩);case measure=>simp[intOf];omega
 subst h2;have HE:Hid (M=.error (E,k)):=by show M=_;rw[j.o,z]
 have n0:(E != 0)=true:=by simpa using v
 clear z v j n s HY;go_wp2_with (go_at_call 103;refine HC.o.mono ?_;rintro e w2 ⟨rfl,m⟩)
 go_ret2
 exact⟨by rw[HE.o];rfl,(p.o.keep m).tail⟩
def startE (x:Ctx)(i:Int):Int:=if i<N x.funcs then(if(x.funcs.getD i.toNat Qe.z).ps=[]/\(x.funcs.getD i.toNat Qe.z).rs=[]then 0 else 6)else 2
theorem sstart_c {D w0 ks V}(l:Mo D w0 ks V)(s:CtR D w0 x t ks)(h0:0<=md.start)(C:CxB x):Ec Q 66 #[cxV x t,mdV md A] V λe w'=>e=Z (U O (startE x md.start))/\Below V.heap.size V w':=by
 obtain⟨ta,Y,X,R,ga,gc,et,ef,eg⟩:=s.shape l;obtain⟨tv,fv,gv,ax⟩:=t;dsimp only at et ef eg;subst et ef eg;obtain⟨n,y⟩:∃n:Nat,md.start=n:=⟨md.start.toNat,by omega⟩;obtain⟨W,j⟩:∃W,W=(V.alloc (Fc #[S ta (N x.types) Y,S X (N x.funcs) R,S ga (N x.globals) gc,U O x.imports,U O x.tables,U O x.mems] 66)).alloc (Fc (mdC md A) 48):=⟨_,rfl⟩;obtain⟨q,k⟩:∃q,q=V.heap.size:=⟨_,rfl⟩;have f:Mo D w0 (box 48 13 (q+1) (mdC md A).toList::box 66 6 q (cx6 x ta Y X R ga gc)::ks) W:=by have:=(l.box (cur:=#[S ta (N x.types) Y,S X (N x.funcs) R,S ga (N x.globals) gc,U O x.imports,U O x.tables,U O x.mems]) 66 6 rfl).box (cur:=mdC md A) 48 13 rfl;rw[j,k];simpa using this
 have e8:W.cell? ⟨q+1,8,none⟩=some (U O (n:Int)):=by rw[<- y];exact(f.b0 8 (u:=U O md.start)).1
 have c1:=(f.tail.b0 1 (u:=S X (N x.funcs) R)).1;have HB:Hid (Below V.heap.size V W):=by show Below V.heap.size V W;rw[j];exact(bFz.alloc lRz _).alloc (by simp) _
 rw[y];obtain⟨E,c⟩:∃E,E=startE x (n:Int):=⟨_,rfl⟩;rw[<- c];unfold startE at c;rw[Int.toNat_natCast]at c;by_cases B:n<N x.funcs
 . (have k1:¬((N x.funcs:Int)<=(n:Int)):=by omega);(have i5:(n:Int)<(N x.funcs:Int):=by omega);rw[if_pos i5]at c;obtain⟨a0,ay,e,m⟩:=QA f (mC (mC s.fr));cases e;obtain⟨g,rfl,b⟩:=m (by omega);obtain⟨pv,rv,ep,er,L,I⟩:=s.ft.get B ks;have gp:=b _ _ ep (by omega);have gr:=b _ _ er (by omega);have hC:=C.fu _ (XO B);obtain⟨T,hT⟩:∃T,T=x.funcs.getD n Qe.z:=⟨_,rfl⟩;rw[<- hT]at L I hC c;obtain⟨pa,pc,rfl,_⟩:=L.shape l (λr hr=>hr);obtain⟨ra,rc,rfl,_⟩:=I.shape l (λr hr=>hr);(have hw:IntKind.i64.wrap ((N T.ps:Int)+(N T.rs:Int))=(N T.ps:Int)+(N T.rs:Int):=by rw[Kv];omega);obtain⟨v,a⟩:∃v,v=W.alloc (Fc #[S pa (N T.ps) pc,S ra (N T.rs) rc] 148):=⟨_,rfl⟩;obtain⟨M,d⟩:∃M,M=W.heap.size:=⟨_,rfl⟩;(have z0:v.cell? ⟨M,0,none⟩=some (S pa (N T.ps) pc):=by rw[a,d];exact Qf rfl rfl);(have z1:v.cell? ⟨M,1,none⟩=some (S ra (N T.rs) rc):=by rw[a,d];exact Qf rfl rfl);(have H:Hid (Below V.heap.size V v):=by show Below V.heap.size V v;rw[a];exact HB.o.alloc HB.o.size _);by_cases p:T.ps=[]/\T.rs=[]
   . rw[if_pos p]at c;(have k2:¬((0:Int)<(N T.ps:Int)+(N T.rs:Int)):=by rw[p.1,p.2];simp);have F:=Hm c;clear l f s c L I m b ep er hT p y hC;go_enter func66,ntmps66;(go_upto_region 1 with fail);rw[<- j,<- k];clear j k;(go_upto_region 4 with fail);rw[<- a,<- d];clear a d;go_wp2;go_ret;rw[F.o];exact⟨rfl,H.o⟩
   rw[if_neg p]at c;have k2:((0:Int)<(N T.ps:Int)+(N T.rs:Int)):=by
    by_cases c1:T.ps=[]
    . have c2:T.rs≠[]:=λc2=>p ⟨c1,c2⟩;have:=List.length_pos_iff.2 c2;omega
    have:=List.length_pos_iff.2 c1;omega
   have F:=Hm c;clear l f s c L I m b ep er hT p y hC;go_enter func66,ntmps66;(go_upto_region 1 with fail);rw[<- j,<- k];clear j k;(go_upto_region 4 with fail);rw[<- a,<- d];clear a d;go_wp2;go_ret;rw[F.o];exact⟨rfl,H.o⟩
 have k1:(N x.funcs:Int)<=(n:Int):=by omega
 rw[if_neg (by omega)]at c;have F:=Hm c;clear l f s c y;go_enter func66,ntmps66;go_upto_region 1 with fail
 rw[<- j,<- k];clear j k;go_wp2;go_ret;rw[F.o];exact⟨rfl,HB.o⟩
theorem simp_x:(∀⦃D:Nat⦄ ⦃w0:J⦄ ⦃ks:List Qc⦄ ⦃V:J⦄ ⦃md:Mod⦄ ⦃A:MdA⦄ (n:Nat) (mod g:ByteArray) (ty:Int) (a:Qg) (gl:Qx) (hm:Mo D w0 ks V) (R:MdI D w0 md A) (hn:n<N md.imps) (hl:N md.imps<=1048576) (hy:md.imps.getD n Imp.z=⟨mod,g,1,ty,a,gl⟩),Ec Q 62 #[mdV md A,U O (n:Int)] V λe w'=>e=Z (U O (XB md n ⟨mod,g,1,ty,a,gl⟩))/\Below V.heap.size V w')/\(∀⦃D:Nat⦄ ⦃w0:J⦄ ⦃ks:List Qc⦄ ⦃V:J⦄ ⦃md:Mod⦄ ⦃A:MdA⦄ (n:Nat) (mod g:ByteArray) (ty:Int) (a:Qg) (gl:Qx) (hm:Mo D w0 ks V) (R:MdI D w0 md A) (hn:n<N md.imps) (hl:N md.imps<=1048576) (hy:md.imps.getD n Imp.z=⟨mod,g,2,ty,a,gl⟩),Ec Q 62 #[mdV md A,U O (n:Int)] V λe w'=>e=Z (U O (XB md n ⟨mod,g,2,ty,a,gl⟩))/\Below V.heap.size V w'):=by
 refine⟨?c0,?c1⟩;case' c0=>have c:=0
 case' c1=>have v:=0
 all_goals
  intro D w0 ks V md A n mod g ty a gl hm R hn hl hy
  obtain⟨W,hW⟩:∃W,W=V.alloc (Fc (mdC md A) 48):=⟨_,rfl⟩;obtain⟨q,hq⟩:∃q,q=V.heap.size:=⟨_,rfl⟩;have l:Mo D w0 (box 48 13 q (mdC md A).toList::ks) W:=by rw[hW,hq];exact hm.box (cur:=mdC md A) 48 13 rfl
  rcases R.is.2.1 with hx|⟨b,off,ea,_,hc⟩
  . rw[hx]at hn;simp at hn
  have X:=hc n hn;rw[hy]at X;obtain⟨⟨k0,k1,k2,k3,k4,k5,k6,k7,k8⟩,_⟩:=X;have t:=λ(o:Nat) (u:Vu) (hu:w0.cell? ⟨b,o,none⟩=some u)=>(l.b.cell (p:=⟨b,o,none⟩) (R.cd _ _ _ hu)).trans hu;have d0:=t _ _ k0;have d1:=t _ _ k1;have d2:=t _ _ k2;have d3:=t _ _ k3;have d4:=t _ _ k4;have d5:=t _ _ k5;have d6:=t _ _ k6;have d7:=t _ _ k7;have d8:=t _ _ k8
  dsimp only at d0 d1 d2 d3 d4 d5 d6 d7 d8
  have e1:=Ql l (mS ..) 1 (u:=S A.a2 (N md.imps) A.c2);rw[ea]at e1
  first|(replace c:=c;obtain⟨r,k⟩:∃r,r=W.alloc (Fc #[Xs mod,Xs g,U O 1,U O ty,U O a.min,U O a.max,G a.has,U O gl.ty,G gl.mu] 147):=⟨_,rfl⟩)|(obtain⟨r,k⟩:∃r,r=W.alloc (Fc #[Xs mod,Xs g,U O 2,U O ty,U O a.min,U O a.max,G a.has,U O gl.ty,G gl.mu] 147):=⟨_,rfl⟩)
  obtain⟨q2,y⟩:∃q2,q2=W.heap.size:=⟨_,rfl⟩
  first
  | (
   replace c:=c
   have f:Mo D w0 (box 147 9 q2 [Xs mod,Xs g,U O 1,U O ty,U O a.min,U O a.max,G a.has,U O gl.ty,G gl.mu]::box 48 13 q (mdC md A).toList::ks) r:=by
    rw[k,y];exact l.box (cur:=#[Xs mod,Xs g,U O 1,U O ty,U O a.min,U O a.max,G a.has,U O gl.ty,G gl.mu]) 147 9 rfl)
  | (
   replace v:=v
   have f:Mo D w0 (box 147 9 q2 [Xs mod,Xs g,U O 2,U O ty,U O a.min,U O a.max,G a.has,U O gl.ty,G gl.mu]::box 48 13 q (mdC md A).toList::ks) r:=by
    rw[k,y];exact l.box (cur:=#[Xs mod,Xs g,U O 2,U O ty,U O a.min,U O a.max,G a.has,U O gl.ty,G gl.mu]) 147 9 rfl)
  first|(replace c:=c;have r2:=(f.b0 2 (u:=U O 1)).1)|(have r2:=(f.b0 2 (u:=U O 2)).1)
  have r4:=(f.b0 4 (u:=U O a.min)).1;have r5:=(f.b0 5 (u:=U O a.max)).1;have r6:=(f.b0 6 (u:=G a.has)).1
  have HB:Hid (Below V.heap.size V r):=by
   show Below V.heap.size V r
   rw[k,hW];exact(bFz.alloc lRz _).alloc (by simp) _
  have bw:(n:Int)<(N md.imps:Int):=by omega
  have Y:=Hm f;have L:=Hm R;clear hm l f R hc k0 k1 k2 k3 k4 k5 k6 k7 k8 t hy ea
  first|(replace c:=c;obtain⟨j,m⟩:∃j,j=limE a false:=⟨_,rfl⟩)|(obtain⟨j,m⟩:∃j,j=limE a true:=⟨_,rfl⟩)
  first|(replace c:=c;have B:=Hm (slim_c a false r))|(have B:=Hm (slim_c a true r))
  rw[<- m]at B
  first
  | (
   replace c:=c
   have M:Hid (XB md n ⟨mod,g,1,ty,a,gl⟩=if j=0 then(if 0<QZ md 1 n then 4 else 0)else j):=by
    show XB _ _ _=_
    rw[m];simp[XB])
  | (
   replace v:=v
   have M:Hid (XB md n ⟨mod,g,2,ty,a,gl⟩=if j=0 then(if 0<QZ md 2 n then 4 else 0)else j):=by
    show XB _ _ _=_
    rw[m];simp[XB])
  clear m
  go_enter func62,ntmps62
  go_upto_region 1 with fail
  rw[<- hW,<- hq];clear hW hq
  go_upto_region 2 with fail
  rw[<- k,<- y];clear k y d0 d1 d2 d3 d4 d5 d6 d7 d8 e1
  go_wp2_with fail
  refine B.o.mono ?_
  rintro e w3 ⟨rfl,I⟩;have d:=Y.o.keep I;have s:=Hm (HB.o.trans (I.mono HB.o.size))
  first|(replace c:=c;have s2:=(d.b0 2 (u:=U O 1)).1)|(have s2:=(d.b0 2 (u:=U O 2)).1)
  have m0:=Ql d (mC (mS ..)) 0 (u:=S A.a1 (N md.types) A.c1);have m1:=Ql d (mC (mS ..)) 1 (u:=S A.a2 (N md.imps) A.c2);have m2:=Ql d (mC (mS ..)) 2 (u:=S A.a3 (N md.funcs) A.c3);have m3:=Ql d (mC (mS ..)) 3 (u:=S A.a4 (N md.tabs) A.c4);have m4:=Ql d (mC (mS ..)) 4 (u:=S A.a5 (N md.mems) A.c5);have m5:=Ql d (mC (mS ..)) 5 (u:=S A.a6 (N md.globs) A.c6);have m6:=Ql d (mC (mS ..)) 6 (u:=S A.a7 (N md.exps) A.c7);have m7:=Ql d (mC (mS ..)) 7 (u:=G md.hasS);have m8:=Ql d (mC (mS ..)) 8 (u:=U O md.start);have m9:=Ql d (mC (mS ..)) 9 (u:=S A.a8 (N md.elems) A.c8);have bt:=Ql d (mC (mS ..)) 10 (u:=S A.a9 (N md.codes) A.c9);have bs:=Ql d (mC (mS ..)) 11 (u:=S A.a10 (N md.datas) A.c10);have br:=Ql d (mC (mS ..)) 12 (u:=S A.a11 (N md.customs) A.c11)
  first|(replace c:=c;have C:=Hm (sbefore_c (A:=A) n 1 d L.o (by omega) hl))|(have C:=Hm (sbefore_c (A:=A) n 2 d L.o (by omega) hl))
  first|(replace c:=c;obtain⟨E,F⟩:∃E,E=QZ md 1 n:=⟨_,rfl⟩)|(obtain⟨E,F⟩:∃E,E=QZ md 2 n:=⟨_,rfl⟩)
  rw[<- F]at C M;clear d I Y L F r2 r4 r5 r6 B
  by_cases c0:j=0
  . subst c0
    by_cases cn:0<E
    . have kn:((0:Int)<(E:Int)):=by omega
      go_wp2_with (go_at_call 102;refine C.o.mono ?_;rintro e w4 ⟨rfl,H⟩)
      go_ret
      rw[M.o]
      exact⟨by simp[cn],s.o.trans (H.mono s.o.size)⟩
    . have kn:¬((0:Int)<(E:Int)):=by omega
      go_wp2_with (go_at_call 102;refine C.o.mono ?_;rintro e w4 ⟨rfl,H⟩)
      go_ret
      rw[M.o]
      exact⟨by simp[cn],s.o.trans (H.mono s.o.size)⟩
  . have kl:(j==0)=false:=by simp[c0]
    first|(replace c:=c;have aa:Hid (XB md n ⟨mod,g,1,ty,a,gl⟩=j):=by show _=_;rw[M.o,if_neg c0])|(have aa:Hid (XB md n ⟨mod,g,2,ty,a,gl⟩=j):=by show _=_;rw[M.o,if_neg c0])
    clear c0 M
    go_wp2
    go_ret
    rw[aa.o]
    exact⟨rfl,s.o⟩
def simp_1:=simp_x.1
def simp_2:=simp_x.2
def ownL (md:Mod)(i:Nat)(mem:Bool):Qg:=if mem then md.mems.getD i Qg.z else md.tabs.getD i Qg.z
def XT (md:Mod)(i:Nat)(mem:Bool):Int:=if limE (ownL md i mem) mem=0 then(if 0<i+QZ md (if mem then 2 else 1) (N md.imps)then 4 else 0)else limE (ownL md i mem) mem
theorem sown_x:(∀⦃D:Nat⦄ ⦃w0:J⦄ ⦃ks:List Qc⦄ ⦃V:J⦄ ⦃md:Mod⦄ ⦃A:MdA⦄ (n:Nat) (hm:Mo D w0 ks V) (L:MdI D w0 md A) (hn:n<N md.tabs) (hl:N md.imps<=1048576) (ac:N md.tabs<=1048576),Ec Q 63 #[mdV md A,U O (n:Int),G false] V λe w'=>e=Z (U O (XT md n false))/\Below V.heap.size V w')/\(∀⦃D:Nat⦄ ⦃w0:J⦄ ⦃ks:List Qc⦄ ⦃V:J⦄ ⦃md:Mod⦄ ⦃A:MdA⦄ (n:Nat) (hm:Mo D w0 ks V) (L:MdI D w0 md A) (hn:n<N md.mems) (hl:N md.imps<=1048576) (ac:N md.mems<=1048576),Ec Q 63 #[mdV md A,U O (n:Int),G true] V λe w'=>e=Z (U O (XT md n true))/\Below V.heap.size V w'):=by
 refine⟨?c0,?c1⟩;case' c0=>have a:=0
 case' c1=>have t:=0
 all_goals
  intro D w0 ks V md A n hm L hn hl ac
  first|(replace a:=a;obtain⟨l,m⟩:∃l,l=md.tabs.getD n Qg.z:=⟨_,rfl⟩)|(obtain⟨l,m⟩:∃l,l=md.mems.getD n Qg.z:=⟨_,rfl⟩)
  first
  | (
   replace a:=a
   have d:Hid (XT md n false=if limE l false=0 then(if 0<n+QZ md 1 (N md.imps)then 4 else 0)else limE l false):=by
    show XT md n false=_
    rw[m];rfl)
  | (
   replace t:=t
   have d:Hid (XT md n true=if limE l true=0 then(if 0<n+QZ md 2 (N md.imps)then 4 else 0)else limE l true):=by
    show XT md n true=_
    rw[m];rfl)
  obtain⟨W,hW⟩:∃W,W=(V.alloc (Fc (mdC md A) 48)).alloc (Fc #[U O 0,U O 0,G false] 144):=⟨_,rfl⟩;obtain⟨q,hq⟩:∃q,q=V.heap.size:=⟨_,rfl⟩
  have f:Mo D w0 (box 144 3 (q+1) [U O 0,U O 0,G false]::box 48 13 q (mdC md A).toList::ks) W:=by
   have:=(hm.box (cur:=mdC md A) 48 13 rfl).box (cur:=#[U O 0,U O 0,G false]) 144 3 rfl
   rw[hW,hq]
   simpa using this
  first|(replace a:=a;rcases L.is.2.2.2.1 with hx|⟨b,off,ea,_,hc⟩)|(rcases L.is.2.2.2.2.1 with hx|⟨b,off,ea,_,hc⟩)
  . rw[hx]at hn;simp at hn
  have ad:=hc n hn;rw[<- m]at ad;obtain⟨⟨k0,k1,k2⟩,_⟩:=ad;have kp:=λ(o:Nat) (u:Vu) (hu:w0.cell? ⟨b,o,none⟩=some u)=>(f.b.cell (p:=⟨b,o,none⟩) (L.cd _ _ _ hu)).trans hu;have d0:=kp _ _ k0;have d1:=kp _ _ k1;have d2:=kp _ _ k2
  first|(replace a:=a;have e1:=Ql f (mC (mS ..)) 3 (u:=S A.a4 (N md.tabs) A.c4))|(have e1:=Ql f (mC (mS ..)) 4 (u:=S A.a5 (N md.mems) A.c5))
  rw[ea]at e1;obtain⟨z0,y0⟩:=f.b0 0 (u:=U O 0);obtain⟨z1,y1⟩:=f.b0 1 (u:=U O 0);obtain⟨z2,y2⟩:=f.b0 2 (u:=G false)
  have hB:Below V.heap.size V W:=by
   rw[hW];exact(bFz.alloc lRz _).alloc (by simp) _
  have E:V.heap.size<=q+1:=by omega
  obtain⟨M,B⟩:∃M,M=((W.setCell ⟨q+1,0,none⟩ (U O l.min)).setCell ⟨q+1,1,none⟩ (U O l.max)).setCell ⟨q+1,2,none⟩ (G l.has):=⟨_,rfl⟩
  have k:Mo D w0 (box 144 3 (q+1) [U O l.min,U O l.max,G l.has]::box 48 13 q (mdC md A).toList::ks) M:=by
   rw[B];exact((f.set 0 (U O l.min)).set 1 (U O l.max)).set 2 (G l.has)
  have Y:Hid (Below V.heap.size V M):=by
   show Below V.heap.size V M
   rw[B];exact((hB.setCell E _).setCell E _).setCell E _
  have r0:=(k.b0 0 (u:=U O l.min)).1;have r1:=(k.b0 1 (u:=U O l.max)).1;have r2:=(k.b0 2 (u:=G l.has)).1
  first|(replace a:=a;have ak:(n:Int)<(N md.tabs:Int):=by omega)|(have ak:(n:Int)<(N md.mems:Int):=by omega)
  first|(replace a:=a;obtain⟨v,y⟩:∃v,v=limE l false:=⟨_,rfl⟩)|(obtain⟨v,y⟩:∃v,v=limE l true:=⟨_,rfl⟩)
  first|(replace a:=a;have C:=Hm (slim_c l false M))|(have C:=Hm (slim_c l true M))
  rw[<- y]at C;have ae:=Hm k;have R:=Hm L;rw[<- y]at d;clear hm f k L hc k0 k1 k2 kp hB m y ea
  go_enter func63,ntmps63
  go_upto_region 3 with fail
  rw[<- hW,<- hq];clear hW hq
  go_upto_region 7 with fail
  rw[<- B];clear B d0 d1 d2 e1 z0 z1 z2 y0 y1 y2
  go_wp2_with fail
  refine C.o.mono ?_
  rintro e w4 ⟨rfl,I⟩;have c:=ae.o.keep I;have s:=Hm (Y.o.trans (I.mono Y.o.size));have m0:=Ql c (mC (mS ..)) 0 (u:=S A.a1 (N md.types) A.c1);have m1:=Ql c (mC (mS ..)) 1 (u:=S A.a2 (N md.imps) A.c2);have m2:=Ql c (mC (mS ..)) 2 (u:=S A.a3 (N md.funcs) A.c3);have m3:=Ql c (mC (mS ..)) 3 (u:=S A.a4 (N md.tabs) A.c4);have m4:=Ql c (mC (mS ..)) 4 (u:=S A.a5 (N md.mems) A.c5);have m5:=Ql c (mC (mS ..)) 5 (u:=S A.a6 (N md.globs) A.c6);have m6:=Ql c (mC (mS ..)) 6 (u:=S A.a7 (N md.exps) A.c7);have m7:=Ql c (mC (mS ..)) 7 (u:=G md.hasS);have m8:=Ql c (mC (mS ..)) 8 (u:=U O md.start);have m9:=Ql c (mC (mS ..)) 9 (u:=S A.a8 (N md.elems) A.c8);have bm:=Ql c (mC (mS ..)) 10 (u:=S A.a9 (N md.codes) A.c9);have bl:=Ql c (mC (mS ..)) 11 (u:=S A.a10 (N md.datas) A.c10);have bj:=Ql c (mC (mS ..)) 12 (u:=S A.a11 (N md.customs) A.c11)
  first|(replace a:=a;have r:=Hm (sbefore_c (A:=A) (N md.imps) 1 c R.o lRz hl))|(have r:=Hm (sbefore_c (A:=A) (N md.imps) 2 c R.o lRz hl))
  first
  | (
   replace a:=a
   have ab:QZ md 1 (N md.imps)<=1048576:=by
    unfold QZ
    exact Ky (Rv _ _) (by simp;omega))
  | (
   replace t:=t
   have ab:QZ md 2 (N md.imps)<=1048576:=by
    unfold QZ
    exact Ky (Rv _ _) (by simp;omega))
  first|(replace a:=a;obtain⟨j,F⟩:∃j,j=QZ md 1 (N md.imps):=⟨_,rfl⟩)|(obtain⟨j,F⟩:∃j,j=QZ md 2 (N md.imps):=⟨_,rfl⟩)
  rw[<- F]at r d ab;clear c I ae R F r0 r1 r2 C Y
  by_cases c0:v=0
  . subst c0
    first|(replace a:=a;have X:Hid (XT md n false=if 0<n+j then 4 else 0):=d.o)|(have X:Hid (XT md n true=if 0<n+j then 4 else 0):=d.o)
    clear d;have hw:IntKind.i64.wrap ((n:Int)+(j:Int))=(n:Int)+(j:Int):=by rw[Kv];omega
    by_cases cn:0<n+j
    . have kn:((0:Int)<(n:Int)+(j:Int)):=by omega
      first|(replace a:=a;have g:Hid (XT md n false=4):=by show _=_;rw[X.o,if_pos cn])|(have g:Hid (XT md n true=4):=by show _=_;rw[X.o,if_pos cn])
      clear X cn
      go_wp2_with (go_at_call 102;refine r.o.mono ?_;rintro e w5 ⟨rfl,H⟩)
      go_ret
      rw[g.o]
      exact⟨rfl,s.o.trans (H.mono s.o.size)⟩
    . have kn:¬((0:Int)<(n:Int)+(j:Int)):=by omega
      first|(replace a:=a;have g:Hid (XT md n false=0):=by show _=_;rw[X.o,if_neg cn])|(have g:Hid (XT md n true=0):=by show _=_;rw[X.o,if_neg cn])
      clear X cn
      go_wp2_with (go_at_call 102;refine r.o.mono ?_;rintro e w5 ⟨rfl,H⟩)
      go_ret
      rw[g.o]
      exact⟨rfl,s.o.trans (H.mono s.o.size)⟩
  . have kl:(v==0)=false:=by simp[c0]
    first|(replace a:=a;have g:Hid (XT md n false=v):=by show _=_;rw[d.o,if_neg c0])|(have g:Hid (XT md n true=v):=by show _=_;rw[d.o,if_neg c0])
    clear c0 d r
    go_wp2
    go_ret
    rw[g.o]
    exact⟨rfl,s.o⟩
def sown_1:=sown_x.1
def sown_2:=sown_x.2
def Xg (x:Ctx)(md:Mod)(n:Nat):Int:=if enm (md.exps.getD n Exp.z)∈(md.exps.take n).map enm then 7 else if szK x (md.exps.getD n Exp.z).kind.toNat<=(md.exps.getD n Exp.z).ix then 2 else 0
theorem ba_eq (a b:ByteArray):(a.toList==b.toList)=decide (a.data.toList=b.data.toList):=by
 rw[ByteArray.toList_eq,ByteArray.toList_eq];by_cases h:a.data.toList=b.data.toList
 . rw[decide_eq_true h,h];simp
 rw[decide_eq_false h];simpa using h
theorem sexport_c {D w0 ks V}(n:Nat)(hm:Mo D w0 ks V)(hx:CtR D w0 x t ks)(hI:MdI D w0 md A)(hn:n<N md.exps)(hl:N md.exps<=1048576)(hk:0<=(md.exps.getD n Exp.z).kind/\(md.exps.getD n Exp.z).kind<=3):Ec Q 65 #[cxV x t,mdV md A,U O (n:Int)] V λe w'=>e=Z (U O (Xg x md n))/\Below V.heap.size V w':=by
 obtain⟨ta,tc,fa,fc,ga,gc,et,ef,eg⟩:=hx.shape hm;obtain⟨tv,fv,gv,b2⟩:=t;dsimp only at et ef eg;subst et ef eg;obtain⟨y,hy⟩:∃y,y=md.exps.getD n Exp.z:=⟨_,rfl⟩;have ab:Xg x md n=if enm y∈(md.exps.take n).map enm then 7 else if szK x y.kind.toNat<=y.ix then 2 else 0:=by rw[hy];rfl
 rw[<- hy]at hk;obtain⟨C,s,l⟩:=y;dsimp only at hk ab;obtain⟨g,hS⟩:∃g,g=C.data.toList:=⟨_,rfl⟩;have ah:Xg x md n=if g∈(md.exps.take n).map enm then 7 else if szK x s.toNat<=l then 2 else 0:=by rw[ab,hS];rfl
 obtain⟨W,hW⟩:∃W,W=(V.alloc (Fc #[S ta (N x.types) tc,S fa (N x.funcs) fc,S ga (N x.globals) gc,U O x.imports,U O x.tables,U O x.mems] 66)).alloc (Fc (mdC md A) 48):=⟨_,rfl⟩;obtain⟨q,hq⟩:∃q,q=V.heap.size:=⟨_,rfl⟩;have F:Mo D w0 (box 48 13 (q+1) (mdC md A).toList::box 66 6 q (cx6 x ta tc fa fc ga gc)::ks) W:=by have:=(hm.box (cur:=#[S ta (N x.types) tc,S fa (N x.funcs) fc,S ga (N x.globals) gc,U O x.imports,U O x.tables,U O x.mems]) 66 6 rfl).box (cur:=mdC md A) 48 13 rfl;rw[hW,hq];simpa using this
 rcases hI.is.2.2.2.2.2.2.1 with a6|⟨b,off,ea,_,hc⟩
 . rw[a6]at hn;simp at hn
 have ag:=hc n hn;rw[<- hy]at ag;obtain⟨⟨k0,k1,k2⟩,_⟩:=ag;have kp:=λ(o:Nat) (u:Vu) (hu:w0.cell? ⟨b,o,none⟩=some u)=>(F.b.cell (p:=⟨b,o,none⟩) (hI.cd _ _ _ hu)).trans hu;have d0:=kp _ _ k0;have d1:=kp _ _ k1;have d2:=kp _ _ k2;dsimp only at d0 d1 d2;have e1:=Ql F (mS ..) 6 (u:=S A.a7 (N md.exps) A.c7);rw[ea]at e1;obtain⟨W2,I⟩:∃W2,W2=W.alloc (Fc #[Xs C,U O s,U O l] 163):=⟨_,rfl⟩;obtain⟨R,Y⟩:∃R,R=W.heap.size:=⟨_,rfl⟩;obtain⟨L0,aa⟩:∃L0:List Qc,L0=box 163 3 R [Xs C,U O s,U O l]::box 48 13 (q+1) (mdC md A).toList::box 66 6 q (cx6 x ta tc fa fc ga gc)::ks:=⟨_,rfl⟩;have af:Mo D w0 L0 W2:=by rw[I,aa,Y];exact F.box (cur:=#[Xs C,U O s,U O l]) 163 3 rfl
 have CL:Hid (∀{W':J},Mo D w0 L0 W'->(W'.cell? ⟨R,0,none⟩=some (Xs C)/\W'.cell? ⟨R,1,none⟩=some (U O s)/\W'.cell? ⟨R,2,none⟩=some (U O l))/\W'.cell? ⟨q+1,6,none⟩=some (S (some ⟨b,off,none⟩) (N md.exps) A.c7)/\W'.cell? ⟨q,1,none⟩=some (S fa (N x.funcs) fc)/\W'.cell? ⟨q,2,none⟩=some (S ga (N x.globals) gc)/\W'.cell? ⟨q,4,none⟩=some (U O x.tables)/\W'.cell? ⟨q,5,none⟩=some (U O x.mems)):=λh=>by rw[aa]at h;have y:=λj u hj hu=>(h.b0 j (u:=u) hj hu).1;have z:=λj u hj hu=>(h.tail.tail.b0 j (u:=u) hj hu).1;have m6:=Ql h.tail (mS ..) 6 (u:=S A.a7 (N md.exps) A.c7);rw[ea]at m6;exact⟨⟨y 0 _ (by omega) rfl,y 1 _ (by omega) rfl,y 2 _ (by omega) rfl⟩,m6,z 1 _ (by omega) rfl,z 2 _ (by omega) rfl,z 4 _ (by omega) rfl,z 5 _ (by omega) rfl⟩
 have HC:Hid (∀k,k<N md.exps->∀{W':J},Mo D w0 L0 W'->W'.cell? ⟨b,off+k*3,none⟩=some (Xs (md.exps.getD k Exp.z).nm)):=λk hk W' h=>by obtain⟨⟨u0,_,_⟩,_⟩:=hc k hk;exact(h.b.cell (p:=⟨b,off+k*3,none⟩) (hI.cd _ _ _ u0)).trans u0
 have ai:Below V.heap.size V W2:=by rw[I,hW];exact((bFz.alloc lRz _).alloc (by simp) _).alloc (by simp;omega) _
 have M:=Hm ai;have bs:(n:Int)<(N md.exps:Int):=by omega
 have L:=Hm af;have HE:=Hm ah;have HS:=Hm hS;clear hm F af hI hc k0 k1 k2 kp hy hx ab ah hS aa ai;go_enter func65,ntmps65;go_upto_region 1 with fail
 rw[<- hW,<- hq];clear hW hq;go_upto_region 2 with fail
 rw[<- I,<- Y];clear I Y d0 d1 d2 e1;go_wp2_with fail
 go_loopw [8] (λi wr=>∃k:Nat,k<=n/\i=U O k/\Mo D w0 L0 wr/\Below V.heap.size V wr/\g∉(md.exps.take k).map enm) (λi _=>n-(intOf i).toNat)
 case atStart=>exact⟨0,Kz _,rfl,L.o,M.o,by simp⟩
 obtain⟨k,bw,rfl,r,v,E⟩:=hrel;obtain⟨⟨d0,d1,d2⟩,e6,f1,f2,f4,f5⟩:=CL.o r;have ac:=Hm (And.intro r v);have B:=Hm E;by_cases bt:k<n
 . (have bv:(k:Int)<(n:Int):=by omega);(have bu:(k:Int)<(N md.exps:Int):=by omega);have g0:=HC.o k (by omega) r;obtain⟨z,hz⟩:∃z,z=(md.exps.getD k Exp.z).nm:=⟨_,rfl⟩;rw[<- hz]at g0;have H:=ba_eq z C;have X:=JF md.exps k Exp.z (by omega);by_cases c:z.data.toList=C.data.toList
   . (have hs:(z.toList==C.toList)=true:=by rw[H];exact decide_eq_true c);(have f:Hid (Xg x md n=7):=by show Xg x md n=7;rw[HE.o,if_pos];(have:g=enm (md.exps.getD k Exp.z):=by rw[HS.o,<- c,hz];rfl);rw[this];refine List.mem_map_of_mem ?_;rw[List.mem_take_iff_getElem];exact⟨k,by omega,by simp[Kg,show k<N md.exps by omega]⟩);clear r v E H X c hz B HE HS HC CL L M;(go_wp2_with fail);(go_quiet (fail));go_wp2;go_ret;rw[f.o];exact⟨rfl,Qo ac.o.2 _⟩
   have hs:(z.toList==C.toList)=false:=by rw[H];exact decide_eq_false c
   have HN:Hid (g∉(md.exps.take (k+1)).map enm):=by
    show g∉_;rw[X,Lx];intro ba;rcases List.mem_append.1 ba with h|h
    . exact B.o h
    have h':g=enm (md.exps.getD k Exp.z):=List.mem_singleton.1 h;refine c ?_;rw[hz];show enm _=_;rw[<- h',HS.o]
   clear r v E H X c hz B HE HS HC CL L M;(go_wp2_with fail);(go_quiet (fail));go_wp2;(go_roundw);(case rel=>exact⟨k+1,by omega,by go_num,ac.o.1.drewN _,Qo ac.o.2 _,HN.o⟩);case measure=>simp[intOf];omega
 obtain rfl:k=n:=by omega
 have f:Hid (Xg x md k=if szK x s.toNat<=l then 2 else 0):=by show _=_;rw[HE.o,if_neg B.o]
 have d:=Hm v;clear r v E B HE HC CL L M e6;have g1:∀o,(wr.alloc o).cell? ⟨R,1,none⟩=some (U O s):=λo=>Qd d1;have g2:∀o,(wr.alloc o).cell? ⟨R,2,none⟩=some (U O l):=λo=>Qd d2;rcases(by omega:s=0\/s=1\/s=2\/s=3)with rfl|rfl|rfl|rfl
 . (have a:Xg x md k=if(N x.funcs:Int)<=l then 2 else 0:=by have h:=f.o;rw[show szK x (Int.toNat 0)=(N x.funcs:Int)from rfl]at h;exact h);clear f;by_cases c:(N x.funcs:Int)<=l
   . (have m:Hid (Xg x md k=2):=by show Xg x md k=_;rw[a,if_pos c]);clear a;go_wp2;go_ret;rw[m.o];exact⟨rfl,d.o.alloc d.o.size _⟩
   (have m:Hid (Xg x md k=0):=by show Xg x md k=_;rw[a,if_neg c]);clear a;go_wp2;go_ret;rw[m.o];exact⟨rfl,d.o.alloc d.o.size _⟩
 . (have a:Xg x md k=if(x.tables:Int)<=l then 2 else 0:=by have h:=f.o;rw[show szK x (Int.toNat 1)=(x.tables:Int)from rfl]at h;exact h);clear f;by_cases c:(x.tables:Int)<=l
   . (have m:Hid (Xg x md k=2):=by show Xg x md k=_;rw[a,if_pos c]);clear a;go_wp2;go_ret;rw[m.o];exact⟨rfl,d.o.alloc d.o.size _⟩
   (have m:Hid (Xg x md k=0):=by show Xg x md k=_;rw[a,if_neg c]);clear a;go_wp2;go_ret;rw[m.o];exact⟨rfl,d.o.alloc d.o.size _⟩
 . (have a:Xg x md k=if(x.mems:Int)<=l then 2 else 0:=by have h:=f.o;rw[show szK x (Int.toNat 2)=(x.mems:Int)from rfl]at h;exact h);clear f;by_cases c:(x.mems:Int)<=l
   . (have m:Hid (Xg x md k=2):=by show Xg x md k=_;rw[a,if_pos c]);clear a;go_wp2;go_ret;rw[m.o];exact⟨rfl,d.o.alloc d.o.size _⟩
   (have m:Hid (Xg x md k=0):=by show Xg x md k=_;rw[a,if_neg c]);clear a;go_wp2;go_ret;rw[m.o];exact⟨rfl,d.o.alloc d.o.size _⟩
 have a:Xg x md k=if(N x.globals:Int)<=l then 2 else 0:=by have h:=f.o;rw[show szK x (Int.toNat 3)=(N x.globals:Int)from rfl]at h;exact h
 clear f;by_cases c:(N x.globals:Int)<=l
 . (have m:Hid (Xg x md k=2):=by show Xg x md k=_;rw[a,if_pos c]);clear a;go_wp2;go_ret;rw[m.o];exact⟨rfl,d.o.alloc d.o.size _⟩
 have m:Hid (Xg x md k=0):=by show Xg x md k=_;rw[a,if_neg c]
 clear a;go_wp2;go_ret;rw[m.o];exact⟨rfl,d.o.alloc d.o.size _⟩
theorem cstep_nz {g:List Int}{f:Int}(h:Xe x go want g y=.error f):f≠0:=by
 unfold Xe XC at h;split at h
 . cases h
 split at h
 . split at h
   . cases h;decide
   split at h
   . cases h;decide
   cases h
 split at h
 . split at h
   . cases h
   cases h;decide
 cases h;decide
theorem lst_nz (x:Ctx)(go want:Int):∀(xs:List In) (g:List Int) (k:Nat) (f:Int) (a:Nat),QS x go want g k xs=.error (f,a)->f≠0
 |[],g,k,f,a,h=>by cases h
 |y::ys,g,k,f,a,h=>by
  rw[QS]at h
  cases hc:Xe x go want g y with
  |error e=>rw[hc]at h;cases h;exact cstep_nz hc
  |ok g'=>rw[hc]at h;exact lst_nz x go want ys g' (k+1) f a h
def elemE (x:Ctx)(off:List In)(fs:List Int):Int × Nat:=if x.tables=0 then(2,0)else match QS x x.imports 127 [] 0 off with
 |.error e=>e
 |.ok _=>if Gd x fs then(0,0)else (2,0)
theorem selem_c {D w0 ks V}(a:Option Addr)(c:Nat)(xs:List In)(R:Option Addr)(L:Nat)(b:List Int)(hm:Mo D w0 ks V)(hx:CtR D w0 x t ks)(hL:InL D w0 a xs)(a5:N xs<=1048576)(hI:∀y∈xs,InB y)(hi:x.imports<=N x.globals)(ad:QF xs=true)(tF:Ty D w0 [] (S R (N b) L) b)(br:N b<=1048576):Ec Q 67 #[cxV x t,Ag #[S a (N xs) c,S R (N b) L]] V λe w'=>e=Z (.tuple #[U O (elemE x xs b).1,U O (elemE x xs b).2])/\Mo D w0 ks w':=by
 obtain⟨ta,tc,fa,fc,ga,gc,et,ef,eg⟩:=hx.shape hm;obtain⟨tv,fv,gv,bt⟩:=t;dsimp only at et ef eg;subst et ef eg;obtain⟨q,hq⟩:∃q,q=V.heap.size:=⟨_,rfl⟩;obtain⟨W,hW⟩:∃W,W=(V.alloc (Fc #[S ta (N x.types) tc,S fa (N x.funcs) fc,S ga (N x.globals) gc,U O x.imports,U O x.tables,U O x.mems] 66)).alloc (Fc #[S a (N xs) c,S R (N b) L] 134):=⟨_,rfl⟩;obtain⟨Y,m⟩:∃Y:List Qc,Y=box 134 2 (q+1) [S a (N xs) c,S R (N b) L]::box 66 6 q (cx6 x ta tc fa fc ga gc)::ks:=⟨_,rfl⟩;have n:Mo D w0 Y W:=by have:=(hm.box (cur:=#[S ta (N x.types) tc,S fa (N x.funcs) fc,S ga (N x.globals) gc,U O x.imports,U O x.tables,U O x.mems]) 66 6 rfl).box (cur:=#[S a (N xs) c,S R (N b) L]) 134 2 rfl;rw[hW,m,hq];simpa using this
 have CL:Hid (∀{W':J},Mo D w0 Y W'->(W'.cell? ⟨q+1,0,none⟩=some (S a (N xs) c)/\W'.cell? ⟨q+1,1,none⟩=some (S R (N b) L))/\W'.cell? ⟨q,0,none⟩=some (S ta (N x.types) tc)/\W'.cell? ⟨q,1,none⟩=some (S fa (N x.funcs) fc)/\W'.cell? ⟨q,2,none⟩=some (S ga (N x.globals) gc)/\W'.cell? ⟨q,3,none⟩=some (U O x.imports)/\W'.cell? ⟨q,4,none⟩=some (U O x.tables)/\W'.cell? ⟨q,5,none⟩=some (U O x.mems)):=λh=>by rw[m]at h;have y:=λj u hj hu=>(h.b0 j (u:=u) hj hu).1;have z:=λj u hj hu=>(h.tail.b0 j (u:=u) hj hu).1;exact⟨⟨y 0 _ (by omega) rfl,y 1 _ (by omega) rfl⟩,z 0 _ (by omega) rfl,z 1 _ (by omega) rfl,z 2 _ (by omega) rfl,z 3 _ (by omega) rfl,z 4 _ (by omega) rfl,z 5 _ (by omega) rfl⟩
 have F:Hid (∀{W':J},Mo D w0 Y W'->Mo D w0 ks W'):=λh=>by rw[m]at h;exact h.tail.tail
 obtain⟨⟨d0,d1⟩,c0,c1,c2,c3,c4,c5⟩:=CL.o n;have B:=Hm (slist_c a c xs 127 n (hx.sub (λr hr=>by rw[m];simp[hr])) hL a5 hI hi ad);obtain⟨M,hM⟩:∃M,M=QS x x.imports 127 [] 0 xs:=⟨_,rfl⟩;rw[<- hM]at B;obtain⟨E,s⟩:∃E,E=elemE x xs b:=⟨_,rfl⟩;rw[<- s];unfold elemE at s;rw[<- hM]at s;have v:Hid (∀f k,M=.error (f,k)->f≠0):=λf k h=>lst_nz x x.imports 127 xs [] 0 f k (by rw[<- hM];exact h);have HT:=Hm tF;have ai:=Hm n;clear hm n hx hL hI ad tF hM m;by_cases X:x.tables=0
 . rw[if_pos X]at s;(have k0:((x.tables:Int)==0)=true:=by simp[X]);have HE:=Hm s;clear s X B v HT;go_enter func67,ntmps67;(go_upto_region 1 with fail);rw[<- hW,<- hq];clear hW hq;go_wp2;(go_ret2);rw[HE.o];exact⟨rfl,F.o ai.o⟩
 rw[if_neg X]at s;have k0:((x.tables:Int)==0)=false:=by simp[X]
 have HE:=Hm s;clear s X;go_enter func67,ntmps67;go_upto_region 1 with fail
 rw[<- hW,<- hq];clear hW hq;go_wp2_with fail
 refine B.o.mono ?_;rintro e w1 ⟨rfl,I⟩;have ah:=Hm I;clear d0 d1 c0 c1 c2 c3 c4 c5 B ai;obtain⟨⟨d0,d1⟩,c0,c1,c2,c3,c4,c5⟩:=CL.o I;clear I;cases M with
 |error r =>
  obtain⟨f,k⟩:=r;have hf:=v.o f k rfl;have k1:(f != 0)=true:=by simpa using hf
  clear hf v
  simp only[lstR]
  go_wp2
  go_ret2
  rw[HE.o]
  exact⟨rfl,F.o ah.o⟩
 |ok g =>
  have H:Hid (E=if Gd x b then(0,0)else (2,0)):=HE.o;have l1:(lstR (.ok g:Except (Int × Nat) (List Int))).1=0:=rfl;have l2:(((lstR (.ok g:Except (Int × Nat) (List Int))).2:Nat):Int)=0:=rfl;rw[l1,l2];clear HE v l1 l2
  go_wp2_with fail
  go_loopw [8] (λi wr=>∃k:Nat,k<=N b/\i=U O k/\Mo D w0 Y wr/\Gd x b=Gd x (b.drop k)) (λi _=>N b-(intOf i).toNat)
  case atStart=>exact⟨0,Kz _,rfl,ah.o,rfl⟩
  case round =>
   obtain⟨k,hk,rfl,d,l⟩:=hrel;clear d0 d1 c0 c1 c2 c3 c4 c5;obtain⟨⟨d0,d1⟩,c0,c1,c2,c3,c4,c5⟩:=CL.o d
   by_cases p:k<N b
   . have bo:(k:Int)<(N b:Int):=by omega
     obtain⟨a',c',e,hh⟩:=HT.o.shape d (λr hr=>by cases hr)
     cases e
     rcases hh with hx|⟨b_,off,he,hc⟩
     . subst hx;simp at p
     rw[he]at d1;have g1:=hc k p;obtain⟨y,hy⟩:∃y,y=b.getD k 0:=⟨_,rfl⟩;rw[<- hy]at g1;have ac:b.drop k=y::b.drop (k+1):=by rw[List.drop_eq_getElem_cons p,hy];simp[Kg,p]
     rw[ac,Gd]at l;have C:=Hm l;have A:=Hm d;clear hc hy ac l d he
     by_cases cy:y<(N x.funcs:Int)
     . have k2:¬((N x.funcs:Int)<=y):=by omega
       have HN:Hid (Gd x b=Gd x (b.drop (k+1))):=by show _=_;rw[C.o,decide_eq_true cy,Bool.true_and]
       clear C cy
       go_wp2_with fail
       go_quiet (fail)
       go_wp2
       go_roundw
       case rel=>exact⟨k+1,by omega,by go_num,A.o.drewN _,HN.o⟩
       case measure=>simp[intOf];omega
     . have k2:(N x.funcs:Int)<=y:=by omega
       have HN:Hid (E=(2,0)):=by
        show E=_
        rw[H.o,C.o,decide_eq_false cy,Bool.false_and];rfl
       clear C cy H
       go_wp2_with fail
       go_quiet (fail)
       go_wp2
       go_ret2
       rw[HN.o]
       exact⟨rfl,F.o (A.o.drewN _)⟩
   . obtain rfl:k=N b:=by omega
     have HN:Hid (E=(0,0)):=by
      show E=_
      rw[H.o,l,List.drop_length];rfl
     have A:=Hm d;clear l d H
     go_wp2
     go_ret2
     rw[HN.o]
     exact⟨rfl,F.o A.o⟩
def NZ {α:Type}(r:R α):Prop:=∀f,r=.error f->f≠0
theorem NZ.ok (a:α):NZ (.ok a:R α):=λf h=>by cases h
theorem NZ.er (a:e≠0):NZ (.error e:R α):=λf h=>by cases h;exact a
theorem NZ.map {r:R α}(g:α->β)(h:NZ r):NZ (r.map g):=λf e=>by
 cases r with
 |error k=>cases e;exact h _ rfl
 |ok a=>cases e
theorem NZ.bind {r:R α}{g:α->R β}(h:NZ r)(b:∀a,NZ (g a)):NZ (r.bind g):=λf e=>by
 cases r with
 |error k=>cases e;exact h _ rfl
 |ok a=>exact b a f e
theorem NZ.ite {c:Prop}[Decidable c]{a b:R α}(f:NZ a)(d:NZ b):NZ (if c then a else b):=by split<;>assumption
theorem pop_nz (s:Fn)(w:Int):NZ (pop s w):=by
 unfold pop;exact .ite (.ite (.ok _) (.er (by decide))) (.ite (.ok _) (.ite (.er (by decide)) (.ok _)))
theorem pop1_nz (s:Fn)(w:Int):NZ (Q4 s w):=(pop_nz s w).map _
theorem popR_nz:∀(b:List Int) (s:Fn),NZ (XJ s b)
 |[],s=>.ok _
 |t::b,s=>(pop1_nz s t).bind λa=>popR_nz b a
theorem popAll_nz (s:Fn)(a:List Int):NZ (Xm s a):=popR_nz _ _
theorem leave_nz (s:Fn)(a:List Int):NZ (JB s a):=(popAll_nz s a).map _
theorem finish_nz (s:Fn):NZ (Qw s):=(popAll_nz _ _).bind λa=>.ite (.er (by decide)) (.ok _)
theorem typed_nz (x:Ctx)(oty:Int->Qe)(s:Fn)(y:In):NZ (JO x oty s y):=by
 unfold JO;exact .ite (leave_nz _ _) (.ite (.ok _) (.ite ((pop1_nz _ _).map _) (.ite ((finish_nz _).map _) (.ite ((finish_nz _).bind λa=>.ite (.er (by decide)) (.ok _)) (.ite (leave_nz _ _) (.ite ((pop1_nz _ _).bind λa=>.ite (leave_nz _ _) (.er (by decide))) (.ite (leave_nz _ _) (.ite (pop1_nz _ _) (.ite ((pop1_nz _ _).bind λa=>(pop_nz _ _).bind λb=>(pop_nz _ _).map _) ((popAll_nz _ _).map _))))))))))
theorem step_nz (x:Ctx)(frm:Int->Int)(oty:Int->Qe)(s:Fn)(y:In):NZ (step x frm oty s y):=by
 unfold step;exact .ite (.er (by decide)) (.ite (.er (by decide)) (.ite (.er (by decide)) (typed_nz _ _ _ _)))
theorem body_nz (x:Ctx)(frm:Int->Int)(oty:Int->Qe):∀(xs:List In) (s:Fn) (k:Nat) (f:Int) (a:Nat),JQ x frm oty s k xs=.error (f,a)->f≠0
 |[],s,k,f,a,h=>by cases h
 |y::ys,s,k,f,a,h=>by
  rw[JQ]at h
  cases hc:step x frm oty s y with
  |error e=>rw[hc]at h;cases h;exact step_nz x frm oty s y _ hc
  |ok g'=>rw[hc]at h;exact body_nz x frm oty ys g' (k+1) f a h
theorem glob_app (x y:Ctx)(go i:Int)(h:∀j:Nat,(j:Int)<go->x.globals.getD j Qx.z=y.globals.getD j Qx.z)(b:0<=i)(a:i<go):Q3 x i=Q3 y i:=h _ (by omega)
theorem cstep_cx {y:Ctx}{g:List Int}{z:In}(h:∀j:Nat,(j:Int)<go->x.globals.getD j Qx.z=y.globals.getD j Qx.z)(b:0<=z.a):Xe x go want g z=Xe y go want g z:=by
 unfold Xe XC;by_cases c:go<=z.a
 . simp only[if_pos c]
 rw[glob_app x y go z.a h b (by omega)]
theorem listC_cx {y:Ctx}(h:∀j:Nat,(j:Int)<go->x.globals.getD j Qx.z=y.globals.getD j Qx.z):∀(xs:List In) (g:List Int) (k:Nat),(∀z∈xs,0<=z.a)->QS x go want g k xs=QS y go want g k xs
 |[],g,k,_=>rfl
 |z::zs,g,k,hz=>by
  rw[QS,QS,cstep_cx h (hz z (by simp))]
  cases Xe y go want g z with
  |error e=>rfl
  |ok g'=>exact listC_cx h zs g' (k+1) λu hu=>hz u (by simp[hu])
def X4 (md:Mod)(n i:Nat):Int × Nat :=
 if n=2 then(XB md i (md.imps.getD i Imp.z),0)else
 if n=3 then(if(N md.types:Int)<=md.funcs.getD i 0 then 2 else 0,0)else
 if n=4 then(XT md i false,0)else
 if n=5 then(XT md i true,0)else
 if n=6 then lstR (QS (cxF md) (cxF md).imports (md.globs.getD i Qn.z).ty.ty [] 0 (md.globs.getD i Qn.z).ini)else
 if n=7 then(Xg (cxF md) md i,0)else
 if n=8 then(startE (cxF md) md.start,0)else
 if n=9 then elemE (cxF md) (md.elems.getD i Ele.z).off (md.elems.getD i Ele.z).fs else
 if n=10 then bodyR (JQ (cxF md) frm oty (fn0 (Jv md (md.funcs.getD i 0)) (md.codes.getD i Cod.z).locs) 0 (md.codes.getD i Cod.z).body)else
 if n=11 then(if(cxF md).mems=0 then(2,0)else lstR (QS (cxF md) (cxF md).imports 127 [] 0 (md.datas.getD i Dat.z).off))else (0,0)
def XV {α:Type}(r:Except Er α)(e:Int × Nat):Prop:=(∃s,r=.ok s/\e=(0,0))\/∃f p,r=.error (f,p)/\f≠0/\e=(f,p.getD 0)
theorem XV.map {r:Except Er α}{e:Int × Nat}(g:α->β)(h:XV r e):XV (r.map g) e:=by
 rcases h with ⟨s,rfl,h⟩|⟨f,p,rfl,h⟩
 . exact .inl ⟨_,rfl,h⟩
 exact .inr ⟨f,p,rfl,h⟩
theorem XV.lift {r:R (Ctx × Int × Int × Int)}(h:(∃s,r=.ok s/\e=0)\/∃f,r=.error f/\f≠0/\e=f):XV (lift r) (e,0):=by
 rcases h with ⟨s,rfl,rfl⟩|⟨f,rfl,h,rfl⟩
 . exact .inl ⟨_,rfl,rfl⟩
 exact .inr ⟨_,none,rfl,h,rfl⟩
theorem one_meet {l:Qg}{a:Int}(g:Nat->β)(b:e=if(l.has=true/\l.max<l.min)\/a<l.min\/a<l.max then 3 else if 0<n then 4 else 0):(∃s,(X2 n l a).map g=.ok s/\e=0)\/∃f,(X2 n l a).map g=.error f/\f≠0/\e=f:=by
 unfold X2;by_cases c:(l.has=true/\l.max<l.min)\/a<l.min\/a<l.max
 . rw[if_pos c]at b⊢;exact .inr ⟨3,rfl,by decide,b⟩
 rw[if_neg c]at b⊢;by_cases d:0<n
 . rw[if_pos d]at b⊢;exact .inr ⟨4,rfl,by decide,b⟩
 rw[if_neg d]at b⊢;exact .inl ⟨_,rfl,b⟩
theorem lim_b {l:Qg}(h:Jl l=true):l.min<=4294967295/\l.max<=4294967295:=by
 simp only[Jl,Kf,QB,decide_eq_true_eq]at h;omega
theorem imp_lim {y:Imp}(h:QO y=true)(b:y.kind=1\/y.kind=2):y.lim.min<=4294967295/\y.lim.max<=4294967295:=by
 simp only[QO,Kf]at h;have a:=h.2;unfold XS at a;rw[if_neg (by omega),if_pos b]at a;simp only[Kf]at a;exact lim_b a.1.2
theorem cxF_at (h:7<=n):(Qz md n i).x=cxF md:=by
 simp only[Qz,cxF];have k:=λj (hj:j<7)=>(show kk md n i j=QH md j by unfold kk;rw[if_pos (by omega)]);rw[k 1 (by omega),k 2 (by omega),k 3 (by omega),k 4 (by omega),k 5 (by omega),k 6 (by omega)];simp[QH]
theorem go_at (h:3<=n):(Qz md n i).go=((cxF md).imports:Int):=by
 simp only[Qz,cxF,cxA];have k:kk md n i 2=QH md 2:=by unfold kk;rw[if_pos (by omega)]
 rw[k];simp[QH]
theorem lst_meet {xs:List In}{s:α}:XV (match QS x go want [] 0 xs with|.error (f,k)=>.error (f,some k)|.ok _=>.ok s) (lstR (QS x go want [] 0 xs)):=by
 cases h:QS x go want [] 0 xs with
 |error e=>exact .inr ⟨e.1,some e.2,rfl,lst_nz x go want xs [] 0 _ _ h,rfl⟩
 |ok g=>exact .inl ⟨_,rfl,rfl⟩
theorem gAt (l:List Qx)(m:List Qx)(j:Nat)(h:j<N l):(l++m).getD j Qx.z=l.getD j Qx.z:=by
 simp[Kg,List.getElem?_append_left h]
theorem ent_meet (H:wfB md=true)(R:Mod.LB 1048576 md)(h1:1<=n)(V:n<=11)(o:i<QH md n):XV (Js md n i (Qz md n i)) (X4 md n i):=by
 obtain⟨w1,A,w3,v,w5,u,w7,w8,w9,D,C,B⟩:=wf_parts H;rcases(by omega:n=1\/n=2\/n=3\/n=4\/n=5\/n=6\/n=7\/n=8\/n=9\/n=10\/n=11)with rfl|rfl|rfl|rfl|rfl|rfl|rfl|rfl|rfl|rfl|rfl
 . rw[Js,if_neg (by omega),J8,if_pos rfl];exact .inl ⟨_,rfl,rfl⟩
 . (have b:i<N md.imps:=by simpa[QH]using o);rw[Js,if_neg (by omega),J8,if_neg (by omega),if_pos rfl];refine XV.map _ ?_;rw[X4,if_pos rfl];refine XV.lift ?_;have s:=A _ (QD (z:=Imp.z) b);have L:=imp_kind s;(have E:(Qz md 2 i).x=cxA md (N md.types) i 0 0 0 0:=by simp[Qz,kk,QH]);obtain⟨y,F⟩:∃y,y=md.imps.getD i Imp.z:=⟨_,rfl⟩;rw[<- F]at s L⊢;rw[E];unfold impM XB;by_cases q:y.kind=0
   . rw[if_pos q,if_pos q,Xd];(have et:(cxA md (N md.types) i 0 0 0 0).types.length=N md.types:=by simp[cxA]);rw[et];by_cases c:(N md.types:Int)<=y.ty
     . rw[if_neg (by omega),if_pos c];exact .inr ⟨2,rfl,by decide,rfl⟩
     rw[if_pos (by omega),if_neg c];exact .inl ⟨_,rfl,rfl⟩
   rw[if_neg q,if_neg q];by_cases f:y.kind=1
   . rw[if_pos f,if_pos (.inl f)];refine one_meet _ ?_;have I:=imp_lim s (.inl f);(have et:(cxA md (N md.types) i 0 0 0 0).tables=QZ md 1 i:=by simp[cxA]);rw[et,f];simp only[limE];by_cases c:y.lim.has=true/\y.lim.max<y.lim.min
     . simp[c]
     have t:¬((y.lim.has=true/\y.lim.max<y.lim.min)\/4294967295<y.lim.min\/4294967295<y.lim.max):=by
      rintro(h|h|h)
      . exact c h
      . omega
      omega
     rw[if_neg t];simp[c]
   rw[if_neg f];by_cases p:y.kind=2
   . rw[if_pos p,if_pos (.inr p)];refine one_meet _ ?_;(have et:(cxA md (N md.types) i 0 0 0 0).mems=QZ md 2 i:=by simp[cxA]);rw[et,p];simp only[limE,decide_true,true_and];by_cases c:(y.lim.has=true/\y.lim.max<y.lim.min)\/65536<y.lim.min\/65536<y.lim.max
     . simp only[if_pos c];simp
     simp only[if_neg c];simp
   rw[if_neg p,if_neg (by rintro(h|h)<;>contradiction)];exact .inl ⟨_,rfl,rfl⟩
 . (have b:i<N md.funcs:=by simpa[QH]using o);rw[Js,if_neg (by omega),J8,if_neg (by omega),if_neg (by omega),if_pos rfl];refine XV.map _ ?_;rw[X4,if_neg (by omega),if_pos rfl];refine XV.lift ?_;(have et:(Qz md 3 i).x.types.length=N md.types:=by simp[Qz,kk,QH,cxA]);rw[Xd,et];by_cases c:(N md.types:Int)<=md.funcs.getD i 0
   . rw[if_neg (by omega),if_pos c];exact .inr ⟨2,rfl,by decide,rfl⟩
   rw[if_pos (by omega),if_neg c];exact .inl ⟨_,rfl,rfl⟩
 . (have b:i<N md.tabs:=by simpa[QH]using o);rw[Js,if_neg (by omega),J8,if_neg (by omega),if_neg (by omega),if_neg (by omega),if_pos rfl];refine XV.map _ ?_;rw[X4,if_neg (by omega),if_neg (by omega),if_pos rfl];refine XV.lift (one_meet _ ?_);have I:=lim_b (v _ (QD (z:=Qg.z) b));(have et:(Qz md 4 i).x.tables=QZ md 1 (N md.imps)+i:=by simp[Qz,kk,QH,cxA]);rw[et,XT];simp only[ownL,limE,if_false,Ik,false_and,or_false];generalize md.tabs.getD i Qg.z=l at *;by_cases c:l.has=true/\l.max<l.min
   . simp[c]
   have t:¬((l.has=true/\l.max<l.min)\/4294967295<l.min\/4294967295<l.max):=by
    rintro(h|h|h)
    . exact c h
    . omega
    omega
   rw[if_neg t];simp[c,Nat.add_comm]
 . (have b:i<N md.mems:=by simpa[QH]using o);rw[Js,if_neg (by omega),J8,if_neg (by omega),if_neg (by omega),if_neg (by omega),if_neg (by omega),if_pos rfl];refine XV.map _ ?_;rw[X4,if_neg (by omega),if_neg (by omega),if_neg (by omega),if_pos rfl];refine XV.lift (one_meet _ ?_);(have et:(Qz md 5 i).x.mems=QZ md 2 (N md.imps)+i:=by simp[Qz,kk,QH,cxA]);rw[et,XT];simp only[ownL,limE,if_true,true_and];generalize md.mems.getD i Qg.z=l at *;by_cases c:(l.has=true/\l.max<l.min)\/65536<l.min\/65536<l.max
   . simp only[if_pos c];simp
   simp only[if_neg c];simp[Nat.add_comm]
 . (have b:i<N md.globs:=by simpa[QH]using o);rw[Js,if_neg (by omega),J8,if_neg (by omega),if_neg (by omega),if_neg (by omega),if_neg (by omega),if_neg (by omega),if_pos rfl];refine XV.map _ ?_;rw[X4,if_neg (by omega),if_neg (by omega),if_neg (by omega),if_neg (by omega),if_pos rfl];have r:=go_at (md:=md) (n:=6) (i:=i) (by omega);(have k:∀z∈(md.globs.getD i Qn.z).ini,0<=z.a:=by have r:=u _ (QD (z:=Qn.z) b);simp only[QW,Kf]at r;exact λz hz=>(XL r.2 (R.2.2.2.2.2.1.2 i b).2 z hz).a0);(have M:∀j:Nat,(j:Int)<((cxF md).imports:Int)->(Qz md 6 i).x.globals.getD j Qx.z=(cxF md).globals.getD j Qx.z:=λj hj=>by(have m:j<(Jc md (N md.imps)).length:=by have:(cxF md).imports=(Jc md (N md.imps)).length:=rfl;omega);(have Y:(Qz md 6 i).x.globals=Jc md (N md.imps)++(md.globs.take i).map (·.ty):=by simp[Qz,kk,QH,cxA]);have X:(cxF md).globals=Jc md (N md.imps)++(md.globs.take (N md.globs)).map (·.ty):=rfl;rw[Y,X,gAt _ _ _ m,gAt _ _ _ m]);unfold globM;rw[r,listC_cx M _ _ _ k];exact lst_meet
 . rw[Js,if_pos rfl,X4,if_neg (by omega),if_neg (by omega),if_neg (by omega),if_neg (by omega),if_neg (by omega),if_pos rfl,cxF_at (by omega)];(have en:(Qz md 7 i).ns=((md.exps.take i).map enm).reverse:=by simp[Qz,kk]);rw[en,expM,Xg];by_cases c:enm (md.exps.getD i Exp.z)∈(md.exps.take i).map enm
   . rw[if_pos (by simpa using c),if_pos c];exact .inr ⟨7,none,rfl,by decide,rfl⟩
   rw[if_neg (by simpa using c),if_neg c];by_cases d:szK (cxF md) (md.exps.getD i Exp.z).kind.toNat<=(md.exps.getD i Exp.z).ix
   . rw[if_pos d,if_pos d];exact .inr ⟨2,none,rfl,by decide,rfl⟩
   rw[if_neg d,if_neg d];exact .inl ⟨_,rfl,rfl⟩
 . rw[Js,if_neg (by omega),J8,if_neg (by omega),if_neg (by omega),if_neg (by omega),if_neg (by omega),if_neg (by omega),if_neg (by omega),if_pos rfl];refine XV.map _ ?_;rw[X4,if_neg (by omega),if_neg (by omega),if_neg (by omega),if_neg (by omega),if_neg (by omega),if_neg (by omega),if_pos rfl,cxF_at (by omega)];refine XV.lift ?_;unfold X1 startE;by_cases c:md.start<((cxF md).funcs.length:Int)
   . rw[if_pos c,if_pos c];split
     · exact .inl ⟨_,rfl,rfl⟩
     exact .inr ⟨6,rfl,by decide,rfl⟩
   rw[if_neg c,if_neg c];exact .inr ⟨2,rfl,by decide,rfl⟩
 . rw[Js,if_neg (by omega),J8,if_neg (by omega),if_neg (by omega),if_neg (by omega),if_neg (by omega),if_neg (by omega),if_neg (by omega),if_neg (by omega),if_pos rfl];refine XV.map _ ?_;rw[X4,if_neg (by omega),if_neg (by omega),if_neg (by omega),if_neg (by omega),if_neg (by omega),if_neg (by omega),if_neg (by omega),if_pos rfl,cxF_at (by omega),go_at (by omega)];unfold elemM elemE;by_cases c:(cxF md).tables=0
   . rw[if_pos c,if_pos c];exact .inr ⟨2,none,rfl,by decide,rfl⟩
   rw[if_neg c,if_neg c];cases h:QS (cxF md) ((cxF md).imports:Int) 127 [] 0 (md.elems.getD i Ele.z).off with
   |error e=>exact .inr ⟨e.1,some e.2,rfl,lst_nz _ _ _ _ _ _ _ _ h,rfl⟩
   |ok g =>
    show XV (if Gd _ _ then _ else _) (if Gd _ _ then _ else _)
    split
    · exact .inl ⟨_,rfl,rfl⟩
    . exact .inr ⟨2,none,rfl,by decide,rfl⟩
 . rw[Js,if_neg (by omega),J8,if_neg (by omega),if_neg (by omega),if_neg (by omega),if_neg (by omega),if_neg (by omega),if_neg (by omega),if_neg (by omega),if_neg (by omega),if_pos rfl];refine XV.map _ ?_;rw[X4,if_neg (by omega),if_neg (by omega),if_neg (by omega),if_neg (by omega),if_neg (by omega),if_neg (by omega),if_neg (by omega),if_neg (by omega),if_pos rfl,cxF_at (by omega)];unfold codeM;cases h:JQ (cxF md) frm oty (fn0 (Jv md (md.funcs.getD i 0)) (md.codes.getD i Cod.z).locs) 0 (md.codes.getD i Cod.z).body with
   |error e=>exact .inr ⟨e.1,some e.2,rfl,body_nz _ _ _ _ _ _ _ _ h,rfl⟩
   |ok g=>exact .inl ⟨_,rfl,rfl⟩
 rw[Js,if_neg (by omega),J8,if_neg (by omega),if_neg (by omega),if_neg (by omega),if_neg (by omega),if_neg (by omega),if_neg (by omega),if_neg (by omega),if_neg (by omega),if_neg (by omega)];refine XV.map _ ?_;rw[X4,if_neg (by omega),if_neg (by omega),if_neg (by omega),if_neg (by omega),if_neg (by omega),if_neg (by omega),if_neg (by omega),if_neg (by omega),if_neg (by omega),if_pos rfl,cxF_at (by omega),go_at (by omega)];unfold dataM;by_cases c:(cxF md).mems=0
 . rw[if_pos c,if_pos c];exact .inr ⟨2,none,rfl,by decide,rfl⟩
 rw[if_neg c,if_neg c];exact lst_meet
theorem simport_c {D w0 ks V}(n:Nat)(f:Mo D w0 ks V)(j:MdI D w0 md A)(hn:n<N md.imps)(g:N md.imps<=1048576)(k:0<=(md.imps.getD n Imp.z).kind/\(md.imps.getD n Imp.z).kind<=3):Ec Q 62 #[mdV md A,U O (n:Int)] V λe w'=>e=Z (U O (XB md n (md.imps.getD n Imp.z)))/\Below V.heap.size V w':=by
 obtain⟨y,b⟩:∃y,y=md.imps.getD n Imp.z:=⟨_,rfl⟩;rw[<- b]at k⊢;obtain⟨mod,c,d,ty,a,gl⟩:=y;dsimp only at k;rcases(by omega:d=0\/d=1\/d=2\/d=3)with rfl|rfl|rfl|rfl
 . exact simp_0 n mod c ty a gl f j hn g b.symm
 . exact simp_1 n mod c ty a gl f j hn g b.symm
 . exact simp_2 n mod c ty a gl f j hn g b.symm
 exact simp_3 n mod c ty a gl f j hn g b.symm
theorem JX {D w0 ks V}(n:Mo D w0 ks V)(m:CtR D w0 x t ks):∃(c:Option Addr) (b:Nat) (k:Option Addr) (g:Nat) (f:Option Addr) (d:Nat) (fcs:List Vu) (q:Nat) (W:J) (l:List Qc),t=⟨S c (N x.types) b,S k (N x.funcs) g,S f (N x.globals) d,fcs⟩/\q=V.heap.size/\W=(V.alloc (Fc #[S c (N x.types) b,S k (N x.funcs) g,S f (N x.globals) d,U O x.imports,U O x.tables,U O x.mems] 66)).alloc (Fc (mdC md A) 48)/\Mo D w0 l W/\Hid (∀{a:J},Mo D w0 l a->a.cell? ⟨q+1,0,none⟩=some (S A.a1 (N md.types) A.c1)/\a.cell? ⟨q+1,1,none⟩=some (S A.a2 (N md.imps) A.c2)/\a.cell? ⟨q+1,2,none⟩=some (S A.a3 (N md.funcs) A.c3)/\a.cell? ⟨q+1,3,none⟩=some (S A.a4 (N md.tabs) A.c4)/\a.cell? ⟨q+1,4,none⟩=some (S A.a5 (N md.mems) A.c5)/\a.cell? ⟨q+1,5,none⟩=some (S A.a6 (N md.globs) A.c6)/\a.cell? ⟨q+1,6,none⟩=some (S A.a7 (N md.exps) A.c7)/\a.cell? ⟨q+1,7,none⟩=some (G md.hasS)/\a.cell? ⟨q+1,8,none⟩=some (U O md.start)/\a.cell? ⟨q+1,9,none⟩=some (S A.a8 (N md.elems) A.c8)/\a.cell? ⟨q+1,10,none⟩=some (S A.a9 (N md.codes) A.c9)/\a.cell? ⟨q+1,11,none⟩=some (S A.a10 (N md.datas) A.c10)/\a.cell? ⟨q+1,12,none⟩=some (S A.a11 (N md.customs) A.c11)/\a.cell? ⟨q,0,none⟩=some (S c (N x.types) b)/\a.cell? ⟨q,1,none⟩=some (S k (N x.funcs) g)/\a.cell? ⟨q,2,none⟩=some (S f (N x.globals) d)/\a.cell? ⟨q,3,none⟩=some (U O x.imports)/\a.cell? ⟨q,4,none⟩=some (U O x.tables)/\a.cell? ⟨q,5,none⟩=some (U O x.mems))/\Hid (∀{a:J},Mo D w0 l a->Mo D w0 ks a)/\Hid (CtR D w0 x t l):=by
 obtain⟨c,b,k,g,f,d,et,p,o⟩:=m.shape n;obtain⟨s,y,v,fcs⟩:=t;dsimp only at et p o;subst et p o;refine⟨c,b,k,g,f,d,fcs,V.heap.size,_,box 48 13 (V.heap.size+1) (mdC md A).toList::box 66 6 V.heap.size (cx6 x c b k g f d)::ks,rfl,rfl,rfl,?_,fun {a} h=>?_,λh=>h.tail.tail,m.sub λr hr=>by simp[hr]⟩
 . have:=(n.box (cur:=#[S c (N x.types) b,S k (N x.funcs) g,S f (N x.globals) d,U O x.imports,U O x.tables,U O x.mems]) 66 6 rfl).box (cur:=mdC md A) 48 13 rfl;simpa using this
 have z:=λj u hj hu=>(h.tail.b0 j (u:=u) hj hu).1;exact⟨Ql h (mS ..) 0,Ql h (mS ..) 1,Ql h (mS ..) 2,Ql h (mS ..) 3,Ql h (mS ..) 4,Ql h (mS ..) 5,Ql h (mS ..) 6,Ql h (mS ..) 7,Ql h (mS ..) 8,Ql h (mS ..) 9,Ql h (mS ..) 10,Ql h (mS ..) 11,Ql h (mS ..) 12,z 0 _ (by omega) rfl,z 1 _ (by omega) rfl,z 2 _ (by omega) rfl,z 3 _ (by omega) rfl,z 4 _ (by omega) rfl,z 5 _ (by omega) rfl⟩
theorem sent_1 {D w0 ks V}(i:Nat)(g:Mo D w0 ks V)(d:CtR D w0 x t ks)(k:MdI D w0 md A)  :Ec Q 23 #[cxV x t,mdV md A,U O 1,U O (i:Int)] V λe w'=>e=Z (.tuple #[U O 0,U O 0])/\Mo D w0 ks w':=by
 obtain⟨H,F,fa,fc,ga,gc,p,q,W,L0,rfl,f,j,a,u,c,r⟩:=JX (md:=md) (A:=A) g d;obtain⟨m0,m1,m2,m3,Y,X,R,M,L,I,n,m,l,E,C,B,z,y,v⟩:=u.o a;have b:=Hm a;have s:=Hm k;clear g a d k;go_enter func23,ntmps23;go_upto_region 1 with fail
 rw[<- j,<- f];clear j f;go_wp2;go_ret2
 exact⟨rfl,c.o b.o⟩
theorem sent_2 {D w0 ks V}(i:Nat)(l:Mo D w0 ks V)(j:CtR D w0 x t ks)(c:MdI D w0 md A)(y:i<N md.imps)(u:N md.imps<=1048576)(v:0<=(md.imps.getD i Imp.z).kind/\(md.imps.getD i Imp.z).kind<=3):Ec Q 23 #[cxV x t,mdV md A,U O 2,U O (i:Int)] V λe w'=>e=Z (.tuple #[U O (XB md i (md.imps.getD i Imp.z)),U O 0])/\Mo D w0 ks w':=by
 obtain⟨ta,tc,fa,fc,ga,gc,B,q,W,C,rfl,k,n,a,L,f,F⟩:=JX (md:=md) (A:=A) l j;obtain⟨m0,m1,m2,m3,m4,m5,m6,m7,m8,m9,s,r,p,x0,x1,Y,X,R,M⟩:=L.o a;have b:=Hm a;have H:=Hm c;have g:=Hm (λW' (h:Mo D w0 C W')=>simport_c (A:=A) i h c y u v);obtain⟨E,d⟩:∃E,E=(XB md i (md.imps.getD i Imp.z)):=⟨_,rfl⟩;rw[<- d]at g;rw[<- d];clear l a j c d;go_enter func23,ntmps23;go_upto_region 1 with fail
 rw[<- n,<- k];clear n k;go_wp2_with fail
 refine(g.o _ b.o).mono ?_;rintro e w2 ⟨rfl,m⟩;have I:=Hm m;clear m g;go_wp2;go_ret2
 exact⟨rfl,f.o (b.o.keep I.o)⟩
theorem sent_3 {D w0 ks V}(i:Nat)(u:Mo D w0 ks V)(s:CtR D w0 x t ks)(m:MdI D w0 md A)(r:i<N md.funcs):Ec Q 23 #[cxV x t,mdV md A,U O 3,U O (i:Int)] V λe w'=>e=Z (.tuple #[U O (if(N md.types:Int)<=md.funcs.getD i 0 then 2 else 0),U O 0])/\Mo D w0 ks w':=by
 obtain⟨ta,tc,fa,fc,ga,gc,I,q,W,L0,rfl,k,l,a,R,g,L⟩:=JX (md:=md) (A:=A) u s;obtain⟨m0,m1,B,m3,m4,m5,m6,m7,m8,m9,F,E,C,x0,x1,x2,x3,Y,X⟩:=R.o a;have d:=Hm a;have M:=Hm m;have H:(i:Int)<(N md.funcs:Int):=by omega
 rcases m.is.2.2.1 with n|⟨b,off,z,_,y⟩
 . rw[n]at r;simp at r
 have j:=y i r;obtain⟨f,v⟩:∃f,f=md.funcs.getD i 0:=⟨_,rfl⟩;rw[<- v]at j⊢;have d0:=(a.b.cell (p:=⟨b,off+i,none⟩) (m.cd _ _ _ j)).trans j;rw[z]at B;clear u a s m y j v z;by_cases c:(N md.types:Int)<=f
 . rw[if_pos c];go_enter func23,ntmps23;(go_upto_region 1 with fail);rw[<- l,<- k];clear l k;(go_wp2_with fail);(go_quiet (fail));go_wp2;(go_ret2);exact⟨rfl,g.o (d.o.drewN _)⟩
 rw[if_neg c];go_enter func23,ntmps23;go_upto_region 1 with fail
 rw[<- l,<- k];clear l k;go_wp2_with fail
 go_quiet (fail)
 go_wp2;go_ret2
 exact⟨rfl,g.o (d.o.drewN _)⟩
theorem sent_4 {D w0 ks V}(i:Nat)(m:Mo D w0 ks V)(k:CtR D w0 x t ks)(d:MdI D w0 md A)(y:i<N md.tabs)(v:N md.imps<=1048576)(c:N md.tabs<=1048576):Ec Q 23 #[cxV x t,mdV md A,U O 4,U O (i:Int)] V λe w'=>e=Z (.tuple #[U O (XT md i false),U O 0])/\Mo D w0 ks w':=by
 obtain⟨ta,tc,fa,fc,ga,gc,z,q,W,B,rfl,l,p,a,I,g,C⟩:=JX (md:=md) (A:=A) m k;obtain⟨m0,m1,m2,m3,m4,m5,m6,m7,m8,m9,u,s,r,x0,Y,X,R,M,L⟩:=I.o a;have b:=Hm a;have F:=Hm d;have j:=Hm (λW' (h:Mo D w0 B W')=>sown_1 (A:=A) i h d y v c);obtain⟨E,f⟩:∃E,E=(XT md i false):=⟨_,rfl⟩;rw[<- f]at j;rw[<- f];clear m a k d f;go_enter func23,ntmps23;go_upto_region 1 with fail
 rw[<- p,<- l];clear p l;go_wp2_with fail
 refine(j.o _ b.o).mono ?_;rintro e w2 ⟨rfl,n⟩;have H:=Hm n;clear n j;go_wp2;go_ret2
 exact⟨rfl,g.o (b.o.keep H.o)⟩
theorem sent_5 {D w0 ks V}(i:Nat)(m:Mo D w0 ks V)(k:CtR D w0 x t ks)(d:MdI D w0 md A)(y:i<N md.mems)(v:N md.imps<=1048576)(c:N md.mems<=1048576):Ec Q 23 #[cxV x t,mdV md A,U O 5,U O (i:Int)] V λe w'=>e=Z (.tuple #[U O (XT md i true),U O 0])/\Mo D w0 ks w':=by
 obtain⟨ta,tc,fa,fc,ga,gc,z,q,W,B,rfl,l,p,a,I,g,C⟩:=JX (md:=md) (A:=A) m k;obtain⟨m0,m1,m2,m3,m4,m5,m6,m7,m8,m9,u,s,r,x0,Y,X,R,M,L⟩:=I.o a;have b:=Hm a;have F:=Hm d;have j:=Hm (λW' (h:Mo D w0 B W')=>sown_2 (A:=A) i h d y v c);obtain⟨E,f⟩:∃E,E=(XT md i true):=⟨_,rfl⟩;rw[<- f]at j;rw[<- f];clear m a k d f;go_enter func23,ntmps23;go_upto_region 1 with fail
 rw[<- p,<- l];clear p l;go_wp2_with fail
 refine(j.o _ b.o).mono ?_;rintro e w2 ⟨rfl,n⟩;have H:=Hm n;clear n j;go_wp2;go_ret2
 exact⟨rfl,g.o (b.o.keep H.o)⟩
theorem sent_7 {D w0 ks V}(i:Nat)(m:Mo D w0 ks V)(k:CtR D w0 x t ks)(c:MdI D w0 md A)(B:i<N md.exps)(v:N md.exps<=1048576)(y:0<=(md.exps.getD i Exp.z).kind/\(md.exps.getD i Exp.z).kind<=3):Ec Q 23 #[cxV x t,mdV md A,U O 7,U O (i:Int)] V λe w'=>e=Z (.tuple #[U O (Xg x md i),U O 0])/\Mo D w0 ks w':=by
 obtain⟨ta,tc,fa,fc,ga,gc,C,q,W,F,rfl,l,p,a,L,g,f⟩:=JX (md:=md) (A:=A) m k;obtain⟨m0,m1,m2,m3,m4,m5,m6,m7,m8,m9,u,s,r,x0,x1,Y,X,R,M⟩:=L.o a;have b:=Hm a;have H:=Hm c;have j:=Hm (λW' (h:Mo D w0 F W')=>sexport_c i h f.o c B v y);obtain⟨E,d⟩:∃E,E=(Xg x md i):=⟨_,rfl⟩;rw[<- d]at j;rw[<- d];clear m a k c d;go_enter func23,ntmps23;go_upto_region 1 with fail
 rw[<- p,<- l];clear p l;go_wp2_with fail
 refine(j.o _ b.o).mono ?_;rintro e w2 ⟨rfl,n⟩;have I:=Hm n;clear n j;go_wp2;go_ret2
 exact⟨rfl,g.o (b.o.keep I.o)⟩
theorem sent_8 {D w0 ks V}(i:Nat)(l:Mo D w0 ks V)(j:CtR D w0 x t ks)(p:MdI D w0 md A)(v:0<=md.start)(C:CxB x):Ec Q 23 #[cxV x t,mdV md A,U O 8,U O (i:Int)] V λe w'=>e=Z (.tuple #[U O (startE x md.start),U O 0])/\Mo D w0 ks w':=by
 obtain⟨ta,tc,fa,fc,ga,gc,y,q,W,z,rfl,k,n,a,H,f,d⟩:=JX (md:=md) (A:=A) l j;obtain⟨m0,m1,m2,m3,m4,m5,m6,m7,m8,m9,u,s,r,Y,X,R,M,L,I⟩:=H.o a;have b:=Hm a;have B:=Hm p;have g:=Hm (λW' (h:Mo D w0 z W')=>sstart_c (A:=A) h d.o v C);obtain⟨E,c⟩:∃E,E=(startE x md.start):=⟨_,rfl⟩;rw[<- c]at g;rw[<- c];clear l a j p c;go_enter func23,ntmps23;go_upto_region 1 with fail
 rw[<- n,<- k];clear n k;go_wp2_with fail
 refine(g.o _ b.o).mono ?_;rintro e w2 ⟨rfl,m⟩;have F:=Hm m;clear m g;go_wp2;go_ret2
 exact⟨rfl,f.o (b.o.keep F.o)⟩
theorem sent_11z {D w0 ks V}(i:Nat)(j:Mo D w0 ks V)(f:CtR D w0 x t ks)(l:MdI D w0 md A)(b:x.mems=0):Ec Q 23 #[cxV x t,mdV md A,U O 11,U O (i:Int)] V λe w'=>e=Z (.tuple #[U O 2,U O 0])/\Mo D w0 ks w':=by
 obtain⟨L,I,fa,fc,ga,gc,s,q,W,L0,rfl,g,k,a,y,d,u⟩:=JX (md:=md) (A:=A) j f;obtain⟨m0,m1,m2,m3,m4,m5,Y,X,R,M,p,n,m,H,F,E,C,B,z⟩:=y.o a;have c:=Hm a;have v:=Hm l;have r:((x.mems:Int)==0)=true:=by simp[b]
 clear j a f l b;go_enter func23,ntmps23;go_upto_region 1 with fail
 rw[<- k,<- g];clear k g;go_wp2;go_ret2
 exact⟨rfl,d.o c.o⟩
theorem sent_6 {D w0 ks V}(i:Nat)(hm:Mo D w0 ks V)(hx:CtR D w0 x t ks)(v:MdI D w0 md A)(Y:i<N md.globs)(hl:N md.globs<=1048576)(a:(md.globs.getD i Qn.z).ini.length<=1048576)(d:∀y∈(md.globs.getD i Qn.z).ini,InB y)(X:x.imports<=N x.globals)(f:QF (md.globs.getD i Qn.z).ini=true):Ec Q 23 #[cxV x t,mdV md A,U O 6,U O (i:Int)] V λe w'=>e=Z (.tuple #[U O (lstR (QS x x.imports (md.globs.getD i Qn.z).ty.ty [] 0 (md.globs.getD i Qn.z).ini)).1,U O (lstR (QS x x.imports (md.globs.getD i Qn.z).ty.ty [] 0 (md.globs.getD i Qn.z).ini)).2])/\Mo D w0 ks w':=by
 obtain⟨ta,tc,fa,fc,ga,gc,bs,q,W,L0,rfl,hq,hW,c,CL,ac,ab⟩:=JX (md:=md) (A:=A) hm hx;obtain⟨m0,m1,m2,m3,m4,m5,m6,m7,m8,m9,H,F,C,x0,x1,x2,x3,x4,x5⟩:=CL.o c;have bv:=Hm c;have s:=Hm v;have bq:(i:Int)<(N md.globs:Int):=by omega
 rcases v.is.2.2.2.2.2.1 with R|⟨b,off,ea,_,hc⟩
 . rw[R]at Y;simp at Y
 obtain⟨L,I,⟨l,M,k⟩,m⟩:=hc i Y;have j:=In.Ls.inl v.cd m;obtain⟨y,hy⟩:∃y,y=md.globs.getD i Qn.z:=⟨_,rfl⟩;rw[<- hy]at l M k a d f j⊢;obtain⟨⟨g,br⟩,u⟩:=y;dsimp only at l M k a d f j⊢;have ad:=Hm ea;have SF:Hid (∀{W':J},Mo D w0 L0 W'->W'.cell? ⟨q+1,5,none⟩=some (S (some ⟨b,off,none⟩) (N md.globs) A.c6)/\W'.cell? ⟨q,0,none⟩=some (S ta (N x.types) tc)/\W'.cell? ⟨q,1,none⟩=some (S fa (N x.funcs) fc)/\W'.cell? ⟨q,2,none⟩=some (S ga (N x.globals) gc)/\W'.cell? ⟨q,3,none⟩=some (U O x.imports)/\W'.cell? ⟨q,4,none⟩=some (U O x.tables)/\W'.cell? ⟨q,5,none⟩=some (U O x.mems)/\W'.cell? ⟨b,off+i*3+2,none⟩=some (S L (N u) I)/\W'.cell? ⟨b,off+i*3,none⟩=some (U O g)):=fun {W'} h=>by obtain⟨_,_,_,_,_,n5,_,_,_,_,_,_,_,y0,y1,y2,y3,y4,y5⟩:=CL.o h;rw[ad.o]at n5;exact⟨n5,y0,y1,y2,y3,y4,y5,(h.b.cell (p:=⟨b,off+i*3+2,none⟩) (s.o.cd _ _ _ k)).trans k,(h.b.cell (p:=⟨b,off+i*3,none⟩) (s.o.cd _ _ _ l)).trans l⟩
 have r:Hid (Mo D w0 L0 W.drew):=c.drewN 1;have S0:=Hm (SF.o r.o);obtain⟨E,B⟩:∃E,E=lstR (QS x x.imports g [] 0 u):=⟨_,rfl⟩;rw[<- B];have bw:=Hm B;have HC:=Hm (λW' (h:Mo D w0 L0 W')=>slist_c L I u g h ab.o j a d X f);rw[<- B]at HC;clear hm c hx v B;clear hc l M k m ea hy j a d f;clear m0 m1 m2 m3 m4 m5 m6 m7 m8 m9 H F C x0 x1 x2 x3 x4 x5;go_enter func23,ntmps23;go_upto_region 1 with fail
 rw[<- hW,<- hq];clear hW hq;go_wp2_with fail
 go_region_held3 (λw'=>w'.cell? ⟨q+1,5,none⟩=some (S (some ⟨b,off,none⟩) (N md.globs) A.c6)/\w'.cell? ⟨q,0,none⟩=some (S ta (N x.types) tc)/\w'.cell? ⟨q,1,none⟩=some (S fa (N x.funcs) fc)/\w'.cell? ⟨q,2,none⟩=some (S ga (N x.globals) gc)/\w'.cell? ⟨q,3,none⟩=some (U O x.imports)/\w'.cell? ⟨q,4,none⟩=some (U O x.tables)/\w'.cell? ⟨q,5,none⟩=some (U O x.mems)/\w'.cell? ⟨b,off+i*3+2,none⟩=some (S L (N u) I)/\w'.cell? ⟨b,off+i*3,none⟩=some (U O g))
  (first|with_reducible exact S0.o|with_reducible exact S2.o|with_reducible exact S3.o)
  (first
   | (
    go_at_call 64
    refine Rx (HC.o _ r.o) ?_
    rintro e w2 ⟨rfl,hb⟩;have n:=Hm (hb);have S2:=Hm (SF.o n.o);clear hb)
  )
 all_goals
  go_wp2_with fail
  go_ret2
  exact⟨rfl,ac.o n.o⟩
theorem sent_9 {D w0 ks V}(i:Nat)(hm:Mo D w0 ks V)(hx:CtR D w0 x t ks)(s:MdI D w0 md A)(hi:i<N md.elems)(hl:N md.elems<=1048576)(a:(md.elems.getD i Ele.z).off.length<=1048576)(d:∀y∈(md.elems.getD i Ele.z).off,InB y)(ac:x.imports<=N x.globals)(g:QF (md.elems.getD i Ele.z).off=true)(f:(md.elems.getD i Ele.z).fs.length<=1048576):Ec Q 23 #[cxV x t,mdV md A,U O 9,U O (i:Int)] V λe w'=>e=Z (.tuple #[U O (elemE x (md.elems.getD i Ele.z).off (md.elems.getD i Ele.z).fs).1,U O (elemE x (md.elems.getD i Ele.z).off (md.elems.getD i Ele.z).fs).2])/\Mo D w0 ks w':=by
 obtain⟨ta,tc,fa,fc,ga,gc,bv,q,W,L0,rfl,hq,hW,c,CL,ag,af⟩:=JX (md:=md) (A:=A) hm hx;obtain⟨m0,m1,m2,m3,m4,m5,m6,m7,m8,m9,X,R,M,x0,x1,x2,x3,x4,x5⟩:=CL.o c;have b1:=Hm c;have B:=Hm s;have bu:(i:Int)<(N md.elems:Int):=by omega
 rcases s.is.2.2.2.2.2.2.2.1 with ab|⟨b,off,ea,_,hc⟩
 . rw[ab]at hi;simp at hi
 obtain⟨la,Y,L,F,⟨m,l⟩,n,r⟩:=hc i hi;have k:=In.Ls.inl s.cd n;have j:=HI.ty s.cd F r;obtain⟨y,hy⟩:∃y,y=md.elems.getD i Ele.z:=⟨_,rfl⟩;rw[<- hy]at m l a d g k j f⊢;obtain⟨C,I⟩:=y;dsimp only at m l a d g k j f⊢;have ah:=Hm ea;have SF:Hid (∀{W':J},Mo D w0 L0 W'->W'.cell? ⟨q+1,9,none⟩=some (S (some ⟨b,off,none⟩) (N md.elems) A.c8)/\W'.cell? ⟨q,0,none⟩=some (S ta (N x.types) tc)/\W'.cell? ⟨q,1,none⟩=some (S fa (N x.funcs) fc)/\W'.cell? ⟨q,2,none⟩=some (S ga (N x.globals) gc)/\W'.cell? ⟨q,3,none⟩=some (U O x.imports)/\W'.cell? ⟨q,4,none⟩=some (U O x.tables)/\W'.cell? ⟨q,5,none⟩=some (U O x.mems)/\W'.cell? ⟨b,off+i*2,none⟩=some (S la (N C) Y)/\W'.cell? ⟨b,off+i*2+1,none⟩=some (S L (N I) F)):=fun {W'} h=>by obtain⟨_,_,_,_,_,_,_,_,_,n9,_,_,_,y0,y1,y2,y3,y4,y5⟩:=CL.o h;rw[ah.o]at n9;exact⟨n9,y0,y1,y2,y3,y4,y5,(h.b.cell (p:=⟨b,off+i*2,none⟩) (B.o.cd _ _ _ m)).trans m,(h.b.cell (p:=⟨b,off+i*2+1,none⟩) (B.o.cd _ _ _ l)).trans l⟩
 have v:Hid (Mo D w0 L0 W.drew):=c.drewN 1;have S0:=Hm (SF.o v.o);obtain⟨E,H⟩:∃E,E=elemE x C I:=⟨_,rfl⟩;rw[<- H];have b2:=Hm H;have HC:=Hm (λW' (h:Mo D w0 L0 W')=>selem_c la Y C L F I h af.o k a d ac g j f);rw[<- H]at HC;clear hm c hx s H;clear hc m l n r ea hy k j a d g f;clear m0 m1 m2 m3 m4 m5 m6 m7 m8 m9 X R M x0 x1 x2 x3 x4 x5;go_enter func23,ntmps23;go_upto_region 1 with fail
 rw[<- hW,<- hq];clear hW hq;go_wp2_with fail
 go_region_held3 (λw'=>w'.cell? ⟨q+1,9,none⟩=some (S (some ⟨b,off,none⟩) (N md.elems) A.c8)/\w'.cell? ⟨q,0,none⟩=some (S ta (N x.types) tc)/\w'.cell? ⟨q,1,none⟩=some (S fa (N x.funcs) fc)/\w'.cell? ⟨q,2,none⟩=some (S ga (N x.globals) gc)/\w'.cell? ⟨q,3,none⟩=some (U O x.imports)/\w'.cell? ⟨q,4,none⟩=some (U O x.tables)/\w'.cell? ⟨q,5,none⟩=some (U O x.mems)/\w'.cell? ⟨b,off+i*2,none⟩=some (S la (N C) Y)/\w'.cell? ⟨b,off+i*2+1,none⟩=some (S L (N I) F))
  (first|with_reducible exact S0.o|with_reducible exact S2.o|with_reducible exact S3.o)
  (first
   | (
    go_at_call 67
    refine Rx (HC.o _ v.o) ?_
    rintro e w2 ⟨rfl,hb⟩;have u:=Hm (hb);have S2:=Hm (SF.o u.o);clear hb)
  )
 all_goals
  go_wp2_with fail
  go_ret2
  exact⟨rfl,ag.o u.o⟩
theorem sent_11 {D w0 ks V}(i:Nat)(hm:Mo D w0 ks V)(hx:CtR D w0 x t ks)(u:MdI D w0 md A)(X:i<N md.datas)(hl:N md.datas<=1048576)(a:(md.datas.getD i Dat.z).off.length<=1048576)(d:∀y∈(md.datas.getD i Dat.z).off,InB y)(R:x.imports<=N x.globals)(f:QF (md.datas.getD i Dat.z).off=true)(l:x.mems≠0):Ec Q 23 #[cxV x t,mdV md A,U O 11,U O (i:Int)] V λe w'=>e=Z (.tuple #[U O (lstR (QS x x.imports 127 [] 0 (md.datas.getD i Dat.z).off)).1,U O (lstR (QS x x.imports 127 [] 0 (md.datas.getD i Dat.z).off)).2])/\Mo D w0 ks w':=by
 obtain⟨ta,tc,fa,fc,ga,gc,br,q,W,L0,rfl,hq,hW,c,CL,ad,ab⟩:=JX (md:=md) (A:=A) hm hx;obtain⟨m0,m1,m2,m3,m4,m5,m6,m7,m8,m9,F,C,B,x0,x1,x2,x3,x4,x5⟩:=CL.o c;have bu:=Hm c;have ac:=Hm u;have bq:(i:Int)<(N md.datas:Int):=by omega
 have bp:((x.mems:Int)==0)=false:=by simp[l]
 rcases u.is.2.2.2.2.2.2.2.2.2.1 with M|⟨b,off,ea,_,hc⟩
 . rw[M]at X;simp at X
 obtain⟨I,H,ra,rc,⟨k,L⟩,m,Y⟩:=hc i X;have g:=In.Ls.inl u.cd m;obtain⟨y,hy⟩:∃y,y=md.datas.getD i Dat.z:=⟨_,rfl⟩;rw[<- hy]at k L a d f g⊢;obtain⟨s,fs⟩:=y;dsimp only at k L a d f g⊢;have ae:=Hm ea;have SF:Hid (∀{W':J},Mo D w0 L0 W'->W'.cell? ⟨q+1,11,none⟩=some (S (some ⟨b,off,none⟩) (N md.datas) A.c10)/\W'.cell? ⟨q,0,none⟩=some (S ta (N x.types) tc)/\W'.cell? ⟨q,1,none⟩=some (S fa (N x.funcs) fc)/\W'.cell? ⟨q,2,none⟩=some (S ga (N x.globals) gc)/\W'.cell? ⟨q,3,none⟩=some (U O x.imports)/\W'.cell? ⟨q,4,none⟩=some (U O x.tables)/\W'.cell? ⟨q,5,none⟩=some (U O x.mems)/\W'.cell? ⟨b,off+i*2,none⟩=some (S I (N s) H)):=fun {W'} h=>by obtain⟨_,_,_,_,_,_,_,_,_,_,_,j,_,y0,y1,y2,y3,y4,y5⟩:=CL.o h;rw[ae.o]at j;exact⟨j,y0,y1,y2,y3,y4,y5,(h.b.cell (p:=⟨b,off+i*2,none⟩) (ac.o.cd _ _ _ k)).trans k⟩
 have r:Hid (Mo D w0 L0 W.drew):=c.drewN 1;have S0:=Hm (SF.o r.o);obtain⟨E,v⟩:∃E,E=lstR (QS x x.imports 127 [] 0 s):=⟨_,rfl⟩;rw[<- v];have bv:=Hm v;have HC:=Hm (λW' (h:Mo D w0 L0 W')=>slist_c I H s 127 h ab.o g a d R f);rw[<- v]at HC;clear hm c hx u v;clear hc k L m Y ea hy g a d f l;clear m0 m1 m2 m3 m4 m5 m6 m7 m8 m9 F C B x0 x1 x2 x3 x4;go_enter func23,ntmps23;go_upto_region 1 with fail
 rw[<- hW,<- hq];clear hW hq;go_wp2_with fail
 go_region_held3 (λw'=>w'.cell? ⟨q+1,11,none⟩=some (S (some ⟨b,off,none⟩) (N md.datas) A.c10)/\w'.cell? ⟨q,0,none⟩=some (S ta (N x.types) tc)/\w'.cell? ⟨q,1,none⟩=some (S fa (N x.funcs) fc)/\w'.cell? ⟨q,2,none⟩=some (S ga (N x.globals) gc)/\w'.cell? ⟨q,3,none⟩=some (U O x.imports)/\w'.cell? ⟨q,4,none⟩=some (U O x.tables)/\w'.cell? ⟨q,5,none⟩=some (U O x.mems)/\w'.cell? ⟨b,off+i*2,none⟩=some (S I (N s) H))
  (first|with_reducible exact S0.o|with_reducible exact S2.o|with_reducible exact S3.o)
  (first
   | (
    go_at_call 64
    refine Rx (HC.o _ r.o) ?_
    rintro e w2 ⟨rfl,hb⟩;have n:=Hm (hb);have S2:=Hm (SF.o n.o);clear hb)
  )
 all_goals
  go_wp2_with fail
  go_ret2
  exact⟨rfl,ad.o n.o⟩
theorem sent_10 {D w0 ks V}(i:Nat)(hm:Mo D w0 ks V)(hx:CtR D w0 x t ks)(v:MdI D w0 md A)(hi:i<N md.codes)(u:i<N md.funcs)(hl:N md.codes<=1048576)(a9:N md.types<=1048576)(dg:N md.funcs<=1048576)(h0:0<=md.funcs.getD i 0)(g:(Jv md (md.funcs.getD i 0)).ps.length<=1048577)(m:(md.codes.getD i Cod.z).locs.length<=1048577)(hs:∀k,k<=(md.codes.getD i Cod.z).locs.length->0<=QL ((md.codes.getD i Cod.z).locs.take k)/\QL ((md.codes.getD i Cod.z).locs.take k)<=4503599627370496*4)(B:Bd (fn0 (Jv md (md.funcs.getD i 0)) (md.codes.getD i Cod.z).locs))(C:CxB x)(l:∀y∈(md.codes.getD i Cod.z).body,InB y)(d:(md.codes.getD i Cod.z).body.length<=1048576)(c:goM (nst (fn0 (Jv md (md.funcs.getD i 0)) (md.codes.getD i Cod.z).locs)) (md.codes.getD i Cod.z).body=true):Ec Q 23 #[cxV x t,mdV md A,U O 10,U O (i:Int)] V λe w'=>e=Z (.tuple #[U O (bodyR (JQ x frm oty (fn0 (Jv md (md.funcs.getD i 0)) (md.codes.getD i Cod.z).locs) 0 (md.codes.getD i Cod.z).body)).1,U O (bodyR (JQ x frm oty (fn0 (Jv md (md.funcs.getD i 0)) (md.codes.getD i Cod.z).locs) 0 (md.codes.getD i Cod.z).body)).2])/\Mo D w0 ks w':=by
 obtain⟨ta,tc,fa,fc,ga,gc,dj,q,W,L0,rfl,hq,hW,j,CL,bj,bh⟩:=JX (md:=md) (A:=A) hm hx;obtain⟨m0,m1,m2,m3,m4,m5,m6,m7,m8,m9,az,ay,ax,x0,x1,x2,x3,x4,x5⟩:=CL.o j;have dn:=Hm j;have I:=Hm v;have dh:(i:Int)<(N md.codes:Int):=by omega
 have di:(i:Int)<(N md.funcs:Int):=by omega
 rcases v.is.2.2.2.2.2.2.2.2.1 with s|⟨b,off,ea,_,hc⟩
 . rw[s]at hi;simp at hi
 rcases v.is.2.2.1 with s|⟨L,a,F,_,aa⟩
 . rw[s]at u;simp at u
 obtain⟨la,lc,ra,rc,⟨X,R⟩,Y,ab⟩:=hc i hi;have k3:=aa i u;have r:=Grp.Ls.grl v.cd Y;have n:=In.Ls.inl v.cd ab;obtain⟨f,hf⟩:∃f,f=md.funcs.getD i 0:=⟨_,rfl⟩;obtain⟨y,hy⟩:∃y,y=md.codes.getD i Cod.z:=⟨_,rfl⟩;rw[<- hf]at k3 h0 g B c⊢;rw[<- hy]at X R m hs B l d c r n⊢;obtain⟨gs,xs⟩:=y;dsimp only at X R m hs B l d c r n⊢;obtain⟨pa,pc,va,vc,tp,tr,hT⟩:=stypeAt_v f v h0 a9;obtain⟨T,ad⟩:∃T,T=Jv md f:=⟨_,rfl⟩;rw[<- ad]at tp tr hT g B c⊢;have HT:=Hm hT;have bl:=Hm ea;have ag:=Hm F
 have SF:Hid (∀{W':J},Mo D w0 L0 W'->W'.cell? ⟨q+1,0,none⟩=some (S A.a1 (N md.types) A.c1)/\W'.cell? ⟨q+1,1,none⟩=some (S A.a2 (N md.imps) A.c2)/\W'.cell? ⟨q+1,2,none⟩=some (S (some ⟨L,a,none⟩) (N md.funcs) A.c3)/\W'.cell? ⟨q+1,3,none⟩=some (S A.a4 (N md.tabs) A.c4)/\W'.cell? ⟨q+1,4,none⟩=some (S A.a5 (N md.mems) A.c5)/\W'.cell? ⟨q+1,5,none⟩=some (S A.a6 (N md.globs) A.c6)/\W'.cell? ⟨q+1,6,none⟩=some (S A.a7 (N md.exps) A.c7)/\W'.cell? ⟨q+1,7,none⟩=some (G md.hasS)/\W'.cell? ⟨q+1,8,none⟩=some (U O md.start)/\W'.cell? ⟨q+1,9,none⟩=some (S A.a8 (N md.elems) A.c8)/\W'.cell? ⟨q+1,10,none⟩=some (S (some ⟨b,off,none⟩) (N md.codes) A.c9)/\W'.cell? ⟨q+1,11,none⟩=some (S A.a10 (N md.datas) A.c10)/\W'.cell? ⟨q+1,12,none⟩=some (S A.a11 (N md.customs) A.c11)/\W'.cell? ⟨q,0,none⟩=some (S ta (N x.types) tc)/\W'.cell? ⟨q,1,none⟩=some (S fa (N x.funcs) fc)/\W'.cell? ⟨q,2,none⟩=some (S ga (N x.globals) gc)/\W'.cell? ⟨q,3,none⟩=some (U O x.imports)/\W'.cell? ⟨q,4,none⟩=some (U O x.tables)/\W'.cell? ⟨q,5,none⟩=some (U O x.mems)/\W'.cell? ⟨L,a+i,none⟩=some (U O f)/\W'.cell? ⟨b,off+i*2,none⟩=some (S la (N gs) lc)/\W'.cell? ⟨b,off+i*2+1,none⟩=some (S ra (N xs) rc)):=fun {W'} h=>by obtain⟨n0,n1,n2,n3,n4,n5,n6,n7,n8,n9,M,aw,av,y0,y1,y2,y3,y4,y5⟩:=CL.o h;rw[bl.o]at M;rw[ag.o]at n2;exact⟨n0,n1,n2,n3,n4,n5,n6,n7,n8,n9,M,aw,av,y0,y1,y2,y3,y4,y5,(h.b.cell (p:=⟨L,a+i,none⟩) (I.o.cd _ _ _ k3)).trans k3,(h.b.cell (p:=⟨b,off+i*2,none⟩) (I.o.cd _ _ _ X)).trans X,(h.b.cell (p:=⟨b,off+i*2+1,none⟩) (I.o.cd _ _ _ R)).trans R⟩
 have H:Hid (Mo D w0 L0 W.drew):=j.drewN 1;have S0:=Hm (SF.o H.o);obtain⟨E,hE⟩:∃E,E=bodyR (JQ x frm oty (fn0 T gs) 0 xs):=⟨_,rfl⟩;rw[<- hE];have dp:=Hm hE;have HC:=Hm (λW' (h:Mo D w0 L0 W')=>sbody_c T (S pa (N T.ps) pc) (S va (N T.rs) vc) la lc gs ra rc xs h bh.o tp tr r g m hs B C n l d c);rw[<- hE]at HC;have ET:Hid (#[mdV md A,Value.int O f]=#[Ag #[S A.a1 (N md.types) A.c1,S A.a2 (N md.imps) A.c2,S (some ⟨L,a,none⟩) (N md.funcs) A.c3,S A.a4 (N md.tabs) A.c4,S A.a5 (N md.mems) A.c5,S A.a6 (N md.globs) A.c6,S A.a7 (N md.exps) A.c7,G md.hasS,U O md.start,S A.a8 (N md.elems) A.c8,S (some ⟨b,off,none⟩) (N md.codes) A.c9,S A.a10 (N md.datas) A.c10,S A.a11 (N md.customs) A.c11],U O f]):=by show _=_;rw[<- ea,<- F]
 rw[ET.o]at HT;clear hm j hx v hE;clear hc aa X R k3 Y ab ea F hy hf r n g m hs B C l d c tp tr hT ad h0;clear m0 m1 m2 m3 m4 m5 m6 m7 m8 m9 az ay ax x0 x1 x2 x3 x4 x5;go_enter func23,ntmps23;go_upto_region 1 with fail
 rw[<- hW,<- hq];clear hW hq;go_wp2_with fail
 go_region_held3 (λw'=>w'.cell? ⟨q+1,0,none⟩=some (S A.a1 (N md.types) A.c1)/\w'.cell? ⟨q+1,1,none⟩=some (S A.a2 (N md.imps) A.c2)/\w'.cell? ⟨q+1,2,none⟩=some (S (some ⟨L,a,none⟩) (N md.funcs) A.c3)/\w'.cell? ⟨q+1,3,none⟩=some (S A.a4 (N md.tabs) A.c4)/\w'.cell? ⟨q+1,4,none⟩=some (S A.a5 (N md.mems) A.c5)/\w'.cell? ⟨q+1,5,none⟩=some (S A.a6 (N md.globs) A.c6)/\w'.cell? ⟨q+1,6,none⟩=some (S A.a7 (N md.exps) A.c7)/\w'.cell? ⟨q+1,7,none⟩=some (G md.hasS)/\w'.cell? ⟨q+1,8,none⟩=some (U O md.start)/\w'.cell? ⟨q+1,9,none⟩=some (S A.a8 (N md.elems) A.c8)/\w'.cell? ⟨q+1,10,none⟩=some (S (some ⟨b,off,none⟩) (N md.codes) A.c9)/\w'.cell? ⟨q+1,11,none⟩=some (S A.a10 (N md.datas) A.c10)/\w'.cell? ⟨q+1,12,none⟩=some (S A.a11 (N md.customs) A.c11)/\w'.cell? ⟨q,0,none⟩=some (S ta (N x.types) tc)/\w'.cell? ⟨q,1,none⟩=some (S fa (N x.funcs) fc)/\w'.cell? ⟨q,2,none⟩=some (S ga (N x.globals) gc)/\w'.cell? ⟨q,3,none⟩=some (U O x.imports)/\w'.cell? ⟨q,4,none⟩=some (U O x.tables)/\w'.cell? ⟨q,5,none⟩=some (U O x.mems)/\w'.cell? ⟨L,a+i,none⟩=some (U O f)/\w'.cell? ⟨b,off+i*2,none⟩=some (S la (N gs) lc)/\w'.cell? ⟨b,off+i*2+1,none⟩=some (S ra (N xs) rc))
  (first|with_reducible exact S0.o|with_reducible exact S2.o|with_reducible exact S3.o)
  (first
   | (
    go_at_call 61
    refine Rx (HT.o _ _ H.o) ?_
    rintro e w2 ⟨rfl,hb⟩;have af:=Hm (H.o.keep hb);have S2:=Hm (SF.o af.o);clear hb)
   | (
    go_at_call 68
    refine Rx (HC.o _ af.o) ?_
    rintro e w3 ⟨rfl,hb⟩;have ae:=Hm (hb);have S3:=Hm (SF.o ae.o);clear hb)
  )
 all_goals
  go_wp2_with fail
  go_ret2
  exact⟨rfl,bj.o ae.o⟩
theorem imp_gl (md:Mod):(cxF md).imports<=(cxF md).globals.length:=by
 show(Jc md (N md.imps)).length<=(Jc md (N md.imps)++_).length;simp
theorem cxF_b (a:Mod.LB 1048576 md):CxB (cxF md):=by
 have:=(st_b a 7 0).1;rwa [cxF_at (by omega)]at this
theorem sent_c {D w0 ks V}(hw:wfB md=true)(m:Mod.LB 1048576 md)(h1:1<=n)(aj:n<=11)(l:i<QH md n)(g:Mo D w0 ks V)(f:CtR D w0 (cxF md) t ks)(j:MdI D w0 md A):Ec Q 23 #[cxV (cxF md) t,mdV md A,U O (n:Int),U O (i:Int)] V λe w'=>e=Z (.tuple #[U O (X4 md n i).1,U O (X4 md n i).2])/\Mo D w0 ks w':=by
 obtain⟨w1,M,L,w4,w5,I,H,F,E,r,q,R⟩:=wf_parts hw;have C:=cxF_b m;obtain⟨l1,s,l3,l4,l5,l6,l7,Y,X,u,af⟩:=modLn m;rcases(by omega:n=1\/n=2\/n=3\/n=4\/n=5\/n=6\/n=7\/n=8\/n=9\/n=10\/n=11)with rfl|rfl|rfl|rfl|rfl|rfl|rfl|rfl|rfl|rfl|rfl
 . exact(sent_1 i g f j).mono λe w' ⟨he,h⟩=>⟨by rw[he];rfl,h⟩
 . (have a:i<N md.imps:=by simpa[QH]using l);have y:=imp_kind (M _ (QD (z:=Imp.z) a));exact(sent_2 i g f j a s ⟨y.1,y.2.1⟩).mono λe w' ⟨he,h⟩=>⟨by rw[he];rfl,h⟩
 . (have a:i<N md.funcs:=by simpa[QH]using l);exact(sent_3 i g f j a).mono λe w' ⟨he,h⟩=>⟨by rw[he];rfl,h⟩
 . (have a:i<N md.tabs:=by simpa[QH]using l);exact(sent_4 i g f j a s l4).mono λe w' ⟨he,h⟩=>⟨by rw[he];rfl,h⟩
 . (have a:i<N md.mems:=by simpa[QH]using l);exact(sent_5 i g f j a s l5).mono λe w' ⟨he,h⟩=>⟨by rw[he];rfl,h⟩
 . (have a:i<N md.globs:=by simpa[QH]using l);have d:=I _ (QD (z:=Qn.z) a);simp only[QW,Kf]at d;have b:=m.2.2.2.2.2.1.2 i a;exact(sent_6 i g f j a l6 b.1 (XL d.2 b.2) (imp_gl md) d.2).mono λe w' ⟨he,h⟩=>⟨by rw[he];rfl,h⟩
 . (have a:i<N md.exps:=by simpa[QH]using l);have d:=H _ (QD (z:=Exp.z) a);simp only[Jr,Kf,kindB,QB,decide_eq_true_eq]at d;exact(sent_7 i g f j a l7 ⟨by omega,by omega⟩).mono λe w' ⟨he,h⟩=>⟨by rw[he];rfl,h⟩
 . have o:=F;simp only[stB,Kf,QB,decide_eq_true_eq]at o;exact(sent_8 i g f j o.1.1 C).mono λe w' ⟨he,h⟩=>⟨by rw[he];rfl,h⟩
 . (have a:i<N md.elems:=by simpa[QH]using l);have d:=E _ (QD (z:=Ele.z) a);simp only[JC,Kf,Mh,QB,decide_eq_true_eq]at d;have b:=m.2.2.2.2.2.2.2.1.2 i a;exact(sent_9 i g f j a Y b.1.1 (XL d.1 b.1.2) (imp_gl md) d.1 b.2).mono λe w' ⟨he,h⟩=>⟨by rw[he];rfl,h⟩
 . (have a:i<N md.codes:=by simpa[QH]using l);have d:=r _ (QD (z:=Cod.z) a);simp only[Jm,Kf]at d;have b:=m.2.2.2.2.2.2.2.2.1.2 i a;(have p:i<N md.funcs:=by omega);have B:=L _ (QD (z:=0) p);simp only[QB,decide_eq_true_eq]at B;have v:=locs_sum _ 0 d.1 (by omega) (by omega);have ai:=tyAt_b m (md.funcs.getD i 0);exact(sent_10 i g f j a p X l1 l3 B.1 (by omega) (by have:=b.1.1;omega) (λk _=>by have:=v k;omega) (fn0_bd m _ b.1.1 (locs_nn _ _ d.1)) C (XL d.2 b.2.2) b.2.1 d.2).mono λe w' ⟨he,h⟩=>⟨by rw[he];rfl,h⟩
 have a:i<N md.datas:=by simpa[QH]using l
 have d:=q _ (QD (z:=Dat.z) a);simp only[JK]at d;have b:=m.2.2.2.2.2.2.2.2.2.1.2 i a;have e:X4 md 11 i=if(cxF md).mems=0 then(2,0)else lstR (QS (cxF md) (cxF md).imports 127 [] 0 (md.datas.getD i Dat.z).off):=rfl;rw[e]
 by_cases c:(cxF md).mems=0
 . rw[if_pos c];exact(sent_11z i g f j c).mono λe w' ⟨he,h⟩=>⟨he.trans rfl,h⟩
 rw[if_neg c];exact(sent_11 i g f j a u b.1.1 (XL d b.1.2) (imp_gl md) d c).mono λe w' ⟨he,h⟩=>⟨he.trans rfl,h⟩
