import Derived.Test.YtaccbbndmmhenaaGreatGar
set_option linter.all false
set_option maxHeartbeats 400000000
set_option maxRecDepth 100000
namespace Go.Proofs
open Value renaming int->U,slice->S,bool->G,pointer->Yp,string->Xs,agg->Ag
open IntKind renaming i64->O,u64->Ou
open Ending renaming returned->Z
open Obj renaming cells->Fc
open Go renaming World->J,Calls->Ec,Value->Vu,Addr->Ad
open Go.RowKit renaming Below->Bw
open Tryz renaming prog->Q
open Tryz
open Nat renaming le_trans->Kq,zero_le->Kw,add_comm->Iv
open Bool renaming false_eq_true->Mf,and_true->Rc,and_false->Pd,and_eq_true->Ky
open IntKind renaming wrap_i64->Kz
open List renaming getD->Kx,perm_iff_count->Kn,count_cons->Th,append_assoc->Kv,all_eq_true->Hf,drop_of_length_le->Hz,map_append->Tf,length_filter_le->Lx,length->N
open Calls renaming mono->Lk
open Value renaming slice->Tv
open Act renaming eval->Tc,put->Hw
namespace YtaccbbndmmhenaaGreat.Va
open Go.RowKit Go.Sort
variable {t:Ctv}{x:Ctx}{s:Fn}{y:In}{nl go want e:Int}{w0 V:J}{ks:List Qb}{m:MS}{A:MdA}{md:Mod}{D p n i:Nat}{α β:Type}{lv:Vu}
section
variable {D:Nat}{w0:J}{p:Nat}{lv:Vu}{nl:Int}{ks:List Qb}{m:MS}{V W V1:J}
theorem MSt.drop {a:Vu}{g c:Nat}{bs:List Blk}{b:Blk}{c1 c2:List Vu}{po:Int}(l:m.s.cq=bs++[b]) (h:Mo D w0 (mxR p lv nl a (S (some ⟨g,0,none⟩) (N bs+1) c) m.e po::stR m.s a::mlR (N bs+1) (S (some ⟨g,0,none⟩) (N bs+1) c) (c1++c2)::ks) V) (k:Fl (MRep D w0 ks) bs c1) (j:N c1=N bs*7):MSt D w0 p lv nl ks (JE m { m.s with cq:=m.s.cq.dropLast }) (V.setCell ⟨p,3,none⟩ (S (some ⟨g,0,none⟩) (N bs) c)):=by
 have e:m.s.cq.dropLast=bs:=by rw[l];simp
 have f:=(h.set 3 (S (some ⟨g,0,none⟩) (N bs) c)).perm XK;have o:=f.row (r:=mlR (N bs+1) (S (some ⟨g,0,none⟩) (N bs+1) c) (c1++c2)) (by simp);have d:=own_take o (Nat.le_succ (N bs));have q:(c1++c2).take (N bs*7)=c1:=by rw[<- j];simp
 rw[q]at d;have n:=(f.swap (r':=mlR (N bs) (S (some ⟨g,0,none⟩) (N bs) c) c1) d rfl).perm XK.symm;refine⟨a,S (some ⟨g,0,none⟩) (N bs) c,c1,po,?_,?_⟩
 . show Mo D w0 (_::_::mlR (N m.s.cq.dropLast) _ _::_) _;rw[e];exact n
 show Fl _ m.s.cq.dropLast c1;rw[e];exact k
theorem MSt.redo {f:Vu}{g c:Nat}{bs:List Blk}{b b':Blk}{c1:List Vu}{tv rv tv' rv' x0 x1 x2 x3 n:Vu}{po a:Int}(t:m.s.cq=bs++[b]) (h:Mo D w0 (mxR p lv nl f (S (some ⟨g,0,none⟩) (N bs+1) c) m.e po::stR m.s f::mlR (N bs+1) (S (some ⟨g,0,none⟩) (N bs+1) c) (c1++[tv,rv,x0,x1,x2,x3,n])::ks) V) (r:Fl (MRep D w0 ks) bs c1) (z:N c1=N bs*7) (q:Ty D w0 ks tv' b'.gj) (o:Ty D w0 ks rv' b'.results):MSt D w0 p lv nl ks (JE m { m.s with cq:=m.s.cq.dropLast++[b'] }) (((((((V.setCell ⟨g,N bs*7,none⟩ tv').setCell ⟨g,N bs*7+1,none⟩ rv').setCell ⟨g,N bs*7+2,none⟩ (U O b'.gk)).setCell ⟨g,N bs*7+3,none⟩ (G b'.jq)).setCell ⟨g,N bs*7+4,none⟩ (G (decide (b'.op=4)))).setCell ⟨g,N bs*7+5,none⟩ (U O a)).setCell ⟨g,N bs*7+6,none⟩ (G (decide (b'.op=3)))):=by
 have e:m.s.cq.dropLast=bs:=by rw[t];simp
 have l:=(((((((h.perm XK).set (N bs*7) tv').set (N bs*7+1) rv').set (N bs*7+2) (U O b'.gk)).set (N bs*7+3) (G b'.jq)).set (N bs*7+4) (G (decide (b'.op=4)))).set (N bs*7+5) (U O a)).set (N bs*7+6) (G (decide (b'.op=3)));have d:∀(j:Nat) (u:Vu) (zs:List Vu),(c1++zs).set (N bs*7+j) u=c1++zs.set j u:=λj u zs=>by rw[List.set_append_right _ _ (by omega),show(N bs)*7+j-N c1=j by omega]
 have k:∀(u:Vu) (zs:List Vu),(c1++zs).set (N bs*7) u=c1++zs.set 0 u:=λu zs=>d 0 u zs;rw[k,d,d,d,d,d,d]at l;have v:=l.perm XK.symm;refine⟨f,S (some ⟨g,0,none⟩) (N bs+1) c,c1++mbk tv' rv' b'.gk b'.jq (decide (b'.op=4)) a (decide (b'.op=3)),po,?_,?_⟩
 . show Mo D w0 (_::_::mlR (m.s.cq.dropLast++[b']).length _ _::_) _;(have y:(m.s.cq.dropLast++[b']).length=N bs+1:=by rw[e];simp);rw[y];exact v
 show Fl _ (m.s.cq.dropLast++[b']) _;rw[e];exact r.app (Fl.one ⟨tv',rv',a,rfl,q,o⟩)
end
theorem sclose_c (f:Bool)(h:MSt D w0 p lv nl ks m V)(i:Inv m.s)(b8:m.s.cq≠[])(a0:N m.s.cq<=1048577)(b7:N m.s.jj<=1099511627776)(ac:(top m.s).results.length<=1048576):Ec Q 82 #[Yp (some ⟨p,0,none⟩),G f] V λe w'=>e=Z (.tuple #[])/\∃ns,MSt D w0 p lv nl (ns++ks) (Jb m f) w':=by
 obtain⟨z,M⟩:=JN b8;obtain⟨b,a1⟩:∃b,b=top m.s:=⟨_,rfl⟩;rw[<- a1]at M ac;obtain⟨sa,sc,g,c,c1,tv,rv,a,po,hm,hc,hf,hl,t1,t2⟩:=h.opn M;have ev:N z<=1048577:=by rw[M]at a0;simp at a0;omega
 obtain⟨⟨q0,q1,q2,q3,q4,q5⟩,f2,f3,f4,f5⟩:=Xn hm;obtain⟨e0,e1,e2,e3,e4,e5,e6,f6⟩:=mlast (m:=m) (r:=tv) hm hl;obtain⟨ta,tc,rfl,_⟩:=t1.ms h;obtain⟨I,H,rfl,_⟩:=t2.ms h;have HL:=Hm (λw=>stop_c p g (N z) c w);obtain⟨d,ad⟩:∃d,d=Qq m b.results:=⟨_,rfl⟩;have pk:Pk m.s d.s:=by rw[ad];exact JI m _
 obtain⟨KB,a4⟩:∃KB:Nat->Qb,KB=λg2=>box 174 7 g2 (mbk (S ta (N b.gj) tc) (S I (N b.results) H) b.gk b.jq (decide (b.op=4)) a (decide (b.op=3))):=⟨_,rfl⟩;have cj:Hid (∀V1,Bw V.heap.size V V1->Ec Q 83 #[Yp (some ⟨p,0,none⟩),S I (N b.results) H] (V1.alloc (Fc #[S ta (N b.gj) tc,S I (N b.results) H,U O b.gk,G b.jq,G (decide (b.op=4)),U O a,G (decide (b.op=3))] 174)) λe w'=>e=Z (.tuple #[])/\MSt D w0 p lv nl (KB V1.heap.size::ks) d w'):=λV1 hV=>by rw[ad,a4];exact Xa _ b.results ((h.keep hV).bxn #[S ta (N b.gj) tc,S I (N b.results) H,U O b.gk,G b.jq,G (decide (b.op=4)),U O a,G (decide (b.op=3))] 174 7 rfl) (t2.cons _) i b8 a0 b7 (by omega)
 have ca:Jb m f=(let m2:=(if(N d.s.jj)≠b.gk\/(f=false/\b.op=4/\b.results≠[])then fail d 6 else d);if m2.e≠0 then m2 else if f then JE m2 { m2.s with cq:=m2.s.cq.dropLast++[els5 b] }else JE m2 (push { m2.s with cq:=m2.s.cq.dropLast } b.results)):=by rw[ad,a1];rfl
 have ak:d.s.cq=z++[b]:=by rw[pk.bl];exact M
 have i1:=pk.iv i;have dy:N d.s.jj<=1099511627776:=Kq pk.ln b7;obtain⟨C,k⟩:∃C:Bool,C=decide (N d.s.jj≠b.gk\/(f=false/\b.op=4/\b.results≠[])):=⟨_,rfl⟩;have HM:Hid (Jb m f=if C then fail d 6 else if d.e≠0 then d else if f then JE d { d.s with cq:=d.s.cq.dropLast++[els5 b] }else JE d (push { d.s with cq:=d.s.cq.dropLast } b.results)):=by
  show Jb m f=_;rw[ca,k];by_cases q:N d.s.jj≠b.gk\/(f=false/\b.op=4/\b.results≠[])
  . have e6:(fail d 6).e≠0:=by
     unfold fail;split
     · show(6:Int)≠0;decide
     assumption
    simp only[if_pos q,decide_eq_true q,if_pos e6,if_true]
  simp only[if_neg q,decide_eq_false q,Mf,if_false]
 have dr:=Hm t1;have ch:=Hm t2;have ba:=Hm a4;have X:=Hm ak;have ds:=Hm ac;clear ca a1 ad pk hm hf M h t1 t2 a4 ak ac;go_enter func82,ntmps82;go_wp2_with fail
 refine(HL.o _ (by assumption) (by omega)).mono ?_;rintro e w1 ⟨rfl,n,rfl⟩;obtain⟨V1,af⟩:∃V1,V1=V.drewN n:=⟨_,rfl⟩;have cm:=Hm (cj.o V1 (by rw[af];exact⟨rfl,rfl,rfl,lRz,λ_ _=>rfl⟩));have kV:∀a,V1.cell? a=V.cell? a:=λa=>by rw[af];rfl
 have g0:=(kV _).trans e0;have g1:=(kV _).trans e1;have g2:=(kV _).trans e2;have g3:=(kV _).trans e3;have g4:=(kV _).trans e4;have g5:=(kV _).trans e5;have g6:=(kV _).trans e6;rw[<- af];clear af cj kV;go_upto_region 1 with fail
 obtain⟨E,ai⟩:∃E,E=V1.heap.size:=⟨_,rfl⟩;obtain⟨W1,ae⟩:∃W1,W1=V1.alloc (Fc #[S ta (N b.gj) tc,S I (N b.results) H,U O b.gk,G b.jq,G (decide (b.op=4)),U O a,G (decide (b.op=3))] 174):=⟨_,rfl⟩;have r1:W1.cell? ⟨E,1,none⟩=some (S I (N b.results) H):=by rw[ae,ai];exact Qe rfl rfl
 rw[<- ae,<- ai]at cm;rw[<- ae,<- ai];clear ae ai g0 g1 g2 g3 g4 g5 g6;go_wp2_with fail
 refine cm.o.mono ?_;rintro e w2 ⟨rfl,ah⟩;have A:=ah.mo;rw[ba.o]at A;obtain⟨⟨z0,z1,z2,z3,z4,z5,z6⟩,y0,y1,y2,y3,y4,y5,y6⟩:=z7 A (mS ..);have ck:=Hm ah;obtain⟨ee,ec,g',c',fh,tv',rv',a',eo,b9,dk,dj,di,c7,c6⟩:=ah.opn X.o;obtain⟨⟨b5,b4,b3,b2,ay,b1⟩,cf,ce,cd,cc⟩:=Xn b9;clear A ah b9 dj dk di c7 c6 e0 e1 e2 e3 e4 e5 e6 q0 q1 q2 q3 q4 q5 f2 f3 f4 f5 f6 HL;go_upto_region 2 with fail
 go_cut [34]from 13 to 34 (λs V'=>s=G C/\∃n,V'=w2.drewN n)
 case first=>
  by_cases x1:N d.s.jj=b.gk
  . (have d1:((N d.s.jj:Int) != (b.gk:Int))=false:=by simp[x1]);cases f
    . by_cases Y:b.op=4
      . (have ed:decide (b.op=4)=true:=by simp[Y]);rw[ed]at z4;(have HC:Hid (C=decide (0<N b.results)):=by show C=_;rw[k];simp[x1,Y,List.length_pos_iff]);clear x1 Y k;(go_quiet (fail));(go_wp2_with fail);(go_meet);rw[HC.o];exact⟨rfl,_,rfl⟩
      (have ed:decide (b.op=4)=false:=by simp[Y]);rw[ed]at z4;(have HC:Hid (C=false):=by show C=false;rw[k];simp[x1,Y]);clear x1 Y k;(go_quiet (fail));(go_wp2_with fail);(go_meet);rw[HC.o];exact⟨rfl,_,rfl⟩
    (have HC:Hid (C=false):=by show C=false;rw[k];simp[x1]);clear x1 k;(go_quiet (fail));(go_wp2_with fail);(go_meet);rw[HC.o];exact⟨rfl,_,rfl⟩
  have d1:((N d.s.jj:Int) != (b.gk:Int))=true:=by simp;omega
  have HC:Hid (C=true):=by show C=true;rw[k];simp[x1]
  clear x1 k;go_quiet (fail)
  go_wp2_with fail
  go_meet
  rw[HC.o];exact⟨rfl,_,rfl⟩
 obtain⟨rfl,n2,rfl⟩:=hcut;have t:=Hm (ck.o.drewN n2);clear k ck;cases C
 . by_cases c0:d.e=0
   . (have k0:(d.e != 0)=false:=by simp[c0]);cases f
     . (have HR:Hid (Jb m false=JE d (push { d.s with cq:=d.s.cq.dropLast } b.results)):=by show Jb m false=_;rw[HM.o];simp[c0]);clear b5 b4 b3 b2 ay b1 cf ce cd cc HM c0;obtain⟨W5,y⟩:∃W5,W5=w2.drewN n2:=⟨_,rfl⟩;(have q9:W5.cell? ⟨p,4,none⟩=some (U O d.e):=by obtain⟨sv,bv,a8,po,F,_⟩:=t.o;rw[y];exact(Xn F).1.2.2.2.2.1);rw[<- y]at t⊢;clear y z0 z1 z2 z3 z4 z5 z6 y0 y1 y2 y3 y4 y5 y6;obtain⟨da,c9,g5,c5,a7,ab,ax,a5,db,l,az,L,B,aw,av⟩:=t.o.opn X.o;obtain⟨⟨p0,p1,p2,p3,p4,p5⟩,u2,u3,u4,u5⟩:=Xn l;(have HD:Hid (∀v,v=(W5.setCell ⟨p,3,none⟩ (S (some ⟨g5,0,none⟩) (N z) c5)).drew->MSt D w0 p lv nl (KB E::ks) (JE d { d.s with cq:=d.s.cq.dropLast }) v):=λv e=>by rw[e];exact(MSt.drop X.o l L B).drewN 1);(have hw:IntKind.i64.wrap (((N z+1:Nat):Int)-1)=N z:=by rw[Kz];omega);(have i5:(N z:Int)<=(c5:Int):=by omega);(have co:Hid (∀v,MSt D w0 p lv nl (KB E::ks) (JE d { d.s with cq:=d.s.cq.dropLast }) v->v.cell? ⟨E,1,none⟩=some (S I (N b.results) H)):=λv F=>by have A:=F.mo;rw[ba.o]at A;exact(z7 A (mS ..)).1.2.1);(have ci:Hid (∀v,MSt D w0 p lv nl (KB E::ks) (JE d { d.s with cq:=d.s.cq.dropLast }) v->Ec Q 86 #[Yp (some ⟨p,0,none⟩),S I (N b.results) H] v λe w'=>e=Z (.tuple #[])/\MSt D w0 p lv nl (KB E::ks) (JE d (push { d.s with cq:=d.s.cq.dropLast } b.results)) w'):=λv F=>by obtain⟨eg,ef,e,hh⟩:=Ty.ms (ch.o.cons (KB E)) F;cases e;have ac:=ds.o;exact XM I H b.results F hh (by omega) (by show(N d.s.jj)<=_;omega));clear l L az B aw av p0 p1 p2 p4 p5 u2 u4 u5;(go_upto_region 9 with fail);go_region
       all_goals
        go_upto_region 10 with fail
        obtain⟨v,a2⟩:∃v,v=(W5.setCell ⟨p,3,none⟩ (S (some ⟨g5,0,none⟩) (N z) c5)).drew:=⟨_,rfl⟩;have a6:=HD.o v a2;have r1:=co.o v a6;have du:=Hm (ci.o v a6);rw[<- a2];clear a2 a6 HD co ci
        go_wp2_with (go_at_call 86;refine du.o.mono ?_;rintro e w7 ⟨rfl,dl⟩)
        first|go_end0|(refine bodyPost_ret (results_none rfl _ _ _) rfl ?_)
        rw[HR.o]
        exact⟨rfl,[_],dl⟩
     (have HR:Hid (Jb m true=JE d { d.s with cq:=d.s.cq.dropLast++[els5 b] }):=by show Jb m true=_;rw[HM.o];simp[c0]);clear b5 b4 b3 b2 ay b1 cf ce cd cc HM c0;obtain⟨W4,a3⟩:∃W4,W4=w2.drewN n2:=⟨_,rfl⟩;(have q9:W4.cell? ⟨p,4,none⟩=some (U O d.e):=by obtain⟨sv,bv,a8,po,F,_⟩:=t.o;rw[a3];exact(Xn F).1.2.2.2.2.1);rw[<- a3]at t⊢;clear a3 z0 z1 z2 z3 z4 z5 z6 y0 y1 y2 y3 y4 y5 y6;have R:=t.o;rw[ba.o]at R;obtain⟨⟨z0,z1,z2,z3,z4,z5,z6⟩,y0,y1,y2,y3,y4,y5,y6⟩:=z7 R.mo (mS ..);have ag:=(R.setBox rfl 4 (G false)).setBox rfl 3 (G false);(have dz:E≠p:=λe=>by obtain⟨sv,bv,a8,po,F,_⟩:=R;exact Own.disj (a:=[mxR p lv nl sv bv d.e po]) F.own (Jy.2 ⟨_,List.mem_singleton.2 rfl,rfl⟩) (Jy.2 ⟨box 174 7 E (mbk (S ta (N b.gj) tc) (S I (N b.results) H) b.gk b.jq (decide (b.op=4)) a (decide (b.op=3))),by simp,by rw[<- e];rfl⟩));(go_upto_region 8 with fail);obtain⟨W5,y⟩:∃W5,W5=(W4.setCell ⟨E,4,none⟩ (G false)).setCell ⟨E,3,none⟩ (G false):=⟨_,rfl⟩;rw[<- y]at ag;rw[<- y];clear y z0 z1 z2 z3 z4 z5 z6 y0 y1 y2 y3 y4 y5 y6 q9 R t;obtain⟨⟨z0,z1,z2,z3,z4,z5,z6⟩,y0,y1,y2,y3,y4,y5,y6⟩:=z7 ag.mo (mS ..);obtain⟨da,c9,g5,c5,a7,ab,ax,a5,db,l,az,L,B,aw,av⟩:=ag.opn X.o;obtain⟨⟨p0,p1,p2,p3,p4,p5⟩,u2,u3,u4,u5⟩:=Xn l;obtain⟨r0,r1,r2,r3,r4,r5,r6,_⟩:=mlast (m:=d) (r:=ab) l B;have FZ:=λ(j:Nat) (hj:j<7)=>(l.cell (T:=174) (sz:=7) (n:=N z+1) (g:=g5) (c:=c5) (cs:=a7++mbk ab ax b.gk b.jq (decide (b.op=4)) a5 (decide (b.op=3))) (by simp) rfl (j:=N z*7+j) (u:=(mbk ab ax b.gk b.jq (decide (b.op=4)) a5 (decide (b.op=3))).getD j undef) (by omega) (by rw[List.getElem?_append_right (by omega),show(N z)*7+j-N a7=j by omega];rcases(by omega:j=0\/j=1\/j=2\/j=3\/j=4\/j=5\/j=6)with rfl|rfl|rfl|rfl|rfl|rfl|rfl<;>rfl)).2;have v0:=FZ 0 (by omega);have v1:=FZ 1 (by omega);have v2:=FZ 2 (by omega);have v4:=FZ 4 (by omega);have v5:=FZ 5 (by omega);have v6:=FZ 6 (by omega);simp only[Nat.add_zero]at v0
     (have Y:decide ((els5 b).op=4)=false:=by unfold els5;by_cases x:b.op=4<;>simp[x]);(have x3:decide ((els5 b).op=3)=decide (b.op=3):=by unfold els5;by_cases x:b.op=4<;>simp[x]);have HD:=Hm (MSt.redo (b':=els5 b) (a:=a) (tv':=S ta (N b.gj) tc) (rv':=S I (N b.results) H) X.o l L B (dr.o.cons _) (ch.o.cons _));rw[Y,x3]at HD;(have hw:IntKind.i64.wrap (((N z+1:Nat):Int)-1)=N z:=by rw[Kz];omega);(have i5:(N z:Int)<((N z+1:Nat):Int):=by omega);clear l L az B aw av p0 p1 p2 p4 p5 u2 u4 u5 ag FZ x3 Y;go_region
     all_goals
      go_wp2_with fail
      first|go_end0|(refine bodyPost_ret (results_none rfl _ _ _) rfl ?_)
      rw[HR.o]
      exact⟨rfl,[_],HD.o.drewN 1⟩
   (have k0:(d.e != 0)=true:=by simp[c0]);(have HR:Hid (Jb m f=d):=by show Jb m f=_;rw[HM.o];simp[c0]);clear HM c0;have q9:(w2.drewN n2).cell? ⟨p,4,none⟩=some (U O d.e):=ay;go_wp2;(first|go_end0|(refine bodyPost_ret (results_none rfl _ _ _) rfl ?_));rw[HR.o];exact⟨rfl,[_],t.o⟩
 have HR:Hid (Jb m f=fail d 6):=by show Jb m f=_;rw[HM.o];simp
 have dt:=Hm (Q2 6 t.o);clear HM;have k0:((fail d 6).e != 0)=true:=by
  unfold fail;split
  · rfl
  rename_i h;simpa using h
 go_wp2_with fail
 refine dt.o.mono ?_;rintro e w3 ⟨rfl,cb⟩;have q9:w3.cell? ⟨p,4,none⟩=some (U O (fail d 6).e):=by obtain⟨sv,bv,a8,po,F,_⟩:=cb;exact(Xn F).1.2.2.2.2.1
 go_wp2;first|go_end0|(refine bodyPost_ret (results_none rfl _ _ _) rfl ?_)
 rw[HR.o];exact⟨rfl,[_],cb⟩
theorem sask_y:(∀⦃D:Nat⦄ ⦃w0:J⦄ ⦃p:Nat⦄ ⦃lv:Vu⦄ ⦃nl:Int⦄ ⦃ks:List Qb⦄ ⦃m:MS⦄ ⦃V:J⦄ ⦃x:Ctx⦄ ⦃t:Ctv⦄ (a b v:Int) (g:List Int) (r:Option Ad) (q:Nat) (h:MSt D w0 p lv nl ks m V) (y:CtR D w0 x t ks) (M:m.e=0),AkC D w0 p lv nl x t m.s ks V ⟨35,a,b,v,g⟩ r q)/\(∀⦃D:Nat⦄ ⦃w0:J⦄ ⦃p:Nat⦄ ⦃lv:Vu⦄ ⦃nl:Int⦄ ⦃ks:List Qb⦄ ⦃m:MS⦄ ⦃V:J⦄ ⦃x:Ctx⦄ ⦃t:Ctv⦄ (a b v:Int) (g:List Int) (r:Option Ad) (q:Nat) (h:MSt D w0 p lv nl ks m V) (y:CtR D w0 x t ks) (M:m.e=0),AkC D w0 p lv nl x t m.s ks V ⟨13,a,b,v,g⟩ r q)/\(∀⦃D:Nat⦄ ⦃w0:J⦄ ⦃p:Nat⦄ ⦃lv:Vu⦄ ⦃nl:Int⦄ ⦃ks:List Qb⦄ ⦃m:MS⦄ ⦃V:J⦄ ⦃x:Ctx⦄ ⦃t:Ctv⦄ (a b v:Int) (g:List Int) (r:Option Ad) (q:Nat) (h:MSt D w0 p lv nl ks m V) (y:CtR D w0 x t ks) (M:m.e=0),AkC D w0 p lv nl x t m.s ks V ⟨16,a,b,v,g⟩ r q):=by
 refine⟨?c0,?c1,?c2⟩;case' c0=>have d:=0
 case' c1=>have c:=0
 case' c2=>have l:=0
 all_goals
  intro D w0 p lv nl ks m V x t a b v g r q h y M
  unfold AkC
  first|(replace d:=d;obtain⟨ta,tc,fa,fc,ga,gc,X,W,B,rfl,H,I,u⟩:=JH 35 a b v g r q h y)|(replace c:=c;obtain⟨ta,tc,fa,fc,ga,gc,X,W,B,rfl,H,I,u⟩:=JH 13 a b v g r q h y)|(obtain⟨ta,tc,fa,fc,ga,gc,X,W,B,rfl,H,I,u⟩:=JH 16 a b v g r q h y)
  obtain⟨⟨d0,d1,d4⟩,c0,c1,c2,c4,c5⟩:=cl6 u;obtain⟨sa,sc,ba,bc,a3,po,hm,A⟩:=u.opnS;obtain⟨⟨q0,q1,q2,q3,q4,q5⟩,f2,f3,f4,f5⟩:=Xn hm;clear hm A q0 q2 q4 q5 f2 f3 f4 f5;have HI:=Hm u;have L:=Hm M;have Y:=Hm (λf=>Q2 f u)
  first|(replace d:=d;have E:=Hm (λw=>QO 35 w))|(replace c:=c;have E:=Hm (λw=>QO 13 w))|(have E:=Hm (λw=>QO 16 w))
  first|(replace d:=d;obtain⟨f,A⟩:∃f,f=Qi (Qa 35):=⟨_,rfl⟩)|(replace c:=c;obtain⟨f,A⟩:∃f,f=Qi (Qa 13):=⟨_,rfl⟩)|(obtain⟨f,A⟩:∃f,f=Qi (Qa 16):=⟨_,rfl⟩)
  rw[<- A]at E;have z:f=2:=by rw[A];decide +kernel
  have ar:(f==5)=false:=by rw[z];rfl
  have aq:(f==6)=false:=by rw[z];rfl
  clear A z h y M
  first|(replace d:=d;by_cases j:a<(N x.jx:Int))|(replace c:=c;by_cases j:a<(N m.s.cq:Int))|(by_cases j:a<(N x.jk:Int))
  . first
    | (
     replace d:=d
     have F:Hid ((⟨m.s,Qp x frm m.s ⟨35,a,b,v,g⟩⟩:MS)=m):=by
      show _=m
      rw[show Qp x frm m.s ⟨35,a,b,v,g⟩=0 by simp[Qp,Qk,show frm 35=2 by decide +kernel,j]];exact(ms0 L.o).symm)
    | (
     replace c:=c
     have F:Hid ((⟨m.s,Qp x frm m.s ⟨13,a,b,v,g⟩⟩:MS)=m):=by
      show _=m
      rw[show Qp x frm m.s ⟨13,a,b,v,g⟩=0 by simp[Qp,Qk,show frm 13=2 by decide +kernel,j]];exact(ms0 L.o).symm)
    | (
     replace l:=l
     have F:Hid ((⟨m.s,Qp x frm m.s ⟨16,a,b,v,g⟩⟩:MS)=m):=by
      show _=m
      rw[show Qp x frm m.s ⟨16,a,b,v,g⟩=0 by simp[Qp,Qk,show frm 16=2 by decide +kernel,j]];exact(ms0 L.o).symm)
    first|(replace d:=d;have k:¬((N x.jx:Int)<=a):=by omega)|(replace c:=c;have k:¬((N m.s.cq:Int)<=a):=by omega)|(have k:¬((N x.jk:Int)<=a):=by omega)
    clear j u
    go_enter func79,ntmps79
    go_upto_region 1 with fail
    rw[<- H,<- I];clear H I
    go_upto_region 35 with (go_at_call 138;refine(E.o _).mono ?_;rintro e w2 ⟨rfl,rfl⟩)
    have C:=Hm (λn=>(E.o (W.drewN n)).mono (R':=λe w'=>e=Z (U O f)/\∃m,w'=W.drewN m) λe w' ⟨a,b⟩=>⟨a,n,b.symm⟩)
    go_quiet (with_reducible exact C.o _)
    go_wp2
    go_end0
    rw[F.o]
    exact⟨rfl,[_,_],(HI.o).keep ⟨rfl,rfl,rfl,lRz,λ_ _=>rfl⟩⟩
  . first
    | (
     replace d:=d
     have F:Hid ((⟨m.s,Qp x frm m.s ⟨35,a,b,v,g⟩⟩:MS)=fail m 2):=by
      show _=fail m _
      rw[show Qp x frm m.s ⟨35,a,b,v,g⟩=2 by simp[Qp,Qk,show frm 35=2 by decide +kernel,j]];exact(JT L.o _).symm)
    | (
     replace c:=c
     have F:Hid ((⟨m.s,Qp x frm m.s ⟨13,a,b,v,g⟩⟩:MS)=fail m 2):=by
      show _=fail m _
      rw[show Qp x frm m.s ⟨13,a,b,v,g⟩=2 by simp[Qp,Qk,show frm 13=2 by decide +kernel,j]];exact(JT L.o _).symm)
    | (
     replace l:=l
     have F:Hid ((⟨m.s,Qp x frm m.s ⟨16,a,b,v,g⟩⟩:MS)=fail m 2):=by
      show _=fail m _
      rw[show Qp x frm m.s ⟨16,a,b,v,g⟩=2 by simp[Qp,Qk,show frm 16=2 by decide +kernel,j]];exact(JT L.o _).symm)
    first|(replace d:=d;have k:(N x.jx:Int)<=a:=by omega)|(replace c:=c;have k:(N m.s.cq:Int)<=a:=by omega)|(have k:(N x.jk:Int)<=a:=by omega)
    clear j u
    go_enter func79,ntmps79
    go_upto_region 1 with fail
    rw[<- H,<- I];clear H I
    go_upto_region 35 with (first|(go_at_call 138;refine(E.o _).mono ?_;rintro e w2 ⟨rfl,rfl⟩)|(go_at_call 137;refine(Y.o 2).mono ?_;rintro e w1 ⟨rfl,R⟩;obtain⟨⟨d0,d1,d4⟩,c0,c1,c2,c4,c5⟩:=cl6 R))
    have C:=Hm (λn=>(E.o (w1.drewN n)).mono (R':=λe w'=>e=Z (U O f)/\∃m,w'=w1.drewN m) λe w' ⟨a,b⟩=>⟨a,n,b.symm⟩)
    go_quiet (with_reducible exact C.o _)
    go_wp2
    go_end0
    rw[F.o]
    exact⟨rfl,[_,_],(R).keep ⟨rfl,rfl,rfl,lRz,λ_ _=>rfl⟩⟩
def sask_35:=sask_y.1
def sask_13:=sask_y.2.1
def sask_16:=sask_y.2.2
theorem sask_x:(∀⦃D:Nat⦄ ⦃w0:J⦄ ⦃p:Nat⦄ ⦃lv:Vu⦄ ⦃nl:Int⦄ ⦃ks:List Qb⦄ ⦃m:MS⦄ ⦃V:J⦄ ⦃x:Ctx⦄ ⦃t:Ctv⦄ (a b v:Int) (j:List Int) (z:Option Ad) (y:Nat) (h:MSt D w0 p lv nl ks m V) (C:CtR D w0 x t ks) (he:m.e=0) (l:nl=Xj m.s),AkC D w0 p lv nl x t m.s ks V ⟨32,a,b,v,j⟩ z y)/\(∀⦃D:Nat⦄ ⦃w0:J⦄ ⦃p:Nat⦄ ⦃lv:Vu⦄ ⦃nl:Int⦄ ⦃ks:List Qb⦄ ⦃m:MS⦄ ⦃V:J⦄ ⦃x:Ctx⦄ ⦃t:Ctv⦄ (a b v:Int) (j:List Int) (z:Option Ad) (y:Nat) (h:MSt D w0 p lv nl ks m V) (C:CtR D w0 x t ks) (he:m.e=0) (l:nl=Xj m.s),AkC D w0 p lv nl x t m.s ks V ⟨33,a,b,v,j⟩ z y)/\(∀⦃D:Nat⦄ ⦃w0:J⦄ ⦃p:Nat⦄ ⦃lv:Vu⦄ ⦃nl:Int⦄ ⦃ks:List Qb⦄ ⦃m:MS⦄ ⦃V:J⦄ ⦃x:Ctx⦄ ⦃t:Ctv⦄ (a b v:Int) (j:List Int) (z:Option Ad) (y:Nat) (h:MSt D w0 p lv nl ks m V) (C:CtR D w0 x t ks) (he:m.e=0) (l:nl=Xj m.s),AkC D w0 p lv nl x t m.s ks V ⟨34,a,b,v,j⟩ z y):=by
 refine⟨?c0,?c1,?c2⟩;case' c0=>have g:=0
 case' c1=>have d:=0
 case' c2=>have u:=0
 all_goals
  intro D w0 p lv nl ks m V x t a b v j z y h C he l
  unfold AkC
  first|(replace g:=g;obtain⟨ta,tc,fa,fc,ga,gc,ad,W,B,rfl,X,Y,A⟩:=JH 32 a b v j z y h C)|(replace d:=d;obtain⟨ta,tc,fa,fc,ga,gc,ad,W,B,rfl,X,Y,A⟩:=JH 33 a b v j z y h C)|(obtain⟨ta,tc,fa,fc,ga,gc,ad,W,B,rfl,X,Y,A⟩:=JH 34 a b v j z y h C)
  obtain⟨⟨d0,d1,d4⟩,c0,c1,c2,c4,c5⟩:=cl6 A;obtain⟨sa,sc,ba,bc,a8,po,hm,F⟩:=A.opnS;obtain⟨⟨q0,q1,q2,q3,q4,q5⟩,f2,f3,f4,f5⟩:=Xn hm;clear hm F q0 q2 q4 q5 f2 f3 f4 f5;have HI:=Hm A;have HE:=Hm he;have L:=Hm (λf=>Q2 f A)
  first|(replace g:=g;have M:=Hm (λw=>QO 32 w))|(replace d:=d;have M:=Hm (λw=>QO 33 w))|(have M:=Hm (λw=>QO 34 w))
  first|(replace g:=g;obtain⟨f,F⟩:∃f,f=Qi (Qa 32):=⟨_,rfl⟩)|(replace d:=d;obtain⟨f,F⟩:∃f,f=Qi (Qa 33):=⟨_,rfl⟩)|(obtain⟨f,F⟩:∃f,f=Qi (Qa 34):=⟨_,rfl⟩)
  rw[<- F]at M;have E:f=2:=by rw[F];decide +kernel
  have a3:(f==5)=false:=by rw[E];rfl
  have a2:(f==6)=false:=by rw[E];rfl
  clear F E h C he
  by_cases q:a<nl
  . first
    | (
     replace g:=g
     have R:Hid ((⟨m.s,Qp x frm m.s ⟨32,a,b,v,j⟩⟩:MS)=m):=by
      show _=m
      rw[show Qp x frm m.s ⟨32,a,b,v,j⟩=0 by rw[l]at q;simp[Qp,Qk,show frm 32=2 by decide +kernel,q]];exact(ms0 HE.o).symm)
    | (
     replace d:=d
     have R:Hid ((⟨m.s,Qp x frm m.s ⟨33,a,b,v,j⟩⟩:MS)=m):=by
      show _=m
      rw[show Qp x frm m.s ⟨33,a,b,v,j⟩=0 by rw[l]at q;simp[Qp,Qk,show frm 33=2 by decide +kernel,q]];exact(ms0 HE.o).symm)
    | (
     replace u:=u
     have R:Hid ((⟨m.s,Qp x frm m.s ⟨34,a,b,v,j⟩⟩:MS)=m):=by
      show _=m
      rw[show Qp x frm m.s ⟨34,a,b,v,j⟩=0 by rw[l]at q;simp[Qp,Qk,show frm 34=2 by decide +kernel,q]];exact(ms0 HE.o).symm)
    have k:¬(nl<=a):=by omega
    clear q A
    go_enter func79,ntmps79
    go_upto_region 1 with fail
    rw[<- X,<- Y];clear X Y
    go_upto_region 24 with fail
    go_quiet (fail)
    obtain⟨H,r⟩:∃H,H=W.drewN nq:=⟨_,rfl⟩;have c:=HI.o.drewN nq;rw[<- r]at c⊢;clear r;obtain⟨⟨d0,d1,d4⟩,c0,c1,c2,c4,c5⟩:=cl6 c;have ae:=Hm c;have L:=Hm (λf=>Q2 f c);clear c
    go_upto_region 35 with (go_at_call 138;refine(M.o _).mono ?_;rintro e w2 ⟨rfl,rfl⟩)
    have I:=Hm (λn=>(M.o (H.drewN n)).mono (R':=λe w'=>e=Z (U O f)/\∃m,w'=H.drewN m) λe w' ⟨a,b⟩=>⟨a,n,b.symm⟩)
    go_quiet (with_reducible exact I.o _)
    go_wp2
    go_end0
    rw[R.o]
    exact⟨rfl,[_,_],(ae.o).keep ⟨rfl,rfl,rfl,lRz,λ_ _=>rfl⟩⟩
  . first
    | (
     replace g:=g
     have R:Hid ((⟨m.s,Qp x frm m.s ⟨32,a,b,v,j⟩⟩:MS)=fail m 2):=by
      show _=fail m _
      rw[show Qp x frm m.s ⟨32,a,b,v,j⟩=2 by rw[l]at q;simp[Qp,Qk,show frm 32=2 by decide +kernel,q]];exact(JT HE.o _).symm)
    | (
     replace d:=d
     have R:Hid ((⟨m.s,Qp x frm m.s ⟨33,a,b,v,j⟩⟩:MS)=fail m 2):=by
      show _=fail m _
      rw[show Qp x frm m.s ⟨33,a,b,v,j⟩=2 by rw[l]at q;simp[Qp,Qk,show frm 33=2 by decide +kernel,q]];exact(JT HE.o _).symm)
    | (
     replace u:=u
     have R:Hid ((⟨m.s,Qp x frm m.s ⟨34,a,b,v,j⟩⟩:MS)=fail m 2):=by
      show _=fail m _
      rw[show Qp x frm m.s ⟨34,a,b,v,j⟩=2 by rw[l]at q;simp[Qp,Qk,show frm 34=2 by decide +kernel,q]];exact(JT HE.o _).symm)
    have k:nl<=a:=by omega
    clear q A
    go_enter func79,ntmps79
    go_upto_region 1 with fail
    rw[<- X,<- Y];clear X Y
    go_upto_region 24 with fail
    go_quiet (fail)
    obtain⟨H,r⟩:∃H,H=W.drewN nq:=⟨_,rfl⟩;have c:=HI.o.drewN nq;rw[<- r]at c⊢;clear r;obtain⟨⟨d0,d1,d4⟩,c0,c1,c2,c4,c5⟩:=cl6 c;have ae:=Hm c;have L:=Hm (λf=>Q2 f c);clear c
    go_upto_region 35 with (first|(go_at_call 138;refine(M.o _).mono ?_;rintro e w2 ⟨rfl,rfl⟩)|(go_at_call 137;refine(L.o 2).mono ?_;rintro e w1 ⟨rfl,ac⟩;obtain⟨⟨d0,d1,d4⟩,c0,c1,c2,c4,c5⟩:=cl6 ac))
    have I:=Hm (λn=>(M.o (w1.drewN n)).mono (R':=λe w'=>e=Z (U O f)/\∃m,w'=w1.drewN m) λe w' ⟨a,b⟩=>⟨a,n,b.symm⟩)
    go_quiet (with_reducible exact I.o _)
    go_wp2
    go_end0
    rw[R.o]
    exact⟨rfl,[_,_],(ac).keep ⟨rfl,rfl,rfl,lRz,λ_ _=>rfl⟩⟩
def sask_32:=sask_x.1
def sask_33:=sask_x.2.1
def sask_34:=sask_x.2.2
theorem sask_17 (a b v:Int)(j:List Int)(M:Option Ad)(L:Nat)(h:MSt D w0 p lv nl ks m V)(R:CtR D w0 x t ks)(Y:m.e=0)  :AkC D w0 p lv nl x t m.s ks V ⟨17,a,b,v,j⟩ M L:=by
 unfold AkC;obtain⟨ta,tc,fa,fc,ga,gc,ao,W,B,rfl,y,z,q⟩:=JH 17 a b v j M L h R;obtain⟨⟨d0,d1,d4⟩,c0,g,r,c4,c5⟩:=cl6 q;obtain⟨sa,sc,ba,bc,ax,po,X,C⟩:=q.opnS;obtain⟨⟨q0,q1,q2,q3,q4,q5⟩,f2,f3,f4,f5⟩:=Xn X;clear X C q0 q2 q4 q5 f2 f3 f4 f5;have HI:=Hm q;have H:=Hm Y;have E:=Hm (λf=>Q2 f q);have u:=Hm (λw=>QO 17 w);obtain⟨f,C⟩:∃f,f=Qi (Qa 17):=⟨_,rfl⟩;rw[<- C]at u;have l:f=4:=by rw[C];decide +kernel
 have aq:(f==5)=false:=by rw[l];rfl
 have ap:(f==6)=false:=by rw[l];rfl
 clear C l h R Y;by_cases g:a<(N x.types:Int)
 . by_cases r:0<x.jv
   . (have F:Hid ((⟨m.s,Qp x frm m.s ⟨17,a,b,v,j⟩⟩:MS)=m):=by show _=m;rw[show Qp x frm m.s ⟨17,a,b,v,j⟩=0 by simp[Qp,Qk,show frm 17=4 by decide +kernel,g,r]];exact(ms0 H.o).symm);(have k:¬((N x.types:Int)<=a):=by omega);(have k2:((x.jv:Int)==0)=false:=by simp;omega);clear g r;clear q;go_enter func79,ntmps79;(go_upto_region 1 with fail);rw[<- y,<- z];clear y z;(go_upto_region 35 with (go_at_call 138;refine(u.o _).mono ?_;rintro e I ⟨rfl,rfl⟩));have d:=Hm (λn=>(u.o (W.drewN n)).mono (R':=λe w'=>e=Z (U O f)/\∃m,w'=W.drewN m) λe w' ⟨a,b⟩=>⟨a,n,b.symm⟩);(go_quiet (with_reducible exact d.o _));go_wp2;go_end0;rw[F.o];exact⟨rfl,[_,_],(HI.o).keep ⟨rfl,rfl,rfl,lRz,λ_ _=>rfl⟩⟩
   (have F:Hid ((⟨m.s,Qp x frm m.s ⟨17,a,b,v,j⟩⟩:MS)=fail m 2):=by show _=fail m 2;rw[show Qp x frm m.s ⟨17,a,b,v,j⟩=2 by simp[Qp,Qk,show frm 17=4 by decide +kernel,g,r]];exact(JT H.o _).symm);(have k:¬((N x.types:Int)<=a):=by omega);(have k2:((x.jv:Int)==0)=true:=by simp;omega);clear g r;clear q;go_enter func79,ntmps79;(go_upto_region 1 with fail);rw[<- y,<- z];clear y z;(go_upto_region 35 with (first|(go_at_call 138;refine(u.o _).mono ?_;rintro e I ⟨rfl,rfl⟩)|(go_at_call 137;refine(E.o 2).mono ?_;rintro e A ⟨rfl,c⟩;obtain⟨⟨d0,d1,d4⟩,c0,g,r,c4,c5⟩:=cl6 c)));have d:=Hm (λn=>(u.o (A.drewN n)).mono (R':=λe w'=>e=Z (U O f)/\∃m,w'=A.drewN m) λe w' ⟨a,b⟩=>⟨a,n,b.symm⟩);(go_quiet (with_reducible exact d.o _));go_wp2;go_end0;rw[F.o];exact⟨rfl,[_,_],(c).keep ⟨rfl,rfl,rfl,lRz,λ_ _=>rfl⟩⟩
 have F:Hid ((⟨m.s,Qp x frm m.s ⟨17,a,b,v,j⟩⟩:MS)=fail m 2):=by show _=fail m 2;rw[show Qp x frm m.s ⟨17,a,b,v,j⟩=2 by simp[Qp,Qk,show frm 17=4 by decide +kernel,g]];exact(JT H.o _).symm
 have k:(N x.types:Int)<=a:=by omega
 clear g;clear q;go_enter func79,ntmps79;go_upto_region 1 with fail
 rw[<- y,<- z];clear y z;go_upto_region 35 with (first|(go_at_call 138;refine(u.o _).mono ?_;rintro e I ⟨rfl,rfl⟩)|(go_at_call 137;refine(E.o 2).mono ?_;rintro e A ⟨rfl,c⟩;obtain⟨⟨d0,d1,d4⟩,c0,g,r,c4,c5⟩:=cl6 c))
 have d:=Hm (λn=>(u.o (A.drewN n)).mono (R':=λe w'=>e=Z (U O f)/\∃m,w'=A.drewN m) λe w' ⟨a,b⟩=>⟨a,n,b.symm⟩);go_quiet (with_reducible exact d.o _)
 go_wp2;go_end0;rw[F.o];exact⟨rfl,[_,_],(c).keep ⟨rfl,rfl,rfl,lRz,λ_ _=>rfl⟩⟩
theorem sask_36 (n:Nat)(b v:Int)(q:List Int)(la:Option Ad)(lc:Nat)(h:MSt D w0 p lv nl ks m V)(L:CtR D w0 x t ks)(he:m.e=0)  :AkC D w0 p lv nl x t m.s ks V ⟨36,(n:Int),b,v,q⟩ la lc:=by
 unfold AkC;obtain⟨ta,tc,fa,fc,ga,gc,av,W,B,rfl,z,A,r⟩:=JH 36 (n:Int) b v q la lc h L;obtain⟨⟨d0,d1,d4⟩,R,j,l,c4,c5⟩:=cl6 r;obtain⟨sa,sc,ba,bc,a4,po,hm,E⟩:=r.opnS;obtain⟨⟨q0,q1,q2,q3,q4,q5⟩,f2,f3,f4,f5⟩:=Xn hm;clear hm E q0 q2 q4 q5 f2 f3 f4 f5;have I:Hid (n<N x.jx->∃g,ga=some ⟨g,0,none⟩/\W.cell? ⟨g,n*2+1,none⟩=some (G (Q6 x n).mu)):=λhn=>by obtain⟨a0,R,e,M⟩:=Qu r.mo (mC (mC L.gr));cases e;obtain⟨g,e,M⟩:=M (by omega);have hg:=(Gr (gs:=x.jx) (i:=n) (g:=Q6 x n) (by simp[Q6,Kx,hn])).2;exact⟨g,e,M _ _ hg (by omega)⟩
 have HI:=Hm r;have X:=Hm he;have F:=Hm (λf=>Q2 f r);have y:=Hm (λw=>QO 36 w);obtain⟨f,E⟩:∃f,f=Qi (Qa 36):=⟨_,rfl⟩;rw[<- E]at y;have u:f=2:=by rw[E];decide +kernel
 have ax:(f==5)=false:=by rw[u];rfl
 have aw:(f==6)=false:=by rw[u];rfl
 clear E u h L he;by_cases j:n<N x.jx
 . obtain⟨g,rfl,gm⟩:=I.o j;(have a3:(n:Int)<(N x.jx:Int):=by omega);(have k:¬((N x.jx:Int)<=(n:Int)):=by omega);cases l:(Q6 x n).mu
   . (have H:Hid ((⟨m.s,Qp x frm m.s ⟨36,(n:Int),b,v,q⟩⟩:MS)=fail m 9):=by show _=fail m 9;rw[show Qp x frm m.s ⟨36,(n:Int),b,v,q⟩=9 by simp[Qp,Qk,show frm 36=2 by decide +kernel,j,l]];exact(JT X.o _).symm);rw[l]at gm;clear j l I;clear r;go_enter func79,ntmps79;(go_upto_region 1 with fail);rw[<- z,<- A];clear z A;(go_upto_region 35 with (first|(go_at_call 138;refine(y.o _).mono ?_;rintro e Y ⟨rfl,rfl⟩)|(go_at_call 137;refine(F.o 9).mono ?_;rintro e C ⟨rfl,c⟩;obtain⟨⟨d0,d1,d4⟩,R,j,l,c4,c5⟩:=cl6 c)));have d:=Hm (λn=>(y.o (C.drewN n)).mono (R':=λe w'=>e=Z (U O f)/\∃m,w'=C.drewN m) λe w' ⟨a,b⟩=>⟨a,n,b.symm⟩);(go_quiet (with_reducible exact d.o _));go_wp2;go_end0;rw[H.o];exact⟨rfl,[_,_],(c).keep ⟨rfl,rfl,rfl,lRz,λ_ _=>rfl⟩⟩
   (have H:Hid ((⟨m.s,Qp x frm m.s ⟨36,(n:Int),b,v,q⟩⟩:MS)=m):=by show _=m;rw[show Qp x frm m.s ⟨36,(n:Int),b,v,q⟩=0 by simp[Qp,Qk,show frm 36=2 by decide +kernel,j,l]];exact(ms0 X.o).symm);rw[l]at gm;clear j l I;clear r;go_enter func79,ntmps79;(go_upto_region 1 with fail);rw[<- z,<- A];clear z A;(go_upto_region 35 with (go_at_call 138;refine(y.o _).mono ?_;rintro e Y ⟨rfl,rfl⟩));have d:=Hm (λn=>(y.o (W.drewN n)).mono (R':=λe w'=>e=Z (U O f)/\∃m,w'=W.drewN m) λe w' ⟨a,b⟩=>⟨a,n,b.symm⟩);(go_quiet (with_reducible exact d.o _));go_wp2;go_end0;rw[H.o];exact⟨rfl,[_,_],(HI.o).keep ⟨rfl,rfl,rfl,lRz,λ_ _=>rfl⟩⟩
 have H:Hid ((⟨m.s,Qp x frm m.s ⟨36,(n:Int),b,v,q⟩⟩:MS)=fail m 2):=by show _=fail m 2;rw[show Qp x frm m.s ⟨36,(n:Int),b,v,q⟩=2 by simp[Qp,Qk,show frm 36=2 by decide +kernel,j]];exact(JT X.o _).symm
 have k:(N x.jx:Int)<=(n:Int):=by omega
 clear j I;clear r;go_enter func79,ntmps79;go_upto_region 1 with fail
 rw[<- z,<- A];clear z A;go_upto_region 35 with (first|(go_at_call 138;refine(y.o _).mono ?_;rintro e Y ⟨rfl,rfl⟩)|(go_at_call 137;refine(F.o 2).mono ?_;rintro e C ⟨rfl,c⟩;obtain⟨⟨d0,d1,d4⟩,R,j,l,c4,c5⟩:=cl6 c))
 have d:=Hm (λn=>(y.o (C.drewN n)).mono (R':=λe w'=>e=Z (U O f)/\∃m,w'=C.drewN m) λe w' ⟨a,b⟩=>⟨a,n,b.symm⟩);go_quiet (with_reducible exact d.o _)
 go_wp2;go_end0;rw[H.o];exact⟨rfl,[_,_],(c).keep ⟨rfl,rfl,rfl,lRz,λ_ _=>rfl⟩⟩
theorem sask_14 (a b v:Int)(c:List Int)(M:Option Ad)(L:Nat)(h:MSt D w0 p lv nl ks m V)(hx:CtR D w0 x t ks)(he:m.e=0)(tL:Ty D w0 [] (S M (N c) L) c)(bj:N c<=1048577):AkC D w0 p lv nl x t m.s ks V ⟨14,a,b,v,c⟩ M L:=by
 unfold AkC;obtain⟨ta,tc,fa,fc,ga,gc,bo,W,B,rfl,hW,hB,Y⟩:=JH 14 a b v c M L h hx;obtain⟨⟨d0,d1,d4⟩,c0,c1,c2,c4,c5⟩:=cl6 Y;obtain⟨sa,sc,ba,bc,bv,po,hm,X⟩:=Y.opnS;obtain⟨⟨q0,q1,q2,q3,q4,q5⟩,f2,f3,f4,f5⟩:=Xn hm;clear hm X q0 q2 q4 q5 f2 f3 f4 f5;have HI:=Hm Y;have R:=Hm he;have bz:=Hm (λf=>Q2 f Y);have HF:=Hm (λw=>QO 14 w);obtain⟨f,X⟩:∃f,f=Qi (Qa 14):=⟨_,rfl⟩;rw[<- X]at HF;have C:f=3:=by rw[X];decide +kernel
 have bq:(f==5)=false:=by rw[C];rfl
 have bp:(f==6)=false:=by rw[C];rfl
 clear X C h hx he;have HT:=Hm tL;obtain⟨g,A⟩:∃g:Int,g=N m.s.cq:=⟨_,rfl⟩;have HA:Hid (Qp x frm m.s ⟨14,a,b,v,c⟩=if c.all (λi=>decide (i<g))&&decide (a<g)then 0 else 2):=by
  show Qp x frm m.s ⟨14,a,b,v,c⟩=_;rw[A];have e:Qk x frm m.s ⟨14,a,b,v,c⟩=(c.all (λi=>decide (i<(N m.s.cq:Int)))&&decide (a<(N m.s.cq:Int))):=by simp only[Qk,show frm 14=3 by decide +kernel];simp
  unfold Qp;rw[e];cases(c.all (λi=>decide (i<(N m.s.cq:Int)))&&decide (a<(N m.s.cq:Int)))
  . simp
  simp[show frm 14=3 by decide +kernel]
 clear Y tL;go_enter func79,ntmps79;go_upto_region 1 with fail
 rw[<- hW,<- hB];clear hW hB;go_wp2_with fail
 rw[<- A];clear A;go_loopw [7] (λi wr=>∃k:Nat,k<=N c/\i=U O k/\MSt D w0 p lv nl (box 85 5 (B+1) (inC 14 a b v c M L)::box 80 6 B [S ta (N x.types) tc,S fa (N x.jk) fc,S ga (N x.jx) gc,U O x.gw,U O x.jv,U O x.jz]::ks) (if(c.take k).all (λi=>decide (i<g))then m else fail m 2) wr) (λi _=>N c-(intOf i).toNat)
 case atStart=>exact⟨0,Kw _,rfl,HI.o⟩
 obtain⟨k,hk,rfl,d⟩:=hrel;obtain⟨⟨d0,d1,d4⟩,c0,c1,c2,c4,c5⟩:=cl6 d;by_cases z:k<N c
 . (have bl:(k:Int)<(N c:Int):=by omega);obtain⟨a',c',e,hh⟩:=Ty.ms (HT.o.sub (ks':=box 85 5 (B+1) (inC 14 a b v c M L)::box 80 6 B [S ta (N x.types) tc,S fa (N x.jk) fc,S ga (N x.jx) gc,U O x.gw,U O x.jv,U O x.jz]::ks) (λr hr=>by cases hr)) d;cases e;rcases hh with hx|⟨b_,off,ea,hc⟩
   . subst hx;simp at z
   rw[ea]at d4;have g1:=hc k z;obtain⟨y,hy⟩:∃y,y=c.getD k 0:=⟨_,rfl⟩;rw[<- hy]at g1;(have l:(c.take (k+1)).all (λi=>decide (i<g))=((c.take k).all (λi=>decide (i<g))&&decide (y<g)):=by rw[List.take_add_one,List.all_append,hy];simp[Kx,z]);have q:=Hm l;have E:=Hm d;have H:=Hm (Q2 2 d);clear hc hy l d ea;by_cases cy:y<g
   . (have k1:¬(g<=y):=by omega);go_wp2;(go_roundw);(case rel=>exact⟨k+1,by omega,by go_num,by rw[q.o,decide_eq_true cy,Rc];exact E.o⟩);case measure=>simp[intOf];omega
   (have k1:g<=y:=by omega);go_wp2_with (go_at_call 137;refine H.o.mono ?_;rintro e w1 ⟨rfl,j⟩)
   have aj:MSt D w0 p lv nl (box 85 5 (B+1) (inC 14 a b v c M L)::box 80 6 B [S ta (N x.types) tc,S fa (N x.jk) fc,S ga (N x.jx) gc,U O x.gw,U O x.jv,U O x.jz]::ks) (if(c.take (k+1)).all (λi=>decide (i<g))then m else fail m 2) w1:=by
    rw[q.o,decide_eq_false (by omega:¬y<g),Pd];have e:fail (if(c.take k).all (λi=>decide (i<g))=true then m else fail m 2) 2=fail m 2:=by
     split
     · rfl
     rw[fail_e _ 2 (by rw[JT R.o];show(2:Int)≠0;decide)]
    rw[e]at j;simpa using j
   (go_roundw);(case rel=>exact⟨k+1,by omega,by go_num,aj⟩);case measure=>simp[intOf];omega
 obtain rfl:k=N c:=by omega
 rw[List.take_length]at d;obtain⟨I,u⟩:∃I,I=(if c.all (λi=>decide (i<g))=true then m else fail m 2):=⟨_,rfl⟩;rw[<- u]at d;have aa:=Hm u;have E:=Hm d;have H:=Hm (Q2 2 d);clear u d;by_cases cy:a<g
 . have k1:¬(g<=a):=by omega
   have HR:Hid ((⟨m.s,Qp x frm m.s ⟨14,a,b,v,c⟩⟩:MS)=I):=by
    show _=I;rw[aa.o,HA.o,decide_eq_true cy,Rc];split
    · exact(ms0 R.o).symm
    exact(JT R.o _).symm
   (go_upto_region 35 with (go_at_call 138;refine(HF.o _).mono ?_;rintro e w2 ⟨rfl,rfl⟩));have F:=Hm (λn=>(HF.o (wr.drewN n)).mono (R':=λe w'=>e=Z (U O f)/\∃m,w'=wr.drewN m) λe w' ⟨a,b⟩=>⟨a,n,b.symm⟩);(go_quiet (with_reducible exact F.o _));go_wp2;go_end0;rw[HR.o];exact⟨rfl,[_,_],E.o.keep ⟨rfl,rfl,rfl,lRz,λ_ _=>rfl⟩⟩
 have k1:g<=a:=by omega
 have HR:Hid ((⟨m.s,Qp x frm m.s ⟨14,a,b,v,c⟩⟩:MS)=fail I 2):=by
  show _=fail I 2;rw[aa.o,HA.o,decide_eq_false cy,Pd];split
  · rename_i h;cases h
  split
  · exact(JT R.o _).symm
  rw[fail_e _ 2 (by rw[JT R.o];show(2:Int)≠0;decide)];exact(JT R.o _).symm
 go_upto_region 35 with (first|(go_at_call 138;refine(HF.o _).mono ?_;rintro e w2 ⟨rfl,rfl⟩)|(go_at_call 137;refine H.o.mono ?_;rintro e w1 ⟨rfl,j⟩;obtain⟨⟨d0,d1,d4⟩,c0,c1,c2,c4,c5⟩:=cl6 j))
 have F:=Hm (λn=>(HF.o (w1.drewN n)).mono (R':=λe w'=>e=Z (U O f)/\∃m,w'=w1.drewN m) λe w' ⟨a,b⟩=>⟨a,n,b.symm⟩);go_quiet (with_reducible exact F.o _)
 go_wp2;go_end0;rw[HR.o];exact⟨rfl,[_,_],j.keep ⟨rfl,rfl,rfl,lRz,λ_ _=>rfl⟩⟩
theorem sask_o (op a b v:Int)(l:List Int)(A:Option Ad)(z:Nat)(h:MSt D w0 p lv nl ks m V)(C:CtR D w0 x t ks)(F:m.e=0)(d:∀c∈[12,13,14,16,17,32,33,34,35,36],(op==c)=false)(r:frm op≠5)(q:frm op≠6):AkC D w0 p lv nl x t m.s ks V ⟨op,a,b,v,l⟩ A z:=by
 unfold AkC;obtain⟨ta,tc,fa,fc,ga,gc,aj,W,B,rfl,H,I,k⟩:=JH op a b v l A z h C;obtain⟨⟨d0,d1,d4⟩,c0,c1,c2,c4,c5⟩:=cl6 k;obtain⟨sa,sc,ba,bc,av,po,E,j⟩:=k.opnS;obtain⟨⟨X,q1,R,q3,M,L⟩,f2,f3,f4,f5⟩:=Xn E;clear E j X R M L f2 f3 f4 f5;have HI:=Hm k;have HE:=Hm F;have aw:=Hm (λf=>Q2 f k);have ai:=d 12 (by simp);have ah:=d 13 (by simp);have ag:=d 14 (by simp);have af:=d 16 (by simp);have ae:=d 17 (by simp);have ad:=d 32 (by simp);have ac:=d 33 (by simp);have ab:=d 34 (by simp);have aa:=d 35 (by simp);have Y:=d 36 (by simp);have on:∀c∈[12,13,14,16,17,32,33,34,35,36],op≠c:=λc hc=>by have:=d c hc;simpa using this
 clear d;have y:=Hm (λw=>QO op w);obtain⟨f,j⟩:∃f,f=Qi (Qa op):=⟨_,rfl⟩;rw[<- j]at y;have g:frm op=f:=j.symm;have HA:Hid ((⟨m.s,Qp x frm m.s ⟨op,a,b,v,l⟩⟩:MS)=m):=by show _=m;rw[show Qp x frm m.s ⟨op,a,b,v,l⟩=0 by simp[Qp,Qk,r,q,on 12 (by simp),on 13 (by simp),on 14 (by simp),on 16 (by simp),on 17 (by simp),on 32 (by simp),on 33 (by simp),on 34 (by simp),on 35 (by simp),on 36 (by simp)]];exact(ms0 HE.o).symm
 rw[g]at r q;have ao:(f==5)=false:=by simpa using r
 have ak:(f==6)=false:=by simpa using q
 clear j g h C F on r q k;go_enter func79,ntmps79;go_upto_region 1 with fail
 rw[<- H,<- I];clear H I;go_upto_region 35 with (go_at_call 138;refine(y.o _).mono ?_;rintro e w2 ⟨rfl,rfl⟩)
 have u:=Hm (λn=>(y.o (W.drewN n)).mono (R':=λe w'=>e=Z (U O f)/\∃m,w'=W.drewN m) λe w' ⟨a,b⟩=>⟨a,n,b.symm⟩);go_quiet (with_reducible exact u.o _)
 go_wp2;go_end0;rw[HA.o];exact⟨rfl,[_,_],(HI.o).keep ⟨rfl,rfl,rfl,lRz,λ_ _=>rfl⟩⟩
theorem sask_z (op a b v:Int)(q:List Int)(X:Option Ad)(R:Nat)(h:MSt D w0 p lv nl ks m V)(F:CtR D w0 x t ks)(H:m.e=0)(d:∀c∈[12,13,14,16,17,32,33,34,35,36],(op==c)=false)(j:frm op=6):AkC D w0 p lv nl x t m.s ks V ⟨op,a,b,v,q⟩ X R:=by
 unfold AkC;obtain⟨ta,tc,fa,fc,ga,gc,av,W,B,rfl,A,C,u⟩:=JH op a b v q X R h F;obtain⟨⟨d0,d1,d4⟩,c0,c1,c2,c4,c5⟩:=cl6 u;obtain⟨sa,sc,ba,bc,bb,po,Y,r⟩:=u.opnS;obtain⟨⟨q0,q1,q2,q3,q4,q5⟩,f2,f3,f4,f5⟩:=Xn Y;clear Y r q0 q2 q4 q5 f2 f3 f4 f5;have HI:=Hm u;have HE:=Hm H;have I:=Hm (λf=>Q2 f u);have au:=d 12 (by simp);have ar:=d 13 (by simp);have aq:=d 14 (by simp);have ap:=d 16 (by simp);have ao:=d 17 (by simp);have ak:=d 32 (by simp);have aj:=d 33 (by simp);have ai:=d 34 (by simp);have ah:=d 35 (by simp);have ag:=d 36 (by simp);have on:∀c∈[12,13,14,16,17,32,33,34,35,36],op≠c:=λc hc=>by have:=d c hc;simpa using this
 clear d;have z:=Hm (λw=>QO op w);obtain⟨f,r⟩:∃f,f=Qi (Qa op):=⟨_,rfl⟩;rw[<- r]at z;have g:frm op=f:=r.symm;rw[g]at j;have ax:(f==5)=false:=by rw[j];rfl
 have aw:(f==6)=true:=by rw[j];rfl
 by_cases E:0<x.jz
 . (have L:Hid ((⟨m.s,Qp x frm m.s ⟨op,a,b,v,q⟩⟩:MS)=m):=by show _=m;rw[show Qp x frm m.s ⟨op,a,b,v,q⟩=0 by simp[Qp,Qk,g,j,E,on 12 (by simp),on 13 (by simp),on 14 (by simp),on 16 (by simp),on 17 (by simp),on 32 (by simp),on 33 (by simp),on 34 (by simp),on 35 (by simp),on 36 (by simp)]];exact(ms0 HE.o).symm);(have k:((x.jz:Int)==0)=false:=by simp;omega);clear r g h F H on j E;clear u;go_enter func79,ntmps79;(go_upto_region 1 with fail);rw[<- A,<- C];clear A C;(go_upto_region 35 with (go_at_call 138;refine(z.o _).mono ?_;rintro e w2 ⟨rfl,rfl⟩));have l:=Hm (λn=>(z.o (W.drewN n)).mono (R':=λe w'=>e=Z (U O f)/\∃m,w'=W.drewN m) λe w' ⟨a,b⟩=>⟨a,n,b.symm⟩);(go_quiet (with_reducible exact l.o _));go_wp2;go_end0;rw[L.o];exact⟨rfl,[_,_],(HI.o).keep ⟨rfl,rfl,rfl,lRz,λ_ _=>rfl⟩⟩
 have L:Hid ((⟨m.s,Qp x frm m.s ⟨op,a,b,v,q⟩⟩:MS)=fail m 2):=by show _=fail m 2;rw[show Qp x frm m.s ⟨op,a,b,v,q⟩=2 by simp[Qp,Qk,g,j,E,on 12 (by simp),on 13 (by simp),on 14 (by simp),on 16 (by simp),on 17 (by simp),on 32 (by simp),on 33 (by simp),on 34 (by simp),on 35 (by simp),on 36 (by simp)]];exact(JT HE.o _).symm
 have k:((x.jz:Int)==0)=true:=by simp;omega
 clear r g h F H on j E;clear u;go_enter func79,ntmps79;go_upto_region 1 with fail
 rw[<- A,<- C];clear A C;go_upto_region 35 with (first|(go_at_call 138;refine(z.o _).mono ?_;rintro e w2 ⟨rfl,rfl⟩)|(go_at_call 137;refine(I.o 2).mono ?_;rintro e M ⟨rfl,y⟩;obtain⟨⟨d0,d1,d4⟩,c0,c1,c2,c4,c5⟩:=cl6 y))
 have l:=Hm (λn=>(z.o (M.drewN n)).mono (R':=λe w'=>e=Z (U O f)/\∃m,w'=M.drewN m) λe w' ⟨a,b⟩=>⟨a,n,b.symm⟩);go_quiet (with_reducible exact l.o _)
 go_wp2;go_end0;rw[L.o];exact⟨rfl,[_,_],(y).keep ⟨rfl,rfl,rfl,lRz,λ_ _=>rfl⟩⟩
theorem sask_m (op a b v:Int)(I:List Int)(la:Option Ad)(lc:Nat)(h:MSt D w0 p lv nl ks m V)(hx:CtR D w0 x t ks)(he:m.e=0)(d:∀c∈[12,13,14,16,17,32,33,34,35,36],(op==c)=false)(h5:frm op=5)(ae:0<=a):AkC D w0 p lv nl x t m.s ks V ⟨op,a,b,v,I⟩ la lc:=by
 unfold AkC;obtain⟨ta,tc,fa,fc,ga,gc,bn,W,B,rfl,hW,hB,hI⟩:=JH op a b v I la lc h hx;obtain⟨⟨d0,d1,d4⟩,c0,c1,c2,c4,c5⟩:=cl6 hI;obtain⟨sa,sc,ba,bc,b7,po,hm,hf⟩:=hI.opnS;obtain⟨⟨q0,q1,q2,q3,q4,q5⟩,f2,f3,f4,f5⟩:=Xn hm;clear hm hf q0 q2 q4 q5 f2 f3 f4 f5;have HI:=Hm hI;have HE:=Hm he;have au:=Hm (λf=>Q2 f hI);have bl:=d 12 (by simp);have bj:=d 13 (by simp);have bh:=d 14 (by simp);have bg:=d 16 (by simp);have bf:=d 17 (by simp);have bd:=d 32 (by simp);have bb:=d 33 (by simp);have a9:=d 34 (by simp);have a8:=d 35 (by simp);have a7:=d 36 (by simp);have on:∀c∈[12,13,14,16,17,32,33,34,35,36],op≠c:=λc hc=>by have:=d c hc;simpa using this
 clear d;have HF:=Hm (λw=>QO op w);obtain⟨f,hf⟩:∃f,f=Qi (Qa op):=⟨_,rfl⟩;rw[<- hf]at HF;have y:frm op=f:=hf.symm;rw[y]at h5;have bo:(f==5)=true:=by rw[h5];rfl
 have R:Hid (Qp x frm m.s ⟨op,a,b,v,I⟩=if 0<x.jz then(if Jm op<a then 8 else 0)else 2):=by
  show Qp x frm m.s ⟨op,a,b,v,I⟩=_;by_cases M:0<x.jz
  . rw[if_pos M];by_cases ca:Jm op<a
    . simp[Qp,Qk,y,h5,M,ca]
    simp[Qp,Qk,y,h5,M,ca,on 12 (by simp),on 13 (by simp),on 14 (by simp),on 16 (by simp),on 17 (by simp),on 32 (by simp),on 33 (by simp),on 34 (by simp),on 35 (by simp),on 36 (by simp)]
  simp[Qp,Qk,y,h5,M]
 obtain⟨H,L⟩:∃H,H=P2 (Jm op):=⟨_,rfl⟩;have ag:=Hm (λw=>swid_c op w);rw[<- L]at ag;have bw:1<=H/\H<=8:=by have:=width_le op;rw[L];rcases(by omega:Jm op=0\/Jm op=1\/Jm op=2\/Jm op=3)with e|e|e|e<;>rw[e]<;>simp[P2]
 have F:Hid (a<=3->((H<P2 a) ↔ Jm op<a)):=λh=>by rw[L];exact align_iff ae h
 have aq:=Hm (width_le op);clear hf y h hx he on h5 L;by_cases M:0<x.jz
 . (have k:((x.jz:Int)==0)=false:=by simp;omega);(have g:Hid (Qp x frm m.s ⟨op,a,b,v,I⟩=if Jm op<a then 8 else 0):=by show _=_;rw[R.o,if_pos M]);clear M R;by_cases c3:3<a
   . (have X:Hid ((⟨m.s,Qp x frm m.s ⟨op,a,b,v,I⟩⟩:MS)=fail m 8):=by show _=fail m 8;have:=aq.o;rw[g.o,if_pos (by omega)];exact(JT HE.o _).symm);clear g F hI;go_enter func79,ntmps79;(go_upto_region 1 with fail);rw[<- hW,<- hB];clear hW hB;(go_upto_region 35 with (go_at_call 138;refine(HF.o _).mono ?_;rintro e w2 ⟨rfl,rfl⟩));have r:=Hm (λn=>(HF.o (W.drewN n)).mono (R':=λe w'=>e=Z (U O f)/\∃m,w'=W.drewN m) λe w' ⟨a,b⟩=>⟨a,n,b.symm⟩);have u:=Hm (λn=>Q2 8 (HI.o.drewN n));(go_quiet (with_reducible exact r.o _));(go_wp2_with (go_at_call 137;refine(u.o _).mono ?_;rintro e Y ⟨rfl,q⟩));go_end0;rw[X.o];exact⟨rfl,[_,_],q⟩
   obtain⟨l,j⟩:∃l,l=P2 a:=⟨_,rfl⟩;have E:=Hm (λw=>spow_c a w ae (by omega));rw[<- j]at E;have z:=F.o (by omega);rw[<- j]at z;(have bp:1<=l/\l<=8:=by rw[j];rcases(by omega:a=0\/a=1\/a=2\/a=3)with e|e|e|e<;>rw[e]<;>simp[P2]);(have ap:IntKind.i64.wrap l=l:=by rw[Kz];omega);have r:=Hm (λn=>(HF.o (W.drewN n)).mono (R':=λe w'=>e=Z (U O f)/\∃m,w'=W.drewN m) λe w' ⟨a,b⟩=>⟨a,n,b.symm⟩);have C:=Hm (λn=>(E.o (W.drewN n)).mono (R':=λe w'=>e=Z (U Ou l)/\∃m,w'=W.drewN m) λe w' ⟨a,b⟩=>⟨a,n,b.symm⟩);have A:=Hm (λn=>(ag.o (W.drewN n)).mono (R':=λe w'=>e=Z (U O H)/\∃m,w'=W.drewN m) λe w' ⟨a,b⟩=>⟨a,n,b.symm⟩);have u:=Hm (λn=>Q2 8 (HI.o.drewN n));have bm:¬(3<a):=c3;by_cases ca:H<l
   . (have X:Hid ((⟨m.s,Qp x frm m.s ⟨op,a,b,v,I⟩⟩:MS)=fail m 8):=by show _=fail m 8;rw[g.o,if_pos (z.1 ca)];exact(JT HE.o _).symm);clear g F z j hI;go_enter func79,ntmps79;(go_upto_region 1 with fail);rw[<- hW,<- hB];clear hW hB;(go_upto_region 35 with (go_at_call 138;refine(HF.o _).mono ?_;rintro e w2 ⟨rfl,rfl⟩));(go_quiet (first|(with_reducible exact r.o _)|(with_reducible exact C.o _)|(with_reducible exact A.o _)));(go_wp2_with (go_at_call 137;refine(u.o _).mono ?_;rintro e Y ⟨rfl,q⟩));go_end0;rw[X.o];exact⟨rfl,[_,_],q⟩
   (have X:Hid ((⟨m.s,Qp x frm m.s ⟨op,a,b,v,I⟩⟩:MS)=m):=by show _=m;rw[g.o,if_neg (λh=>ca (z.2 h))];exact(ms0 HE.o).symm);clear g F z j hI;go_enter func79,ntmps79;(go_upto_region 1 with fail);rw[<- hW,<- hB];clear hW hB;(go_upto_region 35 with (go_at_call 138;refine(HF.o _).mono ?_;rintro e w2 ⟨rfl,rfl⟩));(go_quiet (first|(with_reducible exact r.o _)|(with_reducible exact C.o _)|(with_reducible exact A.o _)));go_wp2;go_end0;rw[X.o];exact⟨rfl,[_,_],HI.o.keep ⟨rfl,rfl,rfl,lRz,λ_ _=>rfl⟩⟩
 have k:((x.jz:Int)==0)=true:=by simp;omega
 have X:Hid ((⟨m.s,Qp x frm m.s ⟨op,a,b,v,I⟩⟩:MS)=fail m 2):=by show _=fail m 2;rw[R.o,if_neg M];exact(JT HE.o _).symm
 have av:Hid (fail (fail m 2) 8=fail m 2):=fail_e _ 8 (by rw[JT HE.o];show(2:Int)≠0;decide);clear M R F hI;go_enter func79,ntmps79;go_upto_region 1 with fail
 rw[<- hW,<- hB];clear hW hB;go_upto_region 35 with (first|(go_at_call 138;refine(HF.o _).mono ?_;rintro e w2 ⟨rfl,rfl⟩)|(go_at_call 137;refine(au.o 2).mono ?_;rintro e Y ⟨rfl,q⟩;obtain⟨⟨d0,d1,d4⟩,c0,c1,c2,c4,c5⟩:=cl6 q))
 have r:=Hm (λn=>(HF.o (Y.drewN n)).mono (R':=λe w'=>e=Z (U O f)/\∃m,w'=Y.drewN m) λe w' ⟨a,b⟩=>⟨a,n,b.symm⟩);have A:=Hm (λn=>(ag.o (Y.drewN n)).mono (R':=λe w'=>e=Z (U O H)/\∃m,w'=Y.drewN m) λe w' ⟨a,b⟩=>⟨a,n,b.symm⟩);have u:=Hm (λn=>Q2 8 (q.drewN n));rw[av.o]at u;have ar:=Hm q;clear q;by_cases c3:3<a
 . (go_quiet (with_reducible exact r.o _));(go_wp2_with (go_at_call 137;refine(u.o _).mono ?_;rintro e w3 ⟨rfl,af⟩));go_end0;rw[X.o];exact⟨rfl,[_,_],af⟩
 obtain⟨l,j⟩:∃l,l=P2 a:=⟨_,rfl⟩;have E:=Hm (λw=>spow_c a w ae (by omega));rw[<- j]at E;have bp:1<=l/\l<=8:=by rw[j];rcases(by omega:a=0\/a=1\/a=2\/a=3)with e|e|e|e<;>rw[e]<;>simp[P2]
 have ap:IntKind.i64.wrap l=l:=by rw[Kz];omega
 have C:=Hm (λn=>(E.o (Y.drewN n)).mono (R':=λe w'=>e=Z (U Ou l)/\∃m,w'=Y.drewN m) λe w' ⟨a,b⟩=>⟨a,n,b.symm⟩);clear j;by_cases ca:H<l
 . (go_quiet (first|(with_reducible exact r.o _)|(with_reducible exact C.o _)|(with_reducible exact A.o _)));(go_wp2_with (go_at_call 137;refine(u.o _).mono ?_;rintro e w3 ⟨rfl,af⟩));go_end0;rw[X.o];exact⟨rfl,[_,_],af⟩
 go_quiet (first|(with_reducible exact r.o _)|(with_reducible exact C.o _)|(with_reducible exact A.o _))
 go_wp2;go_end0;rw[X.o];exact⟨rfl,[_,_],ar.o.keep ⟨rfl,rfl,rfl,lRz,λ_ _=>rfl⟩⟩
theorem sopen_3 (a b v:Int)(ll:List Int)(la:Option Ad)(lc:Nat)(h:MSt D w0 p lv nl ks m V)(i:Inv m.s)(cn:m.s.cq≠[])(a7:N m.s.cq<=1048577)(cm:N m.s.jj<=1099511627776):Ec Q 81 #[Yp (some ⟨p,0,none⟩),inV ⟨3,a,b,v,ll⟩ la lc] V λe w'=>e=Z (.tuple #[])/\∃ns,MSt D w0 p lv nl (ns++ks) (mopen m 3 (Qh a)) w':=by
 obtain⟨M,hM⟩:∃M,M=mopen m 3 (Qh a):=⟨_,rfl⟩;rw[<- hM];have hI:=h.bxn #[U O 3,U O a,U O b,U Ou v,S la (N ll) lc] 85 5 rfl;obtain⟨W,hW⟩:∃W,W=V.alloc (Fc #[U O 3,U O a,U O b,U Ou v,S la (N ll) lc] 85):=⟨_,rfl⟩;obtain⟨B,hB⟩:∃B,B=V.heap.size:=⟨_,rfl⟩;rw[<- hW,<- hB]at hI;have d0:=(hI.mo.b0 0).1;have a8:M=JE m (QI m.s 3 (Qh a)):=by rw[hM];rfl
 have c6:N m.s.cq<=1048577:=a7;have c2:=Hm a8;clear h hM a8 i cn a7 cm;go_enter func81,ntmps81;go_upto_region 1 with fail
 rw[<- hW,<- hB];clear hW hB;go_upto_region 3 with fail
 obtain⟨sa,sc,L,H,A,z,hm,hf⟩:=hI.opnS;obtain⟨⟨q0,q1,q2,q3,q4,q5⟩,f2,f3,f4,f5⟩:=Xn hm;have l:=hI.mo;have k0:W.drew.cell? ⟨B,0,none⟩=some (U O 3):=(l.b0 0).1;have k1:W.drew.cell? ⟨B,1,none⟩=some (U O a):=(l.b0 1).1;have k2:W.drew.cell? ⟨p,2,none⟩=some (S sa (N m.s.jj) sc):=q2;have k3:W.drew.cell? ⟨p,5,none⟩=some (U O z):=q5;have HF:=Hm hf;obtain⟨T,hT⟩:∃T:List Qb,T=(mxR p lv nl (S sa (N m.s.jj) sc) (S L (N m.s.cq) H) m.e z::stR m.s (S sa (N m.s.jj) sc)::mlR (N m.s.cq) (S L (N m.s.cq) H) A::box 85 5 B (inC 3 a b v ll la lc)::ks):=⟨_,rfl⟩;have Y:Hid (∀ns w',Mo D w0 (ns++T) w'->w'.cell? ⟨B,0,none⟩=some (U O 3)/\w'.cell? ⟨B,1,none⟩=some (U O a)/\w'.cell? ⟨p,2,none⟩=some (S sa (N m.s.jj) sc)/\w'.cell? ⟨p,5,none⟩=some (U O z)):=λns w' h=>by rw[hT]at h;have b1:=λ(j:Nat) (u:Vu) (hj:j<5) (hu:(inC 3 a b v ll la lc)[j]?=some u)=>(h.bx (t:=85) (n:=5) (g:=B) (cs:=inC 3 a b v ll la lc) (by simp) j hj hu).1;have b2:=λ(j:Nat) (u:Vu) (hj:j<6) (hu:(sb lv nl (S sa (N m.s.jj) sc) (S L (N m.s.cq) H) m.e z)[j]?=some u)=>(h.bx (t:=89) (n:=6) (g:=p) (cs:=sb lv nl (S sa (N m.s.jj) sc) (S L (N m.s.cq) H) m.e z) (by simp) j hj hu).1;exact⟨b1 0 _ (by omega) rfl,b1 1 _ (by omega) rfl,b2 2 _ (by omega) rfl,b2 5 _ (by omega) rfl⟩
 have H0:Hid (Mo D w0 T W.drew):=by rw[hT];exact hm.drewN 1
 have HA:Hid (Mo D w0 (box 174 7 W.heap.size bz7::T) (W.alloc (Fc #[S none 0 0,S none 0 0,U O 0,G false,G false,U O 0,G false] 174)).drew):=Mo.box (cur:=#[S none 0 0,S none 0 0,U O 0,G false,G false,U O 0,G false]) H0.o 174 7 rfl;have SA:=Hm (Y.o [_] _ HA.o);have HR:=Hm (λw=>sres_c a w);have HT:=Hm hT;obtain⟨n,hn⟩:∃n,n=(Qh a).length:=⟨_,rfl⟩;have HN:=Hm hn;rw[<- hn]at HR;clear hm hf l hI q0 q1 q2 q3 q4 q5 f2 f3 f4 f5 hn;go_cut [4]from 10 (λs V'=>∃g v1 v2,s=Yp (some ⟨g,0,none⟩)/\Mo D w0 (box 174 7 g (mbk v1 v2 (N m.s.jj) false false z false)::⟨2,1,n,v2,I (Qh a)⟩::⟨2,1,n,v1,I (Qh a)⟩::T) V')
 case first=>
  clear hT
  go_region_held3 (λw'=>w'.cell? ⟨B,0,none⟩=some (U O 3)/\w'.cell? ⟨B,1,none⟩=some (U O a)/\w'.cell? ⟨p,2,none⟩=some (S sa (N m.s.jj) sc)/\w'.cell? ⟨p,5,none⟩=some (U O z))
   (first|with_reducible exact⟨k0,k1,k2,k3⟩|with_reducible exact SA.o|with_reducible exact⟨Qf k0,Qf k1,Qf k2,Qf k3⟩|with_reducible exact SS.o)
   (first
    | (
     go_at_call 142
     refine Lk (HR.o _) ?_
     rintro e w2 ⟨v1,rfl,ab,av⟩;obtain⟨va,vc,rfl⟩:=Qg ab
     first
      | (
       have y:Bw W.drew.heap.size W.drew w2:=by with_reducible exact av
       have ay:=Hm (H0.o.new (ns:=[⟨2,1,n,S va n vc,I (Qh a)⟩]) y (Own.one ab));clear y;obtain⟨k0,k1,k2,k3⟩:=Y.o [_] w2 ay.o;have c5:=Hm (Mo.box (cur:=#[S none 0 0,S none 0 0,U O 0,G false,G false,U O 0,G false]) ay.o 174 7 rfl))
      | (
       have y:Bw (W.alloc (Fc #[S none 0 0,S none 0 0,U O 0,G false,G false,U O 0,G false] 174)).drew.heap.size (W.alloc (Fc #[S none 0 0,S none 0 0,U O 0,G false,G false,U O 0,G false] 174)).drew w2:=by with_reducible exact av
       have bh:=Hm (HA.o.new (ns:=[⟨2,1,n,S va n vc,I (Qh a)⟩]) y (Own.one ab));clear y;obtain⟨k0,k1,k2,k3⟩:=Y.o [_,_] w2 bh.o)
     clear H0 HA ab av)
    | (
     go_at_call 142
     refine Lk (HR.o _) ?_
     rintro e w3 ⟨v2,rfl,X,ad⟩;obtain⟨f,d,rfl⟩:=Qg X
     first
      | (
       have ag:Bw (w2.alloc (Fc #[S none 0 0,S none 0 0,U O 0,G false,G false,U O 0,G false] 174)).heap.size (w2.alloc (Fc #[S none 0 0,S none 0 0,U O 0,G false,G false,U O 0,G false] 174)) w3:=by with_reducible exact ad
       have q:=Hm ((c5.o.new (ns:=[⟨2,1,n,S f n d,I (Qh a)⟩]) ag (Own.one X)).perm swap2);clear ag;obtain⟨k0,k1,k2,k3⟩:=Y.o [_,_,_] w3 q.o;obtain⟨⟨z0,z1,z2,z3,z4,z5,z6⟩,y0,y1,y2,y3,y4,y5,y6⟩:=z7 q.o (mS ..);have bg:=Hm (put7m q.o rfl);have SS:=Hm (Y.o [_,_,_] _ (put7m q.o rfl (S va n vc) (S f n d) (U O (N m.s.jj)) (G false) (G false) (U O z) (G false))))
      | (
       have q:=Hm (ay.o.new (ns:=[⟨2,1,n,S f n d,I (Qh a)⟩]) ad (Own.one X));obtain⟨k0,k1,k2,k3⟩:=Y.o [_,_] w3 q.o;have c4:=Hm (fun x0 x1 x2 x3 x4 x5 x6=>Mo.box (cur:=#[x0,x1,x2,x3,x4,x5,x6]) q.o 174 7 rfl))
      | (
       have q:=Hm ((bh.o.new (ns:=[⟨2,1,n,S f n d,I (Qh a)⟩]) ad (Own.one X)).perm swap1);obtain⟨k0,k1,k2,k3⟩:=Y.o [_,_,_] w3 q.o;obtain⟨⟨z0,z1,z2,z3,z4,z5,z6⟩,y0,y1,y2,y3,y4,y5,y6⟩:=z7 q.o (mS ..);have bg:=Hm (put7m q.o rfl);have SS:=Hm (Y.o [_,_,_] _ (put7m q.o rfl (S va n vc) (S f n d) (U O (N m.s.jj)) (G false) (G false) (U O z) (G false))))
     clear HR X ad))
  all_goals
   go_wp2_with fail
   go_meet
   first
    |exact⟨_,_,_,rfl,c4.o _ _ _ _ _ _ _⟩
    |exact⟨_,_,_,rfl,bg.o _ _ _ _ _ _ _⟩
 obtain⟨g,v1,v2,rfl,l⟩:=hcut;rw[HT.o]at l;have hn:=HN.o;subst hn;obtain⟨va,vc,a4⟩:=Qg (l.row (r:=⟨2,1,(Qh a).length,v1,I (Qh a)⟩) (by simp));obtain⟨f,d,a3⟩:=Qg (l.row (r:=⟨2,1,(Qh a).length,v2,I (Qh a)⟩) (by simp));dsimp only at a4 a3;subst a4 a3;obtain⟨⟨z0,z1,z2,z3,z4,z5,z6⟩,y0,y1,y2,y3,y4,y5,y6⟩:=z7 l (mS ..);have c0:=(Y.o [_,_,_] wc (by rw[HT.o];exact l)).1;obtain⟨E3,bb⟩:∃E,E=wc.heap.size:=⟨_,rfl⟩;obtain⟨C,aw⟩:∃C,C=((wc.alloc (Fc #[] 2)).setCell ⟨g,0,none⟩ (S (some ⟨E3,0,none⟩) 0 0)).setCell ⟨g,6,none⟩ (G true):=⟨_,rfl⟩;have au:Mo D w0 (box 174 7 g (mbk (S (some ⟨E3,0,none⟩) 0 0) (S f (Qh a).length d) (N m.s.jj) false false z true)::_) _:=((l.keep (W:=wc.alloc (Fc #[] 2)) (bFz.alloc lRz _)).set 0 (S (some ⟨E3,0,none⟩) 0 0)).set 6 (G true);obtain⟨⟨x0,x1,x2,x3,x4,x5,x6⟩,u0,u1,u2,u3,u4,u5,u6⟩:=z7 (l.keep (W:=wc.alloc (Fc #[] 2)) (bFz.alloc lRz _)) (mS ..);rw[<- aw]at au;go_upto_region 7 with fail
 rw[<- bb,<- aw];obtain⟨⟨z0,z1,z2,z3,z4,z5,z6⟩,y0,y1,y2,y3,y4,y5,y6⟩:=z7 au (mS ..);clear aw bb x0 x1 x2 x3 x4 x5 x6 u0 u1 u2 u3 u4 u5 u6;obtain⟨i0,hi,cl,ck,cj⟩:=info_parts info174;obtain⟨KS,F⟩:∃KS:List Qb,KS=box 174 7 g (mbk (S (some ⟨E3,0,none⟩) 0 0) (S f (Qh a).length d) (N m.s.jj) false false z true)::⟨2,1,(Qh a).length,S f (Qh a).length d,I (Qh a)⟩::⟨2,1,(Qh a).length,S va (Qh a).length vc,I (Qh a)⟩::box 85 5 B (inC 3 a b v ll la lc)::ks:=⟨_,rfl⟩;have hm:Mo D w0 (mxR p lv nl (S sa (N m.s.jj) sc) (S L (N m.s.cq) H) m.e z::stR m.s (S sa (N m.s.jj) sc)::mlR (N m.s.cq) (S L (N m.s.cq) H) A::KS) C:=by
  rw[F];refine au.perm ?_;classical
  rw[Kn];intro x;simp[Th];omega
 have hf:Fl (MRep D w0 KS) m.s.cq A:=HF.o.mono λb c ⟨tv,rv,x,e,t1,t2⟩=>⟨tv,rv,x,e,t1.sub λr hr=>by rw[F];exact mC (mC (mC hr)),t2.sub λr hr=>by rw[F];exact mC (mC (mC hr))⟩;have T2:Ty D w0 KS (S f (Qh a).length d) (Qh a):=.inr (by rw[F];simp);have T1:Ty D w0 KS (S (some ⟨E3,0,none⟩) 0 0) ([]):=Ty.nil _ _ _ _ _;obtain⟨⟨q0,q1,q2,q3,q4,q5⟩,f2,f3,f4,f5⟩:=Xn hm;have ae:C.ownsRow D 174 7 (S L (N m.s.cq) H) (N m.s.cq) A:=hm.row (r:=mlR _ _ A) (by simp);have OW:=Hm ae;have co:=hm.le;have HB:Hid (∀o,Bw C.heap.size C ((C.alloc o).drew)):=λo=>⟨rfl,rfl,rfl,by show C.heap.size<=(C.alloc o).heap.size;simp,λk hk=>QN C o k hk⟩;have cz:Hid (∀V1 W' v',Bw C.heap.size C V1->W'.ownsRow D 174 7 v' (N m.s.cq+1) (A++mbk (S (some ⟨E3,0,none⟩) 0 0) (S f (Qh a).length d) (N m.s.jj) false false z true)->V1.grownBy W' (Tv L (N m.s.cq) H).ownBlock->(v'.ownBlock=(Tv L (N m.s.cq) H).ownBlock\/v'.ownBlock=some V1.heap.size)->MSt D w0 p lv nl KS M (W'.setCell ⟨p,3,none⟩ v')/\W'.cell? ⟨p,3,none⟩=some (S L (N m.s.cq) H)/\W'.frozen? ⟨p,3,none⟩=false):=λV1 W' v' hb ho hg hl=>by rw[c2.o];exact MSt.begun (b:=⟨3,[],Qh a,N m.s.jj,false⟩) hm hf hb ho hg hl T1 T2
 have kd:∀o,(C.alloc o).cell? ⟨p,3,none⟩=some (S L (N m.s.cq) H):=λo=>Qf q3;have c3:=Hm F;clear hm hf ae l F T1 T2 q0 q1 q2 q4 q5 f2 f3 f4 f5 HT Y HA H0 HR SA
 go_region_law (first
  | (
   refine Qs rfl (.tmp 39) (.tmp 41) 87 rfl D 174 i0 (Ag #[S none 0 0,S none 0 0,U O 0,G false,G false,U O 0,G false]) 7 80 underlying87 hi cl ck cj rfl (by decide) (S L (N m.s.cq) H) (N m.s.cq) A (by first|rfl|simp[Tc,Hw]) (World.ownsRow.alloc OW.o _) ⟨C.heap.size,0,none⟩ 1 1 (mbk (S (some ⟨E3,0,none⟩) 0 0) (S f (Qh a).length d) (N m.s.jj) false false z true) (by first|rfl|simp[Tc,Hw]) (by first|rfl|simp) (Jo C (mbk (S (some ⟨E3,0,none⟩) 0 0) (S f (Qh a).length d) (N m.s.jj) false false z true) 174) (one7 rfl rfl) (by unfold maxLen;omega) (by omega) (Kq co (HB.o _).size) ?_
   intro v5 w5 R bd af
   have HQ:=Hm (cz.o _ w5 v5 (HB.o _) R bd af);have du:=HQ.o.2.1;have dt:=HQ.o.2.2;obtain⟨dh,dg,rfl⟩:=Qg R;clear R bd af))
 all_goals
  go_wp2_with fail
  go_end0
  have h9:=HQ.o.1;rw[c3.o]at h9
  exact⟨rfl,[_,_,_,_],h9⟩
theorem sopen_4 (a b v:Int)(ll:List Int)(la:Option Ad)(lc:Nat)(h:MSt D w0 p lv nl ks m V)(i:Inv m.s)(a7:m.s.cq≠[])(av:N m.s.cq<=1048577)(a5:N m.s.jj<=1099511627776):Ec Q 81 #[Yp (some ⟨p,0,none⟩),inV ⟨4,a,b,v,ll⟩ la lc] V λe w'=>e=Z (.tuple #[])/\∃ns,MSt D w0 p lv nl (ns++ks) (mopen m 4 (Qh a)) w':=by
 obtain⟨M,hM⟩:∃M,M=mopen m 4 (Qh a):=⟨_,rfl⟩;rw[<- hM];have hI:=h.bxn #[U O 4,U O a,U O b,U Ou v,S la (N ll) lc] 85 5 rfl;obtain⟨W,hW⟩:∃W,W=V.alloc (Fc #[U O 4,U O a,U O b,U Ou v,S la (N ll) lc] 85):=⟨_,rfl⟩;obtain⟨B,hB⟩:∃B,B=V.heap.size:=⟨_,rfl⟩;rw[<- hW,<- hB]at hI;have d0:=(hI.mo.b0 0).1;have pk:=XO m 127;have HP:=Hm (XJ 127 hI i a7 av a5);have af:M=JE (QD m 127).2 (QI (QD m 127).2.s 4 (Qh a)):=by rw[hM];rfl
 obtain⟨r1,a6⟩:∃r,r=QD m 127:=⟨_,rfl⟩;rw[<- a6]at HP af pk;obtain⟨z1,d⟩:=r1;dsimp only at HP af pk;have cz:N d.s.cq<=1048577:=by rw[pk.bl];exact av
 clear a6 pk hI;have ci:=Hm af;clear h hM af i a7 av a5;go_enter func81,ntmps81;go_upto_region 1 with fail
 rw[<- hW,<- hB];clear hW hB;go_upto_region 3 with (go_at_call 85;refine HP.o.mono ?_;rintro e R ⟨rfl,ax⟩)
 obtain⟨sa,sc,L,H,C,E,hm,hf⟩:=ax.opnS;obtain⟨⟨q0,q1,q2,q3,q4,q5⟩,f2,f3,f4,f5⟩:=Xn hm;have y:=ax.mo;have k0:R.drew.cell? ⟨B,0,none⟩=some (U O 4):=(y.b0 0).1;have k1:R.drew.cell? ⟨B,1,none⟩=some (U O a):=(y.b0 1).1;have k2:R.drew.cell? ⟨p,2,none⟩=some (S sa (N d.s.jj) sc):=q2;have k3:R.drew.cell? ⟨p,5,none⟩=some (U O E):=q5;have HF:=Hm hf;obtain⟨T,hT⟩:∃T:List Qb,T=(mxR p lv nl (S sa (N d.s.jj) sc) (S L (N d.s.cq) H) d.e E::stR d.s (S sa (N d.s.jj) sc)::mlR (N d.s.cq) (S L (N d.s.cq) H) C::box 85 5 B (inC 4 a b v ll la lc)::ks):=⟨_,rfl⟩;have SF:Hid (∀ns w',Mo D w0 (ns++T) w'->w'.cell? ⟨B,0,none⟩=some (U O 4)/\w'.cell? ⟨B,1,none⟩=some (U O a)/\w'.cell? ⟨p,2,none⟩=some (S sa (N d.s.jj) sc)/\w'.cell? ⟨p,5,none⟩=some (U O E)):=λns w' h=>by rw[hT]at h;have b1:=λ(j:Nat) (u:Vu) (hj:j<5) (hu:(inC 4 a b v ll la lc)[j]?=some u)=>(h.bx (t:=85) (n:=5) (g:=B) (cs:=inC 4 a b v ll la lc) (by simp) j hj hu).1;have b2:=λ(j:Nat) (u:Vu) (hj:j<6) (hu:(sb lv nl (S sa (N d.s.jj) sc) (S L (N d.s.cq) H) d.e E)[j]?=some u)=>(h.bx (t:=89) (n:=6) (g:=p) (cs:=sb lv nl (S sa (N d.s.jj) sc) (S L (N d.s.cq) H) d.e E) (by simp) j hj hu).1;exact⟨b1 0 _ (by omega) rfl,b1 1 _ (by omega) rfl,b2 2 _ (by omega) rfl,b2 5 _ (by omega) rfl⟩
 have H0:Hid (Mo D w0 T R.drew):=by rw[hT];exact hm.drewN 1
 have HA:Hid (Mo D w0 (box 174 7 R.heap.size bz7::T) (R.alloc (Fc #[S none 0 0,S none 0 0,U O 0,G false,G false,U O 0,G false] 174)).drew):=Mo.box (cur:=#[S none 0 0,S none 0 0,U O 0,G false,G false,U O 0,G false]) H0.o 174 7 rfl;have SA:=Hm (SF.o [_] _ HA.o);have HR:=Hm (λw=>sres_c a w);have HT:=Hm hT;obtain⟨n,hn⟩:∃n,n=(Qh a).length:=⟨_,rfl⟩;have HN:=Hm hn;rw[<- hn]at HR;clear hm hf y ax q0 q1 q2 q3 q4 q5 f2 f3 f4 f5 hn;go_cut [4]from 10 (λs V'=>∃g v1 v2,s=Yp (some ⟨g,0,none⟩)/\Mo D w0 (box 174 7 g (mbk v1 v2 (N d.s.jj) false true E false)::⟨2,1,n,v2,I (Qh a)⟩::⟨2,1,n,v1,I (Qh a)⟩::T) V')
 case first=>
  clear hT
  go_region_held3 (λw'=>w'.cell? ⟨B,0,none⟩=some (U O 4)/\w'.cell? ⟨B,1,none⟩=some (U O a)/\w'.cell? ⟨p,2,none⟩=some (S sa (N d.s.jj) sc)/\w'.cell? ⟨p,5,none⟩=some (U O E))
   (first|with_reducible exact⟨k0,k1,k2,k3⟩|with_reducible exact SA.o|with_reducible exact⟨Qf k0,Qf k1,Qf k2,Qf k3⟩|with_reducible exact SS.o)
   (first
    | (
     go_at_call 142
     refine Lk (HR.o _) ?_
     rintro e w2 ⟨v1,rfl,ac,aw⟩;obtain⟨va,F,rfl⟩:=Qg ac
     first
      | (
       have z:Bw R.drew.heap.size R.drew w2:=by with_reducible exact aw
       have az:=Hm (H0.o.new (ns:=[⟨2,1,n,S va n F,I (Qh a)⟩]) z (Own.one ac));clear z;obtain⟨k0,k1,k2,k3⟩:=SF.o [_] w2 az.o;have cl:=Hm (Mo.box (cur:=#[S none 0 0,S none 0 0,U O 0,G false,G false,U O 0,G false]) az.o 174 7 rfl))
      | (
       have z:Bw (R.alloc (Fc #[S none 0 0,S none 0 0,U O 0,G false,G false,U O 0,G false] 174)).drew.heap.size (R.alloc (Fc #[S none 0 0,S none 0 0,U O 0,G false,G false,U O 0,G false] 174)).drew w2:=by with_reducible exact aw
       have bg:=Hm (HA.o.new (ns:=[⟨2,1,n,S va n F,I (Qh a)⟩]) z (Own.one ac));clear z;obtain⟨k0,k1,k2,k3⟩:=SF.o [_,_] w2 bg.o)
     clear H0 HA ac aw)
    | (
     go_at_call 142
     refine Lk (HR.o _) ?_
     rintro e w3 ⟨v2,rfl,Y,ae⟩;obtain⟨l,f,rfl⟩:=Qg Y
     first
      | (
       have ai:Bw (w2.alloc (Fc #[S none 0 0,S none 0 0,U O 0,G false,G false,U O 0,G false] 174)).heap.size (w2.alloc (Fc #[S none 0 0,S none 0 0,U O 0,G false,G false,U O 0,G false] 174)) w3:=by with_reducible exact ae
       have q:=Hm ((cl.o.new (ns:=[⟨2,1,n,S l n f,I (Qh a)⟩]) ai (Own.one Y)).perm swap2);clear ai;obtain⟨k0,k1,k2,k3⟩:=SF.o [_,_,_] w3 q.o;obtain⟨⟨z0,z1,z2,z3,z4,z5,z6⟩,y0,y1,y2,y3,y4,y5,y6⟩:=z7 q.o (mS ..);have bf:=Hm (put7m q.o rfl);have SS:=Hm (SF.o [_,_,_] _ (put7m q.o rfl (S va n F) (S l n f) (U O (N d.s.jj)) (G false) (G true) (U O E) (G false))))
      | (
       have q:=Hm (az.o.new (ns:=[⟨2,1,n,S l n f,I (Qh a)⟩]) ae (Own.one Y));obtain⟨k0,k1,k2,k3⟩:=SF.o [_,_] w3 q.o;have ck:=Hm (fun x0 x1 x2 x3 x4 x5 x6=>Mo.box (cur:=#[x0,x1,x2,x3,x4,x5,x6]) q.o 174 7 rfl))
      | (
       have q:=Hm ((bg.o.new (ns:=[⟨2,1,n,S l n f,I (Qh a)⟩]) ae (Own.one Y)).perm swap1);obtain⟨k0,k1,k2,k3⟩:=SF.o [_,_,_] w3 q.o;obtain⟨⟨z0,z1,z2,z3,z4,z5,z6⟩,y0,y1,y2,y3,y4,y5,y6⟩:=z7 q.o (mS ..);have bf:=Hm (put7m q.o rfl);have SS:=Hm (SF.o [_,_,_] _ (put7m q.o rfl (S va n F) (S l n f) (U O (N d.s.jj)) (G false) (G true) (U O E) (G false))))
     clear HR Y ae))
  all_goals
   go_wp2_with fail
   go_meet
   first
    |exact⟨_,_,_,rfl,ck.o _ _ _ _ _ _ _⟩
    |exact⟨_,_,_,rfl,bf.o _ _ _ _ _ _ _⟩
 obtain⟨g,v1,v2,rfl,y⟩:=hcut;rw[HT.o]at y;have hn:=HN.o;subst hn;obtain⟨va,F,a4⟩:=Qg (y.row (r:=⟨2,1,(Qh a).length,v1,I (Qh a)⟩) (by simp));obtain⟨l,f,a3⟩:=Qg (y.row (r:=⟨2,1,(Qh a).length,v2,I (Qh a)⟩) (by simp));dsimp only at a4 a3;subst a4 a3;obtain⟨⟨z0,z1,z2,z3,z4,z5,z6⟩,y0,y1,y2,y3,y4,y5,y6⟩:=z7 y (mS ..);have c0:=(SF.o [_,_,_] wc (by rw[HT.o];exact y)).1;go_upto_region 7 with fail
 obtain⟨i0,hi,b5,b4,b3⟩:=info_parts info174;obtain⟨KS,A⟩:∃KS:List Qb,KS=box 174 7 g (mbk (S va (Qh a).length F) (S l (Qh a).length f) (N d.s.jj) false true E false)::⟨2,1,(Qh a).length,S l (Qh a).length f,I (Qh a)⟩::⟨2,1,(Qh a).length,S va (Qh a).length F,I (Qh a)⟩::box 85 5 B (inC 4 a b v ll la lc)::ks:=⟨_,rfl⟩;have hm:Mo D w0 (mxR p lv nl (S sa (N d.s.jj) sc) (S L (N d.s.cq) H) d.e E::stR d.s (S sa (N d.s.jj) sc)::mlR (N d.s.cq) (S L (N d.s.cq) H) C::KS) wc:=by
  rw[A];refine y.perm ?_;classical
  rw[Kn];intro x;simp[Th];omega
 have hf:Fl (MRep D w0 KS) d.s.cq C:=HF.o.mono λb c ⟨tv,rv,x,e,t1,t2⟩=>⟨tv,rv,x,e,t1.sub λr hr=>by rw[A];exact mC (mC (mC hr)),t2.sub λr hr=>by rw[A];exact mC (mC (mC hr))⟩;have T2:Ty D w0 KS (S l (Qh a).length f) (Qh a):=.inr (by rw[A];simp);have T1:Ty D w0 KS (S va (Qh a).length F) (Qh a):=.inr (by rw[A];simp);obtain⟨⟨q0,q1,q2,q3,q4,q5⟩,f2,f3,f4,f5⟩:=Xn hm;have ag:wc.ownsRow D 174 7 (S L (N d.s.cq) H) (N d.s.cq) C:=hm.row (r:=mlR _ _ C) (by simp);have OW:=Hm ag;have b6:=hm.le;have HB:Hid (∀o,Bw wc.heap.size wc ((wc.alloc o).drew)):=λo=>⟨rfl,rfl,rfl,by show wc.heap.size<=(wc.alloc o).heap.size;simp,λk hk=>QN wc o k hk⟩;have cf:Hid (∀V1 W' v',Bw wc.heap.size wc V1->W'.ownsRow D 174 7 v' (N d.s.cq+1) (C++mbk (S va (Qh a).length F) (S l (Qh a).length f) (N d.s.jj) false true E false)->V1.grownBy W' (Tv L (N d.s.cq) H).ownBlock->(v'.ownBlock=(Tv L (N d.s.cq) H).ownBlock\/v'.ownBlock=some V1.heap.size)->MSt D w0 p lv nl KS M (W'.setCell ⟨p,3,none⟩ v')/\W'.cell? ⟨p,3,none⟩=some (S L (N d.s.cq) H)/\W'.frozen? ⟨p,3,none⟩=false):=λV1 W' v' hb ho hg hl=>by rw[ci.o];exact MSt.begun (b:=⟨4,Qh a,Qh a,N d.s.jj,false⟩) hm hf hb ho hg hl T1 T2
 have kd:∀o,(wc.alloc o).cell? ⟨p,3,none⟩=some (S L (N d.s.cq) H):=λo=>Qf q3;have kz:∀o,(wc.alloc o).cell? ⟨g,0,none⟩=some (S va (Qh a).length F):=λo=>Qf z0;have cj:=Hm A;clear hm hf ag y A T1 T2 q0 q1 q2 q4 q5 f2 f3 f4 f5 HT SF HA H0 HR SA
 go_region_law (first
  | (
   refine Qs rfl (.tmp 39) (.tmp 41) 87 rfl D 174 i0 (Ag #[S none 0 0,S none 0 0,U O 0,G false,G false,U O 0,G false]) 7 80 underlying87 hi b5 b4 b3 rfl (by decide) (S L (N d.s.cq) H) (N d.s.cq) C (by first|rfl|simp[Tc,Hw]) (World.ownsRow.alloc OW.o _) ⟨wc.heap.size,0,none⟩ 1 1 (mbk (S va (Qh a).length F) (S l (Qh a).length f) (N d.s.jj) false true E false) (by first|rfl|simp[Tc,Hw]) (by first|rfl|simp) (Jo wc (mbk (S va (Qh a).length F) (S l (Qh a).length f) (N d.s.jj) false true E false) 174) (one7 rfl rfl) (by unfold maxLen;omega) (by omega) (Kq b6 (HB.o _).size) ?_
   intro v5 w5 X bb ah
   have HQ:=Hm (cf.o _ w5 v5 (HB.o _) X bb ah);have dh:=HQ.o.2.1;have dg:=HQ.o.2.2;obtain⟨db,da,rfl⟩:=Qg X;clear X bb ah))
 all_goals
  go_wp2_with fail
  go_end0
  have h9:=HQ.o.1;rw[cj.o]at h9
  exact⟨rfl,[_,_,_,_],h9⟩
theorem sstep_x:(∀⦃D:Nat⦄ ⦃w0:J⦄ ⦃p:Nat⦄ ⦃lv:Vu⦄ ⦃nl:Int⦄ ⦃ks:List Qb⦄ ⦃s:Fn⦄ ⦃V:J⦄ ⦃x:Ctx⦄ ⦃t:Ctv⦄ (a b v:Int) (d:List Int) (l:Option Ad) (k:Nat) (H:P7 D w0 p lv nl ks s V x t ⟨2,a,b,v,d⟩ l k) (f:Qp x frm s ⟨2,a,b,v,d⟩=0),SpC D w0 p lv nl ks s V x t ⟨2,a,b,v,d⟩ l k)/\(∀⦃D:Nat⦄ ⦃w0:J⦄ ⦃p:Nat⦄ ⦃lv:Vu⦄ ⦃nl:Int⦄ ⦃ks:List Qb⦄ ⦃s:Fn⦄ ⦃V:J⦄ ⦃x:Ctx⦄ ⦃t:Ctv⦄ (a b v:Int) (d:List Int) (l:Option Ad) (k:Nat) (H:P7 D w0 p lv nl ks s V x t ⟨3,a,b,v,d⟩ l k) (f:Qp x frm s ⟨3,a,b,v,d⟩=0),SpC D w0 p lv nl ks s V x t ⟨3,a,b,v,d⟩ l k)/\(∀⦃D:Nat⦄ ⦃w0:J⦄ ⦃p:Nat⦄ ⦃lv:Vu⦄ ⦃nl:Int⦄ ⦃ks:List Qb⦄ ⦃s:Fn⦄ ⦃V:J⦄ ⦃x:Ctx⦄ ⦃t:Ctv⦄ (a b v:Int) (d:List Int) (l:Option Ad) (k:Nat) (H:P7 D w0 p lv nl ks s V x t ⟨4,a,b,v,d⟩ l k) (f:Qp x frm s ⟨4,a,b,v,d⟩=0),SpC D w0 p lv nl ks s V x t ⟨4,a,b,v,d⟩ l k):=by
 refine⟨?c0,?c1,?c2⟩;case' c0=>have j:=0
 case' c1=>have g:=0
 case' c2=>have ab:=0
 all_goals
  intro D w0 p lv nl ks s V x t a b v d l k H f
  obtain⟨h,hx,ad,B,C,X,HK⟩:=H;unfold SpC
  first|(replace j:=j;obtain⟨A,z,L,I,F,E,Y,W,y,rfl,hW,hB,hI⟩:=JH 2 a b v d l k h hx)|(replace g:=g;obtain⟨A,z,L,I,F,E,Y,W,y,rfl,hW,hB,hI⟩:=JH 3 a b v d l k h hx)|(obtain⟨A,z,L,I,F,E,Y,W,y,rfl,hW,hB,hI⟩:=JH 4 a b v d l k h hx)
  have u:=Hm (HK hI (hx.sub (λr hr=>by simp[hr])));obtain⟨⟨d0,d1,d2,d3,d4⟩,c0,c1,c2,c3,c4,c5⟩:=MSt.ins (ns:=[]) hI
  first
  | (
   replace j:=j
   have HR:Hid (Qt x frm oty s ⟨2,a,b,v,d⟩=mopen ⟨s,0⟩ 2 (Qh a)):=by
    show Qt x frm oty s ⟨2,a,b,v,d⟩=_
    rw[Qt,if_neg (λc=>c f)]
    simp[Q9])
  | (
   replace g:=g
   have HR:Hid (Qt x frm oty s ⟨3,a,b,v,d⟩=mopen ⟨s,0⟩ 3 (Qh a)):=by
    show Qt x frm oty s ⟨3,a,b,v,d⟩=_
    rw[Qt,if_neg (λc=>c f)]
    simp[Q9])
  | (
   replace ab:=ab
   have HR:Hid (Qt x frm oty s ⟨4,a,b,v,d⟩=mopen ⟨s,0⟩ 4 (Qh a)):=by
    show Qt x frm oty s ⟨4,a,b,v,d⟩=_
    rw[Qt,if_neg (λc=>c f)]
    simp[Q9])
  rw[f]at u;have HX:=Hm (⟨hx,ad⟩:CtR D w0 x ⟨S A (N x.types) z,S L (N x.jk) I,S F (N x.jx) E,Y⟩ ks/\LoM lv ks (QM s));clear h hx ad hI HK f
  go_enter func28,ntmps28
  go_upto_region 1 with fail
  rw[<- hW,<- hB];clear hW hB
  go_wp2_with fail
  refine u.o.mono ?_
  rintro e w1 ⟨rfl,ns,n⟩;have q9:=n.err
  dsimp only at q9
  clear u d0 d1 d2 d3 d4 c0 c1 c2 c3 c4 c5;obtain⟨⟨d0,d1,d2,d3,d4⟩,c0,c1,c2,c3,c4,c5⟩:=n.ins
  first|(replace j:=j;obtain⟨q,m⟩:∃q:List Qb,q=ns++(box 85 5 (y+1) (inC 2 a b v d l k)::box 80 6 y [S A (N x.types) z,S L (N x.jk) I,S F (N x.jx) E,U O x.gw,U O x.jv,U O x.jz]::ks):=⟨_,rfl⟩)|(replace g:=g;obtain⟨q,m⟩:∃q:List Qb,q=ns++(box 85 5 (y+1) (inC 3 a b v d l k)::box 80 6 y [S A (N x.types) z,S L (N x.jk) I,S F (N x.jx) E,U O x.gw,U O x.jv,U O x.jz]::ks):=⟨_,rfl⟩)|(obtain⟨q,m⟩:∃q:List Qb,q=ns++(box 85 5 (y+1) (inC 4 a b v d l k)::box 80 6 y [S A (N x.types) z,S L (N x.jk) I,S F (N x.jx) E,U O x.gw,U O x.jv,U O x.jz]::ks):=⟨_,rfl⟩)
  replace n:MSt D w0 p lv nl q ⟨s,0⟩ w1:=by rw[m];exact n
  first|(replace j:=j;have ag:Hid (∀(m':MS) (W':J) (ns':List Qb),MSt D w0 p lv nl (ns'++q) m' W'->X1 W' y 2 a b v d l k (S A (N x.types) z) (S L (N x.jk) I) (S F (N x.jx) E) (U O x.gw) (U O x.jv) (U O x.jz)):=λm' W' ns' h=>by rw[m,<- Kv]at h;exact h.ins)|(replace g:=g;have ag:Hid (∀(m':MS) (W':J) (ns':List Qb),MSt D w0 p lv nl (ns'++q) m' W'->X1 W' y 3 a b v d l k (S A (N x.types) z) (S L (N x.jk) I) (S F (N x.jx) E) (U O x.gw) (U O x.jv) (U O x.jz)):=λm' W' ns' h=>by rw[m,<- Kv]at h;exact h.ins)|(have ag:Hid (∀(m':MS) (W':J) (ns':List Qb),MSt D w0 p lv nl (ns'++q) m' W'->X1 W' y 4 a b v d l k (S A (N x.types) z) (S L (N x.jk) I) (S F (N x.jx) E) (U O x.gw) (U O x.jv) (U O x.jz)):=λm' W' ns' h=>by rw[m,<- Kv]at h;exact h.ins)
  have ap:Hid (∃R,q=R++ks):=⟨ns++[_,_],by rw[m,Kv];rfl⟩;have a5:Hid (∀r∈ks,r∈q):=λr hr=>by rw[m];simp[hr]
  clear m
  first|(replace j:=j;have HC:=Hm (sopen_2 a b v d l k n B.inv X B.bl B.st))|(replace g:=g;have HC:=Hm (sopen_3 a b v d l k n B.inv X B.bl B.st))|(have HC:=Hm (sopen_4 a b v d l k n B.inv X B.bl B.st))
  clear n
  go_wp2_with fail
  refine HC.o.mono ?_
  rintro e w9 ⟨rfl,n9,ae⟩;clear HC;obtain⟨po,⟨r5,a2⟩,M⟩:=ae.pos;have ak:=Hm M;clear M ae
  go_wp2
  go_end0
  rw[HR.o];obtain⟨R,ac⟩:=ap.o
  exact⟨rfl,n9++R,by rw[Kv,<- ac];exact ak.o _⟩
def sstep_2:=sstep_x.1
def sstep_3:=sstep_x.2.1
def sstep_4:=sstep_x.2.2
theorem sstep_5 (a b v:Int)(k:List Int)(u:Option Ad)(q:Nat)(H:P7 D w0 p lv nl ks s V x t ⟨5,a,b,v,k⟩ u q)(f:Qp x frm s ⟨5,a,b,v,k⟩=0)  :SpC D w0 p lv nl ks s V x t ⟨5,a,b,v,k⟩ u q:=by
 obtain⟨h,F,A,B,C,z,HK⟩:=H;unfold SpC;obtain⟨L,I,fa,fc,X,R,Y,W,B_,rfl,hW,hB,M⟩:=JH 5 a b v k u q h F;have j:=Hm (HK M (F.sub (λr hr=>by simp[hr])));obtain⟨⟨d0,d1,d2,d3,d4⟩,c0,c1,c2,c3,c4,c5⟩:=MSt.ins (ns:=[]) M;have HR:Hid (Qt x frm oty s ⟨5,a,b,v,k⟩=Jb ⟨s,0⟩ true):=by show Qt x frm oty s ⟨5,a,b,v,k⟩=_;rw[Qt,if_neg (λc=>c f)];simp[Q9]
 rw[f]at j;have HX:=Hm (⟨F,A⟩:CtR D w0 x ⟨S L (N x.types) I,S fa (N x.jk) fc,S X (N x.jx) R,Y⟩ ks/\LoM lv ks (QM s));clear h F A M HK f;go_enter func28,ntmps28;go_upto_region 1 with fail
 rw[<- hW,<- hB];clear hW hB;go_wp2_with fail
 refine j.o.mono ?_;rintro e w1 ⟨rfl,ns,d⟩;have q9:=d.err;dsimp only at q9;clear j d0 d1 d2 d3 d4 c0 c1 c2 c3 c4 c5;obtain⟨⟨d0,d1,d2,d3,d4⟩,c0,c1,c2,c3,c4,c5⟩:=d.ins;obtain⟨n,g⟩:∃n:List Qb,n=ns++(box 85 5 (B_+1) (inC 5 a b v k u q)::box 80 6 B_ [S L (N x.types) I,S fa (N x.jk) fc,S X (N x.jx) R,U O x.gw,U O x.jv,U O x.jz]::ks):=⟨_,rfl⟩;replace d:MSt D w0 p lv nl n ⟨s,0⟩ w1:=by rw[g];exact d
 have a5:Hid (∀(m':MS) (W':J) (ns':List Qb),MSt D w0 p lv nl (ns'++n) m' W'->X1 W' B_ 5 a b v k u q (S L (N x.types) I) (S fa (N x.jk) fc) (S X (N x.jx) R) (U O x.gw) (U O x.jv) (U O x.jz)):=λm' W' ns' h=>by rw[g,<- Kv]at h;exact h.ins
 have ad:Hid (∃m,n=m++ks):=⟨ns++[_,_],by rw[g,Kv];rfl⟩;have a3:Hid (∀r∈ks,r∈n):=λr hr=>by rw[g];simp[hr]
 clear g;have HC:=Hm (sclose_c true d B.inv z B.bl B.st (B.rl _ (top_mem z)));clear d;go_wp2_with fail
 refine HC.o.mono ?_;rintro e w9 ⟨rfl,n9,E⟩;clear HC;obtain⟨po,⟨r5,a0⟩,l⟩:=E.pos;have ac:=Hm l;clear l E;go_wp2;go_end0;rw[HR.o];obtain⟨m,y⟩:=ad.o;exact⟨rfl,n9++m,by rw[Kv,<- y];exact ac.o _⟩
theorem sstep_11 (a b v:Int)(k:List Int)(u:Option Ad)(q:Nat)(H:P7 D w0 p lv nl ks s V x t ⟨11,a,b,v,k⟩ u q)(f:Qp x frm s ⟨11,a,b,v,k⟩=0)  :SpC D w0 p lv nl ks s V x t ⟨11,a,b,v,k⟩ u q:=by
 obtain⟨h,F,A,B,C,z,HK⟩:=H;unfold SpC;obtain⟨L,I,fa,fc,X,R,Y,W,B_,rfl,hW,hB,M⟩:=JH 11 a b v k u q h F;have j:=Hm (HK M (F.sub (λr hr=>by simp[hr])));obtain⟨⟨d0,d1,d2,d3,d4⟩,c0,c1,c2,c3,c4,c5⟩:=MSt.ins (ns:=[]) M;have HR:Hid (Qt x frm oty s ⟨11,a,b,v,k⟩=Jb ⟨s,0⟩ false):=by show Qt x frm oty s ⟨11,a,b,v,k⟩=_;rw[Qt,if_neg (λc=>c f)];simp[Q9]
 rw[f]at j;have HX:=Hm (⟨F,A⟩:CtR D w0 x ⟨S L (N x.types) I,S fa (N x.jk) fc,S X (N x.jx) R,Y⟩ ks/\LoM lv ks (QM s));clear h F A M HK f;go_enter func28,ntmps28;go_upto_region 1 with fail
 rw[<- hW,<- hB];clear hW hB;go_wp2_with fail
 refine j.o.mono ?_;rintro e w1 ⟨rfl,ns,d⟩;have q9:=d.err;dsimp only at q9;clear j d0 d1 d2 d3 d4 c0 c1 c2 c3 c4 c5;obtain⟨⟨d0,d1,d2,d3,d4⟩,c0,c1,c2,c3,c4,c5⟩:=d.ins;obtain⟨n,g⟩:∃n:List Qb,n=ns++(box 85 5 (B_+1) (inC 11 a b v k u q)::box 80 6 B_ [S L (N x.types) I,S fa (N x.jk) fc,S X (N x.jx) R,U O x.gw,U O x.jv,U O x.jz]::ks):=⟨_,rfl⟩;replace d:MSt D w0 p lv nl n ⟨s,0⟩ w1:=by rw[g];exact d
 have a5:Hid (∀(m':MS) (W':J) (ns':List Qb),MSt D w0 p lv nl (ns'++n) m' W'->X1 W' B_ 11 a b v k u q (S L (N x.types) I) (S fa (N x.jk) fc) (S X (N x.jx) R) (U O x.gw) (U O x.jv) (U O x.jz)):=λm' W' ns' h=>by rw[g,<- Kv]at h;exact h.ins
 have ad:Hid (∃m,n=m++ks):=⟨ns++[_,_],by rw[g,Kv];rfl⟩;have a3:Hid (∀r∈ks,r∈n):=λr hr=>by rw[g];simp[hr]
 clear g;have HC:=Hm (sclose_c false d B.inv z B.bl B.st (B.rl _ (top_mem z)));clear d;go_wp2_with fail
 refine HC.o.mono ?_;rintro e w9 ⟨rfl,n9,E⟩;clear HC;obtain⟨po,⟨r5,a0⟩,l⟩:=E.pos;have ac:=Hm l;clear l E;go_wp2;go_end0;rw[HR.o];obtain⟨m,y⟩:=ad.o;exact⟨rfl,n9++m,by rw[Kv,<- y];exact ac.o _⟩
theorem sstep_26 (a b v:Int)(k:List Int)(u:Option Ad)(q:Nat)(H:P7 D w0 p lv nl ks s V x t ⟨26,a,b,v,k⟩ u q)(f:Qp x frm s ⟨26,a,b,v,k⟩=0)  :SpC D w0 p lv nl ks s V x t ⟨26,a,b,v,k⟩ u q:=by
 obtain⟨h,E,z,B,C,L,HK⟩:=H;unfold SpC;obtain⟨I,F,fa,fc,X,R,Y,W,B_,rfl,hW,hB,M⟩:=JH 26 a b v k u q h E;have j:=Hm (HK M (E.sub (λr hr=>by simp[hr])));obtain⟨⟨d0,d1,d2,d3,d4⟩,c0,c1,c2,c3,c4,c5⟩:=MSt.ins (ns:=[]) M;have HR:Hid (Qt x frm oty s ⟨26,a,b,v,k⟩=(QD ⟨s,0⟩ 0).2):=by show Qt x frm oty s ⟨26,a,b,v,k⟩=_;rw[Qt,if_neg (λc=>c f)];simp[Q9]
 rw[f]at j;have HX:=Hm (⟨E,z⟩:CtR D w0 x ⟨S I (N x.types) F,S fa (N x.jk) fc,S X (N x.jx) R,Y⟩ ks/\LoM lv ks (QM s));clear h E z M HK f;go_enter func28,ntmps28;go_upto_region 1 with fail
 rw[<- hW,<- hB];clear hW hB;go_wp2_with fail
 refine j.o.mono ?_;rintro e w1 ⟨rfl,ns,d⟩;have q9:=d.err;dsimp only at q9;clear j d0 d1 d2 d3 d4 c0 c1 c2 c3 c4 c5;obtain⟨⟨d0,d1,d2,d3,d4⟩,c0,c1,c2,c3,c4,c5⟩:=d.ins;obtain⟨n,g⟩:∃n:List Qb,n=ns++(box 85 5 (B_+1) (inC 26 a b v k u q)::box 80 6 B_ [S I (N x.types) F,S fa (N x.jk) fc,S X (N x.jx) R,U O x.gw,U O x.jv,U O x.jz]::ks):=⟨_,rfl⟩;replace d:MSt D w0 p lv nl n ⟨s,0⟩ w1:=by rw[g];exact d
 have a4:Hid (∀(m':MS) (W':J) (ns':List Qb),MSt D w0 p lv nl (ns'++n) m' W'->X1 W' B_ 26 a b v k u q (S I (N x.types) F) (S fa (N x.jk) fc) (S X (N x.jx) R) (U O x.gw) (U O x.jv) (U O x.jz)):=λm' W' ns' h=>by rw[g,<- Kv]at h;exact h.ins
 have ad:Hid (∃m,n=m++ks):=⟨ns++[_,_],by rw[g,Kv];rfl⟩;have a2:Hid (∀r∈ks,r∈n):=λr hr=>by rw[g];simp[hr]
 clear g;have HC:=Hm (XJ 0 d B.inv L B.bl B.st);clear d;go_wp2_with fail
 refine HC.o.mono ?_;rintro e w9 ⟨rfl,A⟩;clear HC;obtain⟨po,⟨r5,a0⟩,l⟩:=A.pos;have ac:=Hm l;clear l A;go_wp2;go_end0;rw[HR.o];obtain⟨m,y⟩:=ad.o;exact⟨rfl,m,by rw[<- y];exact ac.o _⟩
theorem sstep_27 (a b v:Int)(k:List Int)(u:Option Ad)(q:Nat)(H:P7 D w0 p lv nl ks s V x t ⟨27,a,b,v,k⟩ u q)(f:Qp x frm s ⟨27,a,b,v,k⟩=0)  :SpC D w0 p lv nl ks s V x t ⟨27,a,b,v,k⟩ u q:=by
 obtain⟨h,E,z,B,C,L,HK⟩:=H;unfold SpC;obtain⟨I,F,fa,fc,X,R,Y,W,B_,rfl,hW,hB,M⟩:=JH 27 a b v k u q h E;have j:=Hm (HK M (E.sub (λr hr=>by simp[hr])));obtain⟨⟨d0,d1,d2,d3,d4⟩,c0,c1,c2,c3,c4,c5⟩:=MSt.ins (ns:=[]) M;have HR:Hid (Qt x frm oty s ⟨27,a,b,v,k⟩=mselect ⟨s,0⟩):=by show Qt x frm oty s ⟨27,a,b,v,k⟩=_;rw[Qt,if_neg (λc=>c f)];simp[Q9]
 rw[f]at j;have HX:=Hm (⟨E,z⟩:CtR D w0 x ⟨S I (N x.types) F,S fa (N x.jk) fc,S X (N x.jx) R,Y⟩ ks/\LoM lv ks (QM s));clear h E z M HK f;go_enter func28,ntmps28;go_upto_region 1 with fail
 rw[<- hW,<- hB];clear hW hB;go_wp2_with fail
 refine j.o.mono ?_;rintro e w1 ⟨rfl,ns,d⟩;have q9:=d.err;dsimp only at q9;clear j d0 d1 d2 d3 d4 c0 c1 c2 c3 c4 c5;obtain⟨⟨d0,d1,d2,d3,d4⟩,c0,c1,c2,c3,c4,c5⟩:=d.ins;obtain⟨n,g⟩:∃n:List Qb,n=ns++(box 85 5 (B_+1) (inC 27 a b v k u q)::box 80 6 B_ [S I (N x.types) F,S fa (N x.jk) fc,S X (N x.jx) R,U O x.gw,U O x.jv,U O x.jz]::ks):=⟨_,rfl⟩;replace d:MSt D w0 p lv nl n ⟨s,0⟩ w1:=by rw[g];exact d
 have a4:Hid (∀(m':MS) (W':J) (ns':List Qb),MSt D w0 p lv nl (ns'++n) m' W'->X1 W' B_ 27 a b v k u q (S I (N x.types) F) (S fa (N x.jk) fc) (S X (N x.jx) R) (U O x.gw) (U O x.jv) (U O x.jz)):=λm' W' ns' h=>by rw[g,<- Kv]at h;exact h.ins
 have ad:Hid (∃m,n=m++ks):=⟨ns++[_,_],by rw[g,Kv];rfl⟩;have a2:Hid (∀r∈ks,r∈n):=λr hr=>by rw[g];simp[hr]
 clear g;have HC:=Hm (sselect_c d B.inv L B.bl B.st);clear d;go_wp2_with fail
 refine HC.o.mono ?_;rintro e w9 ⟨rfl,A⟩;clear HC;obtain⟨po,⟨r5,a0⟩,l⟩:=A.pos;have ac:=Hm l;clear l A;go_wp2;go_end0;rw[HR.o];obtain⟨m,y⟩:=ad.o;exact⟨rfl,m,by rw[<- y];exact ac.o _⟩
theorem sstep_14 (j:Nat)(b v:Int)(a:List Int)(q:Option Ad)(n:Nat)(H:P7 D w0 p lv nl ks s V x t ⟨14,(j:Int),b,v,a⟩ q n)(f:Qp x frm s ⟨14,(j:Int),b,v,a⟩=0)(hj:j<N s.cq)(tL:Ty D w0 [] (S q (N a) n) a)(L:N a<=1048577)(M:∀i∈a,0<=i/\i<N s.cq):SpC D w0 p lv nl ks s V x t ⟨14,(j:Int),b,v,a⟩ q n:=by
 obtain⟨h,E,z,B,C,a5,HK⟩:=H;unfold SpC;obtain⟨I,F,fa,fc,Y,X,aa,W,B_,rfl,hW,hB,R⟩:=JH 14 (j:Int) b v a q n h E;have k:=Hm (HK R (E.sub (λr hr=>by simp[hr])));obtain⟨⟨d0,d1,d2,d3,d4⟩,c0,c1,c2,c3,c4,c5⟩:=MSt.ins (ns:=[]) R;have HR:Hid (Qt x frm oty s ⟨14,(j:Int),b,v,a⟩=mtable ⟨s,0⟩ a j):=by show Qt x frm oty s ⟨14,(j:Int),b,v,a⟩=_;rw[Qt,if_neg (λc=>c f)];simp[Q9]
 rw[f]at k;have HX:=Hm (⟨E,z⟩:CtR D w0 x ⟨S I (N x.types) F,S fa (N x.jk) fc,S Y (N x.jx) X,aa⟩ ks/\LoM lv ks (QM s));clear h E z R HK f;go_enter func28,ntmps28;go_upto_region 1 with fail
 rw[<- hW,<- hB];clear hW hB;go_wp2_with fail
 refine k.o.mono ?_;rintro e w1 ⟨rfl,ns,d⟩;have q9:=d.err;dsimp only at q9;clear k d0 d1 d2 d3 d4 c0 c1 c2 c3 c4 c5;obtain⟨⟨d0,d1,d2,d3,d4⟩,c0,c1,c2,c3,c4,c5⟩:=d.ins;obtain⟨u,g⟩:∃u:List Qb,u=ns++(box 85 5 (B_+1) (inC 14 (j:Int) b v a q n)::box 80 6 B_ [S I (N x.types) F,S fa (N x.jk) fc,S Y (N x.jx) X,U O x.gw,U O x.jv,U O x.jz]::ks):=⟨_,rfl⟩;replace d:MSt D w0 p lv nl u ⟨s,0⟩ w1:=by rw[g];exact d
 have a9:Hid (∀(m':MS) (W':J) (ns':List Qb),MSt D w0 p lv nl (ns'++u) m' W'->X1 W' B_ 14 (j:Int) b v a q n (S I (N x.types) F) (S fa (N x.jk) fc) (S Y (N x.jx) X) (U O x.gw) (U O x.jv) (U O x.jz)):=λm' W' ns' h=>by rw[g,<- Kv]at h;exact h.ins
 have ae:Hid (∃m,u=m++ks):=⟨ns++[_,_],by rw[g,Kv];rfl⟩;have a7:Hid (∀r∈ks,r∈u):=λr hr=>by rw[g];simp[hr]
 clear g;have HC:=Hm (stable_c j b v a q n d B.inv hj B.bl B.st B.tl tL L M);clear d;go_wp2_with fail
 refine HC.o.mono ?_;rintro e w9 ⟨rfl,n9,A⟩;clear HC;obtain⟨po,⟨r5,a2⟩,l⟩:=A.pos;have ad:=Hm l;clear l A;go_wp2;go_end0;rw[HR.o];obtain⟨m,y⟩:=ae.o;exact⟨rfl,n9++m,by rw[Kv,<- y];exact ad.o _⟩
theorem sstep_12 (j:Nat)(b v:Int)(n:List Int)(R:Option Ad)(M:Nat)(H:P7 D w0 p lv nl ks s V x t ⟨12,(j:Int),b,v,n⟩ R M)(d:Qp x frm s ⟨12,(j:Int),b,v,n⟩=0)(hj:j<N s.cq):SpC D w0 p lv nl ks s V x t ⟨12,(j:Int),b,v,n⟩ R M:=by
 obtain⟨h,hx,ac,B,C,Y,HK⟩:=H;unfold SpC;obtain⟨ta,tc,fa,fc,ga,gc,az,W,B_,rfl,hW,hB,hI⟩:=JH 12 (j:Int) b v n R M h hx;have l:=Hm (HK hI (hx.sub (λr hr=>by simp[hr])));obtain⟨⟨d0,d1,d2,d3,d4⟩,c0,c1,c2,c3,c4,c5⟩:=MSt.ins (ns:=[]) hI;have HR:Hid (Qt x frm oty s ⟨12,(j:Int),b,v,n⟩=mdie (Qq ⟨s,0⟩ (label s (j:Int)).gj)):=by show Qt x frm oty s ⟨12,(j:Int),b,v,n⟩=_;rw[Qt,if_neg (λc=>c d)];simp[Q9]
 rw[d]at l;have HX:=Hm (⟨hx,ac⟩:CtR D w0 x ⟨S ta (N x.types) tc,S fa (N x.jk) fc,S ga (N x.jx) gc,az⟩ ks/\LoM lv ks (QM s));clear h hx ac hI HK d;go_enter func28,ntmps28;go_upto_region 1 with fail
 rw[<- hW,<- hB];clear hW hB;go_wp2_with fail
 refine l.o.mono ?_;rintro e w1 ⟨rfl,ns,a⟩;have q9:=a.err;dsimp only at q9;clear l d0 d1 d2 d3 d4 c0 c1 c2 c3 c4 c5;obtain⟨⟨d0,d1,d2,d3,d4⟩,c0,c1,c2,c3,c4,c5⟩:=a.ins;obtain⟨L,f⟩:∃L:List Qb,L=ns++(box 85 5 (B_+1) (inC 12 (j:Int) b v n R M)::box 80 6 B_ [S ta (N x.types) tc,S fa (N x.jk) fc,S ga (N x.jx) gc,U O x.gw,U O x.jv,U O x.jz]::ks):=⟨_,rfl⟩;replace a:MSt D w0 p lv nl L ⟨s,0⟩ w1:=by rw[f];exact a
 have b9:Hid (∀(m':MS) (W':J) (ns':List Qb),MSt D w0 p lv nl (ns'++L) m' W'->X1 W' B_ 12 (j:Int) b v n R M (S ta (N x.types) tc) (S fa (N x.jk) fc) (S ga (N x.jx) gc) (U O x.gw) (U O x.jv) (U O x.jz)):=λm' W' ns' h=>by rw[f,<- Kv]at h;exact h.ins
 have a5:Hid (∃u,L=u++ks):=⟨ns++[_,_],by rw[f,Kv];rfl⟩;have b8:Hid (∀r∈ks,r∈L):=λr hr=>by rw[f];simp[hr]
 clear f;obtain⟨m,z⟩:∃m,m=(label s (j:Int)).gj:=⟨_,rfl⟩;have ba:N m<=1048576:=by rw[z];exact B.tl _ (Xc hj)
 have A:=B.bl;have au:=B.st;have ag:Hid (m=(label (⟨s,0⟩:MS).s (j:Int)).gj):=z;have av:j<(⟨s,0⟩:MS).s.cq.length:=hj;have b6:(⟨s,0⟩:MS).s.cq.length<=1048577:=A;obtain⟨g,k,c,b3,hk,e3,dt,t1⟩:=a.lab av;rw[<- ag.o]at t1;obtain⟨xa,xc,rfl,_⟩:=t1.ms a;have F:=Hm (slabel_c p g k c (j:Int) w1 e3 (by omega) (by omega) (by omega));have ej:(k-(j:Int).toNat)*7=(k-j)*7:=by simp
 rw[ej]at F;have a2:=Hm t1;have ah:=Hm a;clear a t1 ej;go_wp2_with fail
 refine F.o.mono ?_;rintro e w2 ⟨rfl,n1,rfl⟩;obtain⟨w3,y⟩:∃w3,w3=w1.drewN n1:=⟨_,rfl⟩;have I:=Hm (ah.o.drewN n1);have b7:w3.cell? ⟨g,(k-j)*7,none⟩=some (S xa (N m) xc):=by rw[y];exact dt
 rw[<- y]at I⊢;clear y dt e3 ah F;have E:=Hm (Xa _ m I.o a2.o B.inv Y A au (by omega));have pk:=JI ⟨s,0⟩ m;have i4:=pk.iv B.inv;have aa:(Qq ⟨s,0⟩ m).s.cq≠[]:=by rw[pk.bl];exact Y
 have ad:(Qq ⟨s,0⟩ m).s.cq.length<=1048577:=by rw[pk.bl];exact A
 rw[<- ag.o]at HR;obtain⟨m4,ab⟩:∃m4,m4=Qq ⟨s,0⟩ m:=⟨_,rfl⟩;rw[<- ab]at E i4 aa ad HR;clear I pk ab z;go_wp2_with fail
 refine E.o.mono ?_;rintro e w4 ⟨rfl,af⟩;have HD:=Hm (sdead_c af i4 aa ad);clear af E;go_wp2_with fail
 refine HD.o.mono ?_;rintro e w9 ⟨rfl,ae⟩;clear HD;obtain⟨po,⟨r5,b4⟩,q⟩:=ae.pos;have a3:=Hm q;clear q ae;go_wp2;go_end0;rw[HR.o];obtain⟨u,X⟩:=a5.o;exact⟨rfl,u,by rw[<- X];exact a3.o _⟩
theorem sstep_13 (j:Nat)(b v:Int)(y:List Int)(la:Option Ad)(lc:Nat)(H:P7 D w0 p lv nl ks s V x t ⟨13,(j:Int),b,v,y⟩ la lc)(f:Qp x frm s ⟨13,(j:Int),b,v,y⟩=0)(hj:j<N s.cq):SpC D w0 p lv nl ks s V x t ⟨13,(j:Int),b,v,y⟩ la lc:=by
 obtain⟨h,hx,ao,B,C,aj,HK⟩:=H;unfold SpC;obtain⟨ta,tc,fa,fc,ga,gc,bn,W,B_,rfl,hW,hB,hI⟩:=JH 13 (j:Int) b v y la lc h hx;have n:=Hm (HK hI (hx.sub (λr hr=>by simp[hr])));obtain⟨⟨d0,d1,d2,d3,d4⟩,c0,c1,c2,c3,c4,c5⟩:=MSt.ins (ns:=[]) hI;have HR:Hid (Qt x frm oty s ⟨13,(j:Int),b,v,y⟩=Xb (Qq (QD ⟨s,0⟩ 127).2 (label s (j:Int)).gj) (label s (j:Int)).gj):=by show Qt x frm oty s ⟨13,(j:Int),b,v,y⟩=_;rw[Qt,if_neg (λc=>c f)];simp[Q9,QW,mapp,mpopAll_127]
 rw[f]at n;have HX:=Hm (⟨hx,ao⟩:CtR D w0 x ⟨S ta (N x.types) tc,S fa (N x.jk) fc,S ga (N x.jx) gc,bn⟩ ks/\LoM lv ks (QM s));clear h hx ao hI HK f;go_enter func28,ntmps28;go_upto_region 1 with fail
 rw[<- hW,<- hB];clear hW hB;go_wp2_with fail
 refine n.o.mono ?_;rintro e w1 ⟨rfl,ns,a⟩;have q9:=a.err;dsimp only at q9;clear n d0 d1 d2 d3 d4 c0 c1 c2 c3 c4 c5;obtain⟨⟨d0,d1,d2,d3,d4⟩,c0,c1,c2,c3,c4,c5⟩:=a.ins;obtain⟨KS,l⟩:∃KS:List Qb,KS=ns++(box 85 5 (B_+1) (inC 13 (j:Int) b v y la lc)::box 80 6 B_ [S ta (N x.types) tc,S fa (N x.jk) fc,S ga (N x.jx) gc,U O x.gw,U O x.jv,U O x.jz]::ks):=⟨_,rfl⟩;replace a:MSt D w0 p lv nl KS ⟨s,0⟩ w1:=by rw[l];exact a
 have bs:Hid (∀(m':MS) (W':J) (ns':List Qb),MSt D w0 p lv nl (ns'++KS) m' W'->X1 W' B_ 13 (j:Int) b v y la lc (S ta (N x.types) tc) (S fa (N x.jk) fc) (S ga (N x.jx) gc) (U O x.gw) (U O x.jv) (U O x.jz)):=λm' W' ns' h=>by rw[l,<- Kv]at h;exact h.ins
 have br:Hid (∃A,KS=A++ks):=⟨ns++[_,_],by rw[l,Kv];rfl⟩;have cj:Hid (∀r∈ks,r∈KS):=λr hr=>by rw[l];simp[hr]
 clear l;obtain⟨d,u⟩:∃d,d=(label s (j:Int)).gj:=⟨_,rfl⟩;have b2:N d<=1048576:=by rw[u];exact B.tl _ (Xc hj)
 have ap:=B.bl;have af:=B.st;have HP:=Hm (XJ 127 a B.inv aj ap af);have q:=XO ⟨s,0⟩ 127;have i1:=q.iv B.inv;have I:(QD ⟨s,0⟩ 127).2.s.cq≠[]:=by rw[q.bl];exact aj
 have M:(QD ⟨s,0⟩ 127).2.s.cq.length<=1048577:=by rw[q.bl];exact ap
 have F:(QD ⟨s,0⟩ 127).2.s.jj.length<=1099511627776:=Kq q.ln af;have L:j<(QD ⟨s,0⟩ 127).2.s.cq.length:=by rw[q.bl];exact hj
 have X:Hid (d=(label (QD ⟨s,0⟩ 127).2.s (j:Int)).gj):=by show d=_;rw[u,q.label]
 rw[<- u]at HR;obtain⟨r1,ah⟩:∃r,r=QD ⟨s,0⟩ 127:=⟨_,rfl⟩;rw[<- ah]at HP i1 I M F L X HR;obtain⟨z1,m1⟩:=r1;dsimp only at HP i1 I M F L X HR;clear ah q a u;go_wp2_with fail
 refine HP.o.mono ?_;rintro e wa ⟨rfl,m⟩;clear HP d0 d1 d2 d3 d4 c0 c1 c2 c3 c4 c5 q9;obtain⟨⟨d0,d1,d2,d3,d4⟩,c0,c1,c2,c3,c4,c5⟩:=bs.o m1 wa [] m;obtain⟨g,k,c,cf,hk,e3,dt,t1⟩:=m.lab L;rw[<- X.o]at t1;obtain⟨xa,xc,rfl,_⟩:=t1.ms m;have aa:=Hm (slabel_c p g k c (j:Int) wa e3 (by omega) (by omega) (by omega));have ej:(k-(j:Int).toNat)*7=(k-j)*7:=by simp
 rw[ej]at aa;have ar:=Hm t1;have av:=Hm m;clear m t1 ej;go_wp2_with fail
 refine aa.o.mono ?_;rintro e w2 ⟨rfl,n1,rfl⟩;obtain⟨w3,E⟩:∃w3,w3=wa.drewN n1:=⟨_,rfl⟩;have ab:=Hm (av.o.drewN n1);have ci:w3.cell? ⟨g,(k-j)*7,none⟩=some (S xa (N d) xc):=by rw[E];exact dt
 rw[<- E]at ab⊢;clear E dt e3 av aa;have Y:=Hm (Xa _ d ab.o ar.o i1 I M F (by omega));have q:=JI m1 d;have ag:(Qq m1 d).s.jj.length<=2199023255552:=Kq q.ln (by omega);obtain⟨m4,ak⟩:∃m4,m4=Qq m1 d:=⟨_,rfl⟩;rw[<- ak]at Y ag HR;clear ab q ak;go_wp2_with fail
 refine Y.o.mono ?_;rintro e w4 ⟨rfl,R⟩;obtain⟨cd,cc,e,hh⟩:=ar.o.ms R;cases e;have HD:=Hm (XM xa xc d R hh (by omega) ag);clear R Y hh;go_wp2_with fail
 refine HD.o.mono ?_;rintro e w9 ⟨rfl,aq⟩;clear HD;obtain⟨po,⟨r5,cg⟩,z⟩:=aq.pos;have bq:=Hm z;clear z aq;go_wp2;go_end0;rw[HR.o];obtain⟨A,ai⟩:=br.o;exact⟨rfl,A,by rw[<- ai];exact bq.o _⟩
theorem sstep_15 (a b v:Int)(u:List Int)(L:Option Ad)(I:Nat)(H:P7 D w0 p lv nl ks s V x t ⟨15,a,b,v,u⟩ L I)(f:Qp x frm s ⟨15,a,b,v,u⟩=0)  :SpC D w0 p lv nl ks s V x t ⟨15,a,b,v,u⟩ L I:=by
 obtain⟨h,hx,Y,B,C,q,HK⟩:=H;unfold SpC;obtain⟨ta,tc,fa,fc,ga,gc,ap,W,B_,rfl,hW,hB,hI⟩:=JH 15 a b v u L I h hx;have k:=Hm (HK hI (hx.sub (λr hr=>by simp[hr])));obtain⟨⟨d0,d1,d2,d3,d4⟩,c0,c1,c2,c3,c4,c5⟩:=MSt.ins (ns:=[]) hI;have HR:Hid (Qt x frm oty s ⟨15,a,b,v,u⟩=mdie (Qq ⟨s,0⟩ (s.cq.headD ⟨0,[],[],0,false⟩).results)):=by show Qt x frm oty s ⟨15,a,b,v,u⟩=_;rw[Qt,if_neg (λc=>c f)];simp[Q9]
 rw[f]at k;have HX:=Hm (⟨hx,Y⟩:CtR D w0 x ⟨S ta (N x.types) tc,S fa (N x.jk) fc,S ga (N x.jx) gc,ap⟩ ks/\LoM lv ks (QM s));clear h hx Y hI HK f;go_enter func28,ntmps28;go_upto_region 1 with fail
 rw[<- hW,<- hB];clear hW hB;go_wp2_with fail
 refine k.o.mono ?_;rintro e w1 ⟨rfl,ns,d⟩;have q9:=d.err;dsimp only at q9;clear k d0 d1 d2 d3 d4 c0 c1 c2 c3 c4 c5;obtain⟨⟨d0,d1,d2,d3,d4⟩,c0,c1,c2,c3,c4,c5⟩:=d.ins;obtain⟨A,j⟩:∃A:List Qb,A=ns++(box 85 5 (B_+1) (inC 15 a b v u L I)::box 80 6 B_ [S ta (N x.types) tc,S fa (N x.jk) fc,S ga (N x.jx) gc,U O x.gw,U O x.jv,U O x.jz]::ks):=⟨_,rfl⟩;replace d:MSt D w0 p lv nl A ⟨s,0⟩ w1:=by rw[j];exact d
 have bp:Hid (∀(m':MS) (W':J) (ns':List Qb),MSt D w0 p lv nl (ns'++A) m' W'->X1 W' B_ 15 a b v u L I (S ta (N x.types) tc) (S fa (N x.jk) fc) (S ga (N x.jx) gc) (U O x.gw) (U O x.jv) (U O x.jz)):=λm' W' ns' h=>by rw[j,<- Kv]at h;exact h.ins
 have aw:Hid (∃z,A=z++ks):=⟨ns++[_,_],by rw[j,Kv];rfl⟩;have bo:Hid (∀r∈ks,r∈A):=λr hr=>by rw[j];simp[hr]
 clear j;have aa:=B.bl;have ai:=B.st;obtain⟨g,n,c,rv,e3,dr,F⟩:=d.hd q;obtain⟨l,m⟩:∃l,l=(s.cq.headD ⟨0,[],[],0,false⟩).results:=⟨_,rfl⟩;have a0:N l<=1048576:=by
  rw[m];cases hb:s.cq with
  |nil=>exact absurd hb q
  |cons b bs=>exact B.rl b (by rw[hb];simp)
 replace F:Ty D w0 A rv l:=by rw[m];exact F
 obtain⟨xa,xc,rfl,_⟩:=F.ms d;have E:=Hm (Xa _ l d F B.inv q aa ai (by omega));have pk:=JI ⟨s,0⟩ l;have i4:=pk.iv B.inv;have R:(Qq ⟨s,0⟩ l).s.cq≠[]:=by rw[pk.bl];exact q
 have ab:(Qq ⟨s,0⟩ l).s.cq.length<=1048577:=by rw[pk.bl];exact aa
 rw[<- m]at HR;obtain⟨m4,X⟩:∃m4,m4=Qq ⟨s,0⟩ l:=⟨_,rfl⟩;rw[<- X]at E i4 R ab HR;have i5:(0:Int)<((n+1:Nat):Int):=by omega
 clear d pk X m F;go_wp2_with fail
 refine E.o.mono ?_;rintro e w4 ⟨rfl,ad⟩;have HD:=Hm (sdead_c ad i4 R ab);clear ad E;go_wp2_with fail
 refine HD.o.mono ?_;rintro e w9 ⟨rfl,ac⟩;clear HD;obtain⟨po,⟨r5,bm⟩,y⟩:=ac.pos;have au:=Hm y;clear y ac;go_wp2;go_end0;rw[HR.o];obtain⟨z,M⟩:=aw.o;exact⟨rfl,z,by rw[<- M];exact au.o _⟩
theorem sstep_32 (a b v:Int)(l:List Int)(I:Option Ad)(F:Nat)(H:P7 D w0 p lv nl ks s V x t ⟨32,a,b,v,l⟩ I F)(f:Qp x frm s ⟨32,a,b,v,l⟩=0)(aa:0<=a)(ag:a<=4294967295):SpC D w0 p lv nl ks s V x t ⟨32,a,b,v,l⟩ I F:=by
 obtain⟨h,hx,M,B,C,bf,HK⟩:=H;unfold SpC;obtain⟨ta,tc,fa,fc,ga,gc,ak,W,B_,rfl,hW,hB,hI⟩:=JH 32 a b v l I F h hx;have k:=Hm (HK hI (hx.sub (λr hr=>by simp[hr])));obtain⟨⟨d0,d1,d2,d3,d4⟩,c0,c1,c2,c3,c4,c5⟩:=MSt.ins (ns:=[]) hI;have HR:Hid (Qt x frm oty s ⟨32,a,b,v,l⟩=Xb ⟨s,0⟩ [loc s a]):=by show Qt x frm oty s ⟨32,a,b,v,l⟩=_;rw[Qt,if_neg (λc=>c f)];simp[Q9,QW,mapp,Qq,JR]
 rw[f]at k;have HX:=Hm (⟨hx,M⟩:CtR D w0 x ⟨S ta (N x.types) tc,S fa (N x.jk) fc,S ga (N x.jx) gc,ak⟩ ks/\LoM lv ks (QM s));clear h hx M hI HK f;go_enter func28,ntmps28;go_upto_region 1 with fail
 rw[<- hW,<- hB];clear hW hB;go_wp2_with fail
 refine k.o.mono ?_;rintro e u ⟨rfl,ns,d⟩;have q9:=d.err;dsimp only at q9;clear k d0 d1 d2 d3 d4 c0 c1 c2 c3 c4 c5;obtain⟨⟨d0,d1,d2,d3,d4⟩,c0,c1,c2,c3,c4,c5⟩:=d.ins;obtain⟨A,j⟩:∃A:List Qb,A=ns++(box 85 5 (B_+1) (inC 32 a b v l I F)::box 80 6 B_ [S ta (N x.types) tc,S fa (N x.jk) fc,S ga (N x.jx) gc,U O x.gw,U O x.jv,U O x.jz]::ks):=⟨_,rfl⟩;replace d:MSt D w0 p lv nl A ⟨s,0⟩ u:=by rw[j];exact d
 have bm:Hid (∀(m':MS) (W':J) (ns':List Qb),MSt D w0 p lv nl (ns'++A) m' W'->X1 W' B_ 32 a b v l I F (S ta (N x.types) tc) (S fa (N x.jk) fc) (S ga (N x.jx) gc) (U O x.gw) (U O x.jv) (U O x.jz)):=λm' W' ns' h=>by rw[j,<- Kv]at h;exact h.ins
 have au:Hid (∃y,A=y++ks):=⟨ns++[_,_],by rw[j,Kv];rfl⟩;have ar:Hid (∀r∈ks,r∈A):=λr hr=>by rw[j];simp[hr]
 clear j;have bh:=B.bl;have bd:=B.st;have R:∀g∈QM s,0<=g.n:=λg Y=>by
  rcases List.mem_append.1 Y with Y|Y
  . obtain⟨q,_,rfl⟩:=List.mem_map.1 Y;show(0:Int)<=1;omega
  exact B.nn g Y
 have X:(QM s).length<=2097154:=by have:=B.pl;have:=B.gl;simp[QM];omega
 have E:=Hm (slocal_c a (QM s) d (ar.o _ HX.o.2) aa ag R X);obtain⟨lt,z⟩:∃lt,lt=loc s a:=⟨_,rfl⟩;rw[loc_eq s a aa,<- z]at E;rw[<- z]at HR;clear z R X;go_wp2_with fail
 refine E.o.mono ?_;rintro e w2 ⟨rfl,rfl⟩;clear E;have ac:Hid (Ec Q 86 #[Yp (some ⟨p,0,none⟩),S (some ⟨u.heap.size,0,none⟩) 1 1] (u.alloc (Fc #[U O lt] 2)) λe w'=>e=Z (.tuple #[])/\MSt D w0 p lv nl A (Xb ⟨s,0⟩ [lt]) w'):=by
  have hh:Has (u.alloc (Fc #[U O lt] 2)) (some ⟨u.heap.size,0,none⟩) [lt]:=.inr ⟨u.heap.size,0,rfl,fun i hi=>by
   have:i=0:=by simp at hi;omega
   subst this
   exact Qe rfl rfl⟩
  exact XM (some ⟨u.heap.size,0,none⟩) 1 [lt] (d.keep (bFz.alloc lRz _)) hh (by simp) (by show(N s.jj)<=_;omega)
 clear d;go_wp2_with fail
 refine ac.o.mono ?_;rintro e w9 ⟨rfl,ab⟩;clear ac;obtain⟨po,⟨r5,bb⟩,m⟩:=ab.pos;have aq:=Hm m;clear m ab;go_wp2;go_end0;rw[HR.o];obtain⟨y,L⟩:=au.o;exact⟨rfl,y,by rw[<- L];exact aq.o _⟩
theorem sstep_33 (a b v:Int)(l:List Int)(F:Option Ad)(E:Nat)(H:P7 D w0 p lv nl ks s V x t ⟨33,a,b,v,l⟩ F E)(f:Qp x frm s ⟨33,a,b,v,l⟩=0)(Y:0<=a)(ah:a<=4294967295):SpC D w0 p lv nl ks s V x t ⟨33,a,b,v,l⟩ F E:=by
 obtain⟨h,hx,L,B,C,af,HK⟩:=H;unfold SpC;obtain⟨ta,tc,fa,fc,ga,gc,ao,W,B_,rfl,hW,hB,hI⟩:=JH 33 a b v l F E h hx;have k:=Hm (HK hI (hx.sub (λr hr=>by simp[hr])));obtain⟨⟨d0,d1,d2,d3,d4⟩,c0,c1,c2,c3,c4,c5⟩:=MSt.ins (ns:=[]) hI;have HR:Hid (Qt x frm oty s ⟨33,a,b,v,l⟩=(QD ⟨s,0⟩ (loc s a)).2):=by show Qt x frm oty s ⟨33,a,b,v,l⟩=_;rw[Qt,if_neg (λc=>c f)];simp[Q9,QW,mapp,Qq,JR,mpush_nil]
 rw[f]at k;have HX:=Hm (⟨hx,L⟩:CtR D w0 x ⟨S ta (N x.types) tc,S fa (N x.jk) fc,S ga (N x.jx) gc,ao⟩ ks/\LoM lv ks (QM s));clear h hx L hI HK f;go_enter func28,ntmps28;go_upto_region 1 with fail
 rw[<- hW,<- hB];clear hW hB;go_wp2_with fail
 refine k.o.mono ?_;rintro e w1 ⟨rfl,ns,d⟩;have q9:=d.err;dsimp only at q9;clear k d0 d1 d2 d3 d4 c0 c1 c2 c3 c4 c5;obtain⟨⟨d0,d1,d2,d3,d4⟩,c0,c1,c2,c3,c4,c5⟩:=d.ins;obtain⟨A,j⟩:∃A:List Qb,A=ns++(box 85 5 (B_+1) (inC 33 a b v l F E)::box 80 6 B_ [S ta (N x.types) tc,S fa (N x.jk) fc,S ga (N x.jx) gc,U O x.gw,U O x.jv,U O x.jz]::ks):=⟨_,rfl⟩;replace d:MSt D w0 p lv nl A ⟨s,0⟩ w1:=by rw[j];exact d
 have bj:Hid (∀(m':MS) (W':J) (ns':List Qb),MSt D w0 p lv nl (ns'++A) m' W'->X1 W' B_ 33 a b v l F E (S ta (N x.types) tc) (S fa (N x.jk) fc) (S ga (N x.jx) gc) (U O x.gw) (U O x.jv) (U O x.jz)):=λm' W' ns' h=>by rw[j,<- Kv]at h;exact h.ins
 have av:Hid (∃u,A=u++ks):=⟨ns++[_,_],by rw[j,Kv];rfl⟩;have au:Hid (∀r∈ks,r∈A):=λr hr=>by rw[j];simp[hr]
 clear j;have ag:=B.bl;have ae:=B.st;have M:∀g∈QM s,0<=g.n:=λg X=>by
  rcases List.mem_append.1 X with X|X
  . obtain⟨q,_,rfl⟩:=List.mem_map.1 X;show(0:Int)<=1;omega
  exact B.nn g X
 have R:(QM s).length<=2097154:=by have:=B.pl;have:=B.gl;simp[QM];omega
 have z:=Hm (slocal_c a (QM s) d (au.o _ HX.o.2) Y ah M R);obtain⟨lt,y⟩:∃lt,lt=loc s a:=⟨_,rfl⟩;rw[loc_eq s a Y,<- y]at z;rw[<- y]at HR;clear y M R;have HP:=Hm (XJ lt d B.inv af ag ae);clear d;go_wp2_with fail
 refine z.o.mono ?_;rintro e w2 ⟨rfl,rfl⟩;clear z;go_wp2_with fail
 refine HP.o.mono ?_;rintro e w9 ⟨rfl,aa⟩;clear HP;obtain⟨po,⟨r5,bf⟩,m⟩:=aa.pos;have ar:=Hm m;clear m aa;go_wp2;go_end0;rw[HR.o];obtain⟨u,I⟩:=av.o;exact⟨rfl,u,by rw[<- I];exact ar.o _⟩
theorem sstep_34 (a b v:Int)(l:List Int)(L:Option Ad)(I:Nat)(H:P7 D w0 p lv nl ks s V x t ⟨34,a,b,v,l⟩ L I)(f:Qp x frm s ⟨34,a,b,v,l⟩=0)(ac:0<=a)(ar:a<=4294967295):SpC D w0 p lv nl ks s V x t ⟨34,a,b,v,l⟩ L I:=by
 obtain⟨h,hx,X,B,C,ap,HK⟩:=H;unfold SpC;obtain⟨ta,tc,fa,fc,ga,gc,ax,W,B_,rfl,hW,hB,hI⟩:=JH 34 a b v l L I h hx;have k:=Hm (HK hI (hx.sub (λr hr=>by simp[hr])));obtain⟨⟨d0,d1,d2,d3,d4⟩,c0,c1,c2,c3,c4,c5⟩:=MSt.ins (ns:=[]) hI;have HR:Hid (Qt x frm oty s ⟨34,a,b,v,l⟩=Xb (QD ⟨s,0⟩ (loc s a)).2 [loc s a]):=by show Qt x frm oty s ⟨34,a,b,v,l⟩=_;rw[Qt,if_neg (λc=>c f)];simp[Q9,QW,mapp,Qq,JR]
 rw[f]at k;have HX:=Hm (⟨hx,X⟩:CtR D w0 x ⟨S ta (N x.types) tc,S fa (N x.jk) fc,S ga (N x.jx) gc,ax⟩ ks/\LoM lv ks (QM s));clear h hx X hI HK f;go_enter func28,ntmps28;go_upto_region 1 with fail
 rw[<- hW,<- hB];clear hW hB;go_wp2_with fail
 refine k.o.mono ?_;rintro e w1 ⟨rfl,ns,d⟩;have q9:=d.err;dsimp only at q9;clear k d0 d1 d2 d3 d4 c0 c1 c2 c3 c4 c5;obtain⟨⟨d0,d1,d2,d3,d4⟩,c0,c1,c2,c3,c4,c5⟩:=d.ins;obtain⟨A,j⟩:∃A:List Qb,A=ns++(box 85 5 (B_+1) (inC 34 a b v l L I)::box 80 6 B_ [S ta (N x.types) tc,S fa (N x.jk) fc,S ga (N x.jx) gc,U O x.gw,U O x.jv,U O x.jz]::ks):=⟨_,rfl⟩;replace d:MSt D w0 p lv nl A ⟨s,0⟩ w1:=by rw[j];exact d
 have bu:Hid (∀(m':MS) (W':J) (ns':List Qb),MSt D w0 p lv nl (ns'++A) m' W'->X1 W' B_ 34 a b v l L I (S ta (N x.types) tc) (S fa (N x.jk) fc) (S ga (N x.jx) gc) (U O x.gw) (U O x.jv) (U O x.jz)):=λm' W' ns' h=>by rw[j,<- Kv]at h;exact h.ins
 have a2:Hid (∃u,A=u++ks):=⟨ns++[_,_],by rw[j,Kv];rfl⟩;have a1:Hid (∀r∈ks,r∈A):=λr hr=>by rw[j];simp[hr]
 clear j;have aq:=B.bl;have ao:=B.st;have Y:∀g∈QM s,0<=g.n:=λg hg=>by
  rcases List.mem_append.1 hg with hg|hg
  . obtain⟨q,_,rfl⟩:=List.mem_map.1 hg;show(0:Int)<=1;omega
  exact B.nn g hg
 have aa:(QM s).length<=2097154:=by have:=B.pl;have:=B.gl;simp[QM];omega
 have E:=Hm (slocal_c a (QM s) d (a1.o _ HX.o.2) ac ar Y aa);obtain⟨lt,z⟩:∃lt,lt=loc s a:=⟨_,rfl⟩;rw[loc_eq s a ac,<- z]at E;rw[<- z]at HR;clear z Y aa;have HP:=Hm (XJ lt d B.inv ap aq ao);have pk:=XO ⟨s,0⟩ lt;have y:(QD ⟨s,0⟩ lt).2.s.jj.length<=2199023255552:=Kq pk.ln (by show(N s.jj)<=_;omega);obtain⟨r1,M⟩:∃r,r=QD ⟨s,0⟩ lt:=⟨_,rfl⟩;rw[<- M]at HP y HR;obtain⟨z1,m1⟩:=r1;dsimp only at HP y HR;clear d pk M;go_wp2_with fail
 refine E.o.mono ?_;rintro e w2 ⟨rfl,rfl⟩;clear E;go_wp2_with fail
 refine HP.o.mono ?_;rintro e F ⟨rfl,ae⟩;clear HP;have af:Hid (Ec Q 86 #[Yp (some ⟨p,0,none⟩),S (some ⟨F.heap.size,0,none⟩) 1 1] (F.alloc (Fc #[U O lt] 2)) λe w'=>e=Z (.tuple #[])/\MSt D w0 p lv nl A (Xb m1 [lt]) w'):=by
  have hh:Has (F.alloc (Fc #[U O lt] 2)) (some ⟨F.heap.size,0,none⟩) [lt]:=.inr ⟨F.heap.size,0,rfl,fun i hi=>by
   have:i=0:=by simp at hi;omega
   subst this
   exact Qe rfl rfl⟩
  exact XM (some ⟨F.heap.size,0,none⟩) 1 [lt] (ae.keep (bFz.alloc lRz _)) hh (by simp) (y)
 clear ae;go_wp2_with fail
 refine af.o.mono ?_;rintro e w9 ⟨rfl,ad⟩;clear af;obtain⟨po,⟨r5,bo⟩,m⟩:=ad.pos;have a0:=Hm m;clear m ad;go_wp2;go_end0;rw[HR.o];obtain⟨u,R⟩:=a2.o;exact⟨rfl,u,by rw[<- R];exact a0.o _⟩
theorem sstep_35 (j:Nat)(b v:Int)(l:List Int)(A:Option Ad)(z:Nat)(H:P7 D w0 p lv nl ks s V x t ⟨35,(j:Int),b,v,l⟩ A z)(d:Qp x frm s ⟨35,(j:Int),b,v,l⟩=0)(hj:j<N x.jx):SpC D w0 p lv nl ks s V x t ⟨35,(j:Int),b,v,l⟩ A z:=by
 obtain⟨h,X,I,B,C,a9,HK⟩:=H;unfold SpC;obtain⟨ta,Y,fa,fc,ga,gc,ae,W,B_,rfl,hW,hB,hI⟩:=JH 35 (j:Int) b v l A z h X;have k:=Hm (HK hI (X.sub (λr hr=>by simp[hr])));obtain⟨⟨d0,d1,d2,d3,d4⟩,c0,c1,c2,c3,c4,c5⟩:=MSt.ins (ns:=[]) hI;have HR:Hid (Qt x frm oty s ⟨35,(j:Int),b,v,l⟩=Xb ⟨s,0⟩ [(Q6 x (j:Int)).ty]):=by show Qt x frm oty s ⟨35,(j:Int),b,v,l⟩=_;rw[Qt,if_neg (λc=>c d)];simp[Q9,QW,mapp,Qq,JR]
 rw[d]at k;have HX:=Hm (⟨X,I⟩:CtR D w0 x ⟨S ta (N x.types) Y,S fa (N x.jk) fc,S ga (N x.jx) gc,ae⟩ ks/\LoM lv ks (QM s));clear h X I hI HK d;go_enter func28,ntmps28;go_upto_region 1 with fail
 rw[<- hW,<- hB];clear hW hB;go_wp2_with fail
 refine k.o.mono ?_;rintro e q ⟨rfl,ns,a⟩;have q9:=a.err;dsimp only at q9;clear k d0 d1 d2 d3 d4 c0 c1 c2 c3 c4 c5;obtain⟨⟨d0,d1,d2,d3,d4⟩,c0,c1,c2,c3,c4,c5⟩:=a.ins;obtain⟨y,f⟩:∃y:List Qb,y=ns++(box 85 5 (B_+1) (inC 35 (j:Int) b v l A z)::box 80 6 B_ [S ta (N x.types) Y,S fa (N x.jk) fc,S ga (N x.jx) gc,U O x.gw,U O x.jv,U O x.jz]::ks):=⟨_,rfl⟩;replace a:MSt D w0 p lv nl y ⟨s,0⟩ q:=by rw[f];exact a
 have bh:Hid (∀(m':MS) (W':J) (ns':List Qb),MSt D w0 p lv nl (ns'++y) m' W'->X1 W' B_ 35 (j:Int) b v l A z (S ta (N x.types) Y) (S fa (N x.jk) fc) (S ga (N x.jx) gc) (U O x.gw) (U O x.jv) (U O x.jz)):=λm' W' ns' h=>by rw[f,<- Kv]at h;exact h.ins
 have aj:Hid (∃u,y=u++ks):=⟨ns++[_,_],by rw[f,Kv];rfl⟩;have ai:Hid (∀r∈ks,r∈y):=λr hr=>by rw[f];simp[hr]
 clear f;have bc:=B.bl;have a8:=B.st;obtain⟨a0,bf,e,L⟩:=Qu a.mo (ai.o _ HX.o.1.gr);cases e;obtain⟨g,rfl,n⟩:=L (by omega);have gt:=n _ _ (Gr (gs:=x.jx) (i:=j) (g:=Q6 x j) (by simp[Q6,Kx,hj])).1 (by omega);obtain⟨lt,F⟩:∃lt,lt=(Q6 x (j:Int)).ty:=⟨_,rfl⟩;rw[<- F]at HR gt;have i5:(j:Int)<(N x.jx:Int):=by omega
 clear F L n;have R:Hid (Ec Q 86 #[Yp (some ⟨p,0,none⟩),S (some ⟨q.heap.size,0,none⟩) 1 1] (q.alloc (Fc #[U O lt] 2)) λe w'=>e=Z (.tuple #[])/\MSt D w0 p lv nl y (Xb ⟨s,0⟩ [lt]) w'):=by
  have hh:Has (q.alloc (Fc #[U O lt] 2)) (some ⟨q.heap.size,0,none⟩) [lt]:=.inr ⟨q.heap.size,0,rfl,fun i hi=>by
   have:i=0:=by simp at hi;omega
   subst this
   exact Qe rfl rfl⟩
  exact XM (some ⟨q.heap.size,0,none⟩) 1 [lt] (a.keep (bFz.alloc lRz _)) hh (by simp) (by show(N s.jj)<=_;omega)
 clear a;go_wp2_with fail
 refine R.o.mono ?_;rintro e w9 ⟨rfl,M⟩;clear R;obtain⟨po,⟨r5,a6⟩,m⟩:=M.pos;have ah:=Hm m;clear m M;go_wp2;go_end0;rw[HR.o];obtain⟨u,E⟩:=aj.o;exact⟨rfl,u,by rw[<- E];exact ah.o _⟩
theorem sstep_36 (j:Nat)(b v:Int)(l:List Int)(z:Option Ad)(y:Nat)(H:P7 D w0 p lv nl ks s V x t ⟨36,(j:Int),b,v,l⟩ z y)(d:Qp x frm s ⟨36,(j:Int),b,v,l⟩=0)(hj:j<N x.jx):SpC D w0 p lv nl ks s V x t ⟨36,(j:Int),b,v,l⟩ z y:=by
 obtain⟨h,M,F,B,C,aa,HK⟩:=H;unfold SpC;obtain⟨X,R,fa,fc,ga,gc,af,W,B_,rfl,hW,hB,hI⟩:=JH 36 (j:Int) b v l z y h M;have k:=Hm (HK hI (M.sub (λr hr=>by simp[hr])));obtain⟨⟨d0,d1,d2,d3,d4⟩,c0,c1,c2,c3,c4,c5⟩:=MSt.ins (ns:=[]) hI;have HR:Hid (Qt x frm oty s ⟨36,(j:Int),b,v,l⟩=(QD ⟨s,0⟩ (Q6 x (j:Int)).ty).2):=by show Qt x frm oty s ⟨36,(j:Int),b,v,l⟩=_;rw[Qt,if_neg (λc=>c d)];simp[Q9,QW,mapp,Qq,JR,mpush_nil]
 rw[d]at k;have HX:=Hm (⟨M,F⟩:CtR D w0 x ⟨S X (N x.types) R,S fa (N x.jk) fc,S ga (N x.jx) gc,af⟩ ks/\LoM lv ks (QM s));clear h M F hI HK d;go_enter func28,ntmps28;go_upto_region 1 with fail
 rw[<- hW,<- hB];clear hW hB;go_wp2_with fail
 refine k.o.mono ?_;rintro e w1 ⟨rfl,ns,a⟩;have q9:=a.err;dsimp only at q9;clear k d0 d1 d2 d3 d4 c0 c1 c2 c3 c4 c5;obtain⟨⟨d0,d1,d2,d3,d4⟩,c0,c1,c2,c3,c4,c5⟩:=a.ins;obtain⟨u,f⟩:∃u:List Qb,u=ns++(box 85 5 (B_+1) (inC 36 (j:Int) b v l z y)::box 80 6 B_ [S X (N x.types) R,S fa (N x.jk) fc,S ga (N x.jx) gc,U O x.gw,U O x.jv,U O x.jz]::ks):=⟨_,rfl⟩;replace a:MSt D w0 p lv nl u ⟨s,0⟩ w1:=by rw[f];exact a
 have bg:Hid (∀(m':MS) (W':J) (ns':List Qb),MSt D w0 p lv nl (ns'++u) m' W'->X1 W' B_ 36 (j:Int) b v l z y (S X (N x.types) R) (S fa (N x.jk) fc) (S ga (N x.jx) gc) (U O x.gw) (U O x.jv) (U O x.jz)):=λm' W' ns' h=>by rw[f,<- Kv]at h;exact h.ins
 have ak:Hid (∃q,u=q++ks):=⟨ns++[_,_],by rw[f,Kv];rfl⟩;have aj:Hid (∀r∈ks,r∈u):=λr hr=>by rw[f];simp[hr]
 clear f;have ab:=B.bl;have Y:=B.st;obtain⟨a0,bd,e,I⟩:=Qu a.mo (aj.o _ HX.o.1.gr);cases e;obtain⟨g,rfl,n⟩:=I (by omega);have gt:=n _ _ (Gr (gs:=x.jx) (i:=j) (g:=Q6 x j) (by simp[Q6,Kx,hj])).1 (by omega);obtain⟨lt,E⟩:∃lt,lt=(Q6 x (j:Int)).ty:=⟨_,rfl⟩;rw[<- E]at HR gt;have i5:(j:Int)<(N x.jx:Int):=by omega
 clear E I n;have HP:=Hm (XJ lt a B.inv aa ab Y);clear a;go_wp2_with fail
 refine HP.o.mono ?_;rintro e w9 ⟨rfl,L⟩;clear HP;obtain⟨po,⟨r5,a9⟩,m⟩:=L.pos;have ai:=Hm m;clear m L;go_wp2;go_end0;rw[HR.o];obtain⟨q,A⟩:=ak.o;exact⟨rfl,q,by rw[<- A];exact ai.o _⟩
theorem sstep_16 (j:Nat)(b v:Int)(y:List Int)(X:Option Ad)(R:Nat)(H:P7 D w0 p lv nl ks s V x t ⟨16,(j:Int),b,v,y⟩ X R)(k:Qp x frm s ⟨16,(j:Int),b,v,y⟩=0)(hj:j<N x.jk):SpC D w0 p lv nl ks s V x t ⟨16,(j:Int),b,v,y⟩ X R:=by
 obtain⟨h,hx,ac,B,C,az,HK⟩:=H;unfold SpC;obtain⟨ta,tc,fa,fc,ga,gc,a7,W,B_,rfl,hW,hB,hI⟩:=JH 16 (j:Int) b v y X R h hx;have n:=Hm (HK hI (hx.sub (λr hr=>by simp[hr])));obtain⟨⟨d0,d1,d2,d3,d4⟩,c0,c1,c2,c3,c4,c5⟩:=MSt.ins (ns:=[]) hI;have HR:Hid (Qt x frm oty s ⟨16,(j:Int),b,v,y⟩=Xb (Qq ⟨s,0⟩ (x.jk.getD j Qc.z).ps) (x.jk.getD j Qc.z).rs):=by show Qt x frm oty s ⟨16,(j:Int),b,v,y⟩=_;rw[Qt,if_neg (λc=>c k)];simp[Q9,QW,mapp]
 rw[k]at n;have HX:=Hm (⟨hx,ac⟩:CtR D w0 x ⟨S ta (N x.types) tc,S fa (N x.jk) fc,S ga (N x.jx) gc,a7⟩ ks/\LoM lv ks (QM s));clear h hx ac hI HK k;go_enter func28,ntmps28;go_upto_region 1 with fail
 rw[<- hW,<- hB];clear hW hB;go_wp2_with fail
 refine n.o.mono ?_;rintro e w1 ⟨rfl,ns,a⟩;have q9:=a.err;dsimp only at q9;clear n d0 d1 d2 d3 d4 c0 c1 c2 c3 c4 c5;obtain⟨⟨d0,d1,d2,d3,d4⟩,c0,c1,c2,c3,c4,c5⟩:=a.ins;obtain⟨I,m⟩:∃I:List Qb,I=ns++(box 85 5 (B_+1) (inC 16 (j:Int) b v y X R)::box 80 6 B_ [S ta (N x.types) tc,S fa (N x.jk) fc,S ga (N x.jx) gc,U O x.gw,U O x.jv,U O x.jz]::ks):=⟨_,rfl⟩;replace a:MSt D w0 p lv nl I ⟨s,0⟩ w1:=by rw[m];exact a
 have bh:Hid (∀(m':MS) (W':J) (ns':List Qb),MSt D w0 p lv nl (ns'++I) m' W'->X1 W' B_ 16 (j:Int) b v y X R (S ta (N x.types) tc) (S fa (N x.jk) fc) (S ga (N x.jx) gc) (U O x.gw) (U O x.jv) (U O x.jz)):=λm' W' ns' h=>by rw[m,<- Kv]at h;exact h.ins
 have bg:Hid (∃E,I=E++ks):=⟨ns++[_,_],by rw[m,Kv];rfl⟩;have bd:Hid (∀r∈ks,r∈I):=λr hr=>by rw[m];simp[hr]
 clear m;have a1:=B.bl;have ay:=B.st;obtain⟨a0,cr,e,ad⟩:=Qu a.mo (bd.o _ HX.o.1.fr);cases e;obtain⟨g,rfl,f⟩:=ad (by omega);obtain⟨pv,rv,ep,er,tp,tr⟩:=HX.o.1.ft.get hj I;have gp:=f _ _ ep (by omega);have gr:=f _ _ er (by omega);have hC:=C.fu _ (XR hj);obtain⟨t,ht⟩:∃t,t=x.jk.getD j Qc.z:=⟨_,rfl⟩;rw[<- ht]at HR hC tp tr;obtain⟨pa,pc,rfl,_⟩:=tp.ms a;obtain⟨ra,rc,rfl,_⟩:=tr.ms a;have bb:=Hm tp;have ba:=Hm tr;have i5:(j:Int)<(N x.jk:Int):=by omega
 have d:=a.bxn #[S none 0 0,S none 0 0] 76 2 rfl;obtain⟨M,l⟩:∃M,M=w1.alloc (Fc #[S none 0 0,S none 0 0] 76):=⟨_,rfl⟩;obtain⟨B2,F⟩:∃B2,B2=w1.heap.size:=⟨_,rfl⟩;rw[<- l,<- F]at d;have a4:M.cell? ⟨g,j*2,none⟩=some (S pa (N t.ps) pc):=by rw[l];exact Qf gp
 have a3:M.cell? ⟨g,j*2+1,none⟩=some (S ra (N t.rs) rc):=by rw[l];exact Qf gr
 have z0:=d.mo.b0 0;have z1:=d.mo.b0 1;obtain⟨z0,y0⟩:=z0;obtain⟨z1,y1⟩:=z1;have u:=(d.setBox rfl 0 (S pa (N t.ps) pc)).setBox rfl 1 (S ra (N t.rs) rc);obtain⟨⟨cl,ck,cj,ci,ch⟩,v0,v1,v2,v3,v4,v5⟩:=bh.o _ M [_] d;clear ad f ep er tp tr ht gp gr a d;go_upto_region 33 with fail
 rw[<- l,<- F];clear l F q9;go_upto_region 37 with fail
 obtain⟨W3,ae⟩:∃W3,W3=(M.setCell ⟨B2,0,none⟩ (S pa (N t.ps) pc)).setCell ⟨B2,1,none⟩ (S ra (N t.rs) rc):=⟨_,rfl⟩;rw[<- ae]at u⊢;clear ae z0 z1 y0 y1 a4 a3;have z0:=(u.mo.b0 0).1;have L:=Hm (Xa _ t.ps u (bb.o.cons _) B.inv az a1 ay (by omega));have pk:=JI ⟨s,0⟩ t.ps;have Y:(Qq ⟨s,0⟩ t.ps).s.jj.length<=2199023255552:=Kq pk.ln (by show(N s.jj)<=_;omega);obtain⟨m4,ab⟩:∃m4,m4=Qq ⟨s,0⟩ t.ps:=⟨_,rfl⟩;rw[<- ab]at L Y HR;clear pk ab u;go_wp2_with fail
 refine L.o.mono ?_;rintro e w4 ⟨rfl,q⟩;have y1:=(q.mo.b0 1).1;obtain⟨co,cn,e,hh⟩:=Ty.ms (ba.o.cons _) q;cases e;have HD:=Hm (XM ra rc t.rs q hh (by omega) Y);clear q L hh;go_wp2_with fail
 refine HD.o.mono ?_;rintro e w9 ⟨rfl,af⟩;clear HD;obtain⟨po,⟨r5,cm⟩,A⟩:=af.pos;have bc:=Hm A;clear A af;go_wp2;go_end0;rw[HR.o];obtain⟨E,aa⟩:=bg.o;exact⟨rfl,[_]++E,by rw[Kv,<- aa];exact bc.o _⟩
theorem sstep_17 (j:Nat)(b v:Int)(y:List Int)(la:Option Ad)(lc:Nat)(H:P7 D w0 p lv nl ks s V x t ⟨17,(j:Int),b,v,y⟩ la lc)(f:Qp x frm s ⟨17,(j:Int),b,v,y⟩=0)(hj:j<N x.types):SpC D w0 p lv nl ks s V x t ⟨17,(j:Int),b,v,y⟩ la lc:=by
 obtain⟨h,hx,aw,B,C,au,HK⟩:=H;unfold SpC;obtain⟨ta,tc,fa,fc,ga,gc,bu,W,B_,rfl,hW,hB,hI⟩:=JH 17 (j:Int) b v y la lc h hx;have l:=Hm (HK hI (hx.sub (λr hr=>by simp[hr])));obtain⟨⟨d0,d1,d2,d3,d4⟩,c0,c1,c2,c3,c4,c5⟩:=MSt.ins (ns:=[]) hI;have HR:Hid (Qt x frm oty s ⟨17,(j:Int),b,v,y⟩=Xb (Qq (QD ⟨s,0⟩ 127).2 (x.types.getD j Qc.z).ps) (x.types.getD j Qc.z).rs):=by show Qt x frm oty s ⟨17,(j:Int),b,v,y⟩=_;rw[Qt,if_neg (λc=>c f)];simp[Q9,QW,mapp,mpopAll_127]
 rw[f]at l;have HX:=Hm (⟨hx,aw⟩:CtR D w0 x ⟨S ta (N x.types) tc,S fa (N x.jk) fc,S ga (N x.jx) gc,bu⟩ ks/\LoM lv ks (QM s));clear h hx aw hI HK f;go_enter func28,ntmps28;go_upto_region 1 with fail
 rw[<- hW,<- hB];clear hW hB;go_wp2_with fail
 refine l.o.mono ?_;rintro e w1 ⟨rfl,ns,a⟩;have q9:=a.err;dsimp only at q9;clear l d0 d1 d2 d3 d4 c0 c1 c2 c3 c4 c5;obtain⟨⟨d0,d1,d2,d3,d4⟩,c0,c1,c2,c3,c4,c5⟩:=a.ins;obtain⟨E,k⟩:∃E:List Qb,E=ns++(box 85 5 (B_+1) (inC 17 (j:Int) b v y la lc)::box 80 6 B_ [S ta (N x.types) tc,S fa (N x.jk) fc,S ga (N x.jx) gc,U O x.gw,U O x.jv,U O x.jz]::ks):=⟨_,rfl⟩;replace a:MSt D w0 p lv nl E ⟨s,0⟩ w1:=by rw[k];exact a
 have a3:Hid (∀(m':MS) (W':J) (ns':List Qb),MSt D w0 p lv nl (ns'++E) m' W'->X1 W' B_ 17 (j:Int) b v y la lc (S ta (N x.types) tc) (S fa (N x.jk) fc) (S ga (N x.jx) gc) (U O x.gw) (U O x.jv) (U O x.jz)):=λm' W' ns' h=>by rw[k,<- Kv]at h;exact h.ins
 have b4:Hid (∃F,E=F++ks):=⟨ns++[_,_],by rw[k,Kv];rfl⟩;have df:Hid (∀r∈ks,r∈E):=λr hr=>by rw[k];simp[hr]
 clear k;have ay:=B.bl;have ao:=B.st;obtain⟨a0,dd,e,bo⟩:=HX.o.1.ty;cases e;rcases bo with bn|⟨g,off,rfl,R,ax⟩
 . rw[bn]at hj;simp at hj
 obtain⟨pv,rv,ep,er,tp,tr⟩:=ax j hj;have hC:=C.ty _ (XR hj);obtain⟨t,ht⟩:∃t,t=x.types.getD j Qc.z:=⟨_,rfl⟩;rw[<- ht]at HR hC tp tr;replace tp:=tp.sub (ks':=E) (λr hr=>by cases hr);replace tr:=tr.sub (ks':=E) (λr hr=>by cases hr);obtain⟨pa,pc,rfl,_⟩:=tp.ms a;obtain⟨ra,rc,rfl,_⟩:=tr.ms a;have b2:=Hm tp;have b1:=Hm tr;have i5:(j:Int)<(N x.types:Int):=by omega
 have b5:Hid (∀{m':MS} {W':J} (L:List Qb),MSt D w0 p lv nl L m' W'->W'.cell? ⟨g,off+j*2,none⟩=some (S pa (N t.ps) pc)/\W'.cell? ⟨g,off+j*2+1,none⟩=some (S ra (N t.rs) rc)):=λL h=>⟨(h.mo.b.cell (p:=⟨g,off+j*2,none⟩) R).trans ep,(h.mo.b.cell (p:=⟨g,off+j*2+1,none⟩) R).trans er⟩;have q:=a.bxn #[S none 0 0,S none 0 0] 76 2 rfl;obtain⟨W2,Y⟩:∃W2,W2=w1.alloc (Fc #[S none 0 0,S none 0 0] 76):=⟨_,rfl⟩;obtain⟨B2,aa⟩:∃B2,B2=w1.heap.size:=⟨_,rfl⟩;rw[<- Y,<- aa]at q;obtain⟨⟨ai,ah,ag,af,ae⟩,v0,v1,v2,v3,v4,v5⟩:=a3.o _ W2 [_] q;have HP:=Hm (XJ 127 q B.inv au ay ao);have u:=XO ⟨s,0⟩ 127;have i1:=u.iv B.inv;have M:(QD ⟨s,0⟩ 127).2.s.cq≠[]:=by rw[u.bl];exact au
 have X:(QD ⟨s,0⟩ 127).2.s.cq.length<=1048577:=by rw[u.bl];exact ay
 have I:(QD ⟨s,0⟩ 127).2.s.jj.length<=1099511627776:=Kq u.ln ao;obtain⟨r1,aq⟩:∃r,r=QD ⟨s,0⟩ 127:=⟨_,rfl⟩;rw[<- aq]at HP i1 M X I HR;obtain⟨z1,m1⟩:=r1;dsimp only at HP i1 M X I HR;clear ax ep er tp tr ht a q u aq R;go_upto_region 33 with fail
 rw[<- Y,<- aa];clear Y aa q9;go_upto_region 35 with (go_at_call 85;refine HP.o.mono ?_;rintro e wp ⟨rfl,d⟩)
 clear ai ah ag af ae v0 v1 v2 v3 v4 v5 HP;obtain⟨⟨ai,ah,ag,af,ae⟩,v0,v1,v2,v3,v4,v5⟩:=a3.o _ wp [_] d;obtain⟨br,bq⟩:=b5.o _ d;have z0:=d.mo.b0 0;have z1:=d.mo.b0 1;obtain⟨z0,y0⟩:=z0;obtain⟨z1,y1⟩:=z1;have n:=(d.setBox rfl 0 (S pa (N t.ps) pc)).setBox rfl 1 (S ra (N t.rs) rc);clear d;go_upto_region 37 with fail
 obtain⟨W3,az⟩:∃W3,W3=(wp.setCell ⟨B2,0,none⟩ (S pa (N t.ps) pc)).setCell ⟨B2,1,none⟩ (S ra (N t.rs) rc):=⟨_,rfl⟩;rw[<- az]at n⊢;clear az z0 z1 y0 y1 br bq;have z0:=(n.mo.b0 0).1;have ab:=Hm (Xa _ t.ps n (b2.o.cons _) i1 M X I (by omega));have u:=JI m1 t.ps;have ap:(Qq m1 t.ps).s.jj.length<=2199023255552:=Kq u.ln (by omega);obtain⟨m4,av⟩:∃m4,m4=Qq m1 t.ps:=⟨_,rfl⟩;rw[<- av]at ab ap HR;clear u av n;go_wp2_with fail
 refine ab.o.mono ?_;rintro e w4 ⟨rfl,m⟩;have y1:=(m.mo.b0 1).1;obtain⟨da,c9,e,hh⟩:=Ty.ms (b1.o.cons _) m;cases e;have HD:=Hm (XM ra rc t.rs m hh (by omega) ap);clear m ab hh;go_wp2_with fail
 refine HD.o.mono ?_;rintro e w9 ⟨rfl,a1⟩;clear HD;obtain⟨po,⟨r5,c8⟩,A⟩:=a1.pos;have b3:=Hm A;clear A a1;go_wp2;go_end0;rw[HR.o];obtain⟨F,ar⟩:=b4.o;exact⟨rfl,[_]++F,by rw[Kv,<- ar];exact b3.o _⟩
theorem sstep_d (op a b v:Int)(R:List Int)(la:Option Ad)(lc:Nat)(H:P7 D w0 p lv nl ks s V x t ⟨op,a,b,v,R⟩ la lc)(m:Qp x frm s ⟨op,a,b,v,R⟩=0)(d:∀c∈[0,1,2,3,4,5,11,12,13,14,15,16,17,26,27,32,33,34,35,36],(op==c)=false):SpC D w0 p lv nl ks s V x t ⟨op,a,b,v,R⟩ la lc:=by
 obtain⟨h,hx,ab,B,C,a3,HK⟩:=H;unfold SpC;obtain⟨ta,tc,fa,fc,ga,gc,a8,W,B_,rfl,hW,hB,hI⟩:=JH op a b v R la lc h hx;have y:=Hm (HK hI (hx.sub (λr hr=>by simp[hr])));obtain⟨⟨d0,d1,d2,d3,d4⟩,c0,c1,c2,c3,c4,c5⟩:=MSt.ins (ns:=[]) hI;have HR:Hid (Qt x frm oty s ⟨op,a,b,v,R⟩=mapp ⟨s,0⟩ (oty op)):=by
  show Qt x frm oty s ⟨op,a,b,v,R⟩=_;rw[Qt,if_neg (λc=>c m)];have on:∀c∈[0,1,2,3,4,5,11,12,13,14,15,16,17,26,27,32,33,34,35,36],op≠c:=λc hc=>by have:=d c hc;simpa using this
  simp[Q9,QW,on 0 (by simp),on 2 (by simp),on 3 (by simp),on 4 (by simp),on 5 (by simp),on 11 (by simp),on 12 (by simp),on 13 (by simp),on 14 (by simp),on 15 (by simp),on 16 (by simp),on 17 (by simp),on 26 (by simp),on 27 (by simp),on 32 (by simp),on 33 (by simp),on 34 (by simp),on 35 (by simp),on 36 (by simp)]
 rw[m]at y;have HX:=Hm (⟨hx,ab⟩:CtR D w0 x ⟨S ta (N x.types) tc,S fa (N x.jk) fc,S ga (N x.jx) gc,a8⟩ ks/\LoM lv ks (QM s));clear h hx ab hI HK m;go_enter func28,ntmps28;go_upto_region 1 with fail
 rw[<- hW,<- hB];clear hW hB;go_wp2_with fail
 refine y.o.mono ?_;rintro e w1 ⟨rfl,ns,f⟩;have q9:=f.err;dsimp only at q9;clear y d0 d1 d2 d3 d4 c0 c1 c2 c3 c4 c5;obtain⟨⟨d0,d1,d2,d3,d4⟩,c0,c1,c2,c3,c4,c5⟩:=f.ins;obtain⟨E,n⟩:∃E:List Qb,E=ns++(box 85 5 (B_+1) (inC op a b v R la lc)::box 80 6 B_ [S ta (N x.types) tc,S fa (N x.jk) fc,S ga (N x.jx) gc,U O x.gw,U O x.jv,U O x.jz]::ks):=⟨_,rfl⟩;replace f:MSt D w0 p lv nl E ⟨s,0⟩ w1:=by rw[n];exact f
 have bd:Hid (∀(m':MS) (W':J) (ns':List Qb),MSt D w0 p lv nl (ns'++E) m' W'->X1 W' B_ op a b v R la lc (S ta (N x.types) tc) (S fa (N x.jk) fc) (S ga (N x.jx) gc) (U O x.gw) (U O x.jv) (U O x.jz)):=λm' W' ns' h=>by rw[n,<- Kv]at h;exact h.ins
 have bc:Hid (∃aa,E=aa++ks):=⟨ns++[_,_],by rw[n,Kv];rfl⟩;have cx:Hid (∀r∈ks,r∈E):=λr hr=>by rw[n];simp[hr]
 clear n;have a4:=B.bl;have a2:=B.st;have n0:=d 0 (by simp);have n1:=d 1 (by simp);have n2:=d 2 (by simp);have n3:=d 3 (by simp);have n4:=d 4 (by simp);have n5:=d 5 (by simp);have cv:=d 11 (by simp);have cu:=d 12 (by simp);have ct:=d 13 (by simp);have cs:=d 14 (by simp);have cr:=d 15 (by simp);have cp:=d 16 (by simp);have co:=d 17 (by simp);have cn:=d 26 (by simp);have cm:=d 27 (by simp);have cl:=d 32 (by simp);have ck:=d 33 (by simp);have cj:=d 34 (by simp);have ci:=d 35 (by simp);have ch:=d 36 (by simp);clear d;have HO:=Hm (stype_c op w1);have aw:=Hm (oty_len op);have ax:=Hm f;clear f;go_wp2_with fail
 refine HO.o.mono ?_;rintro e Y ⟨pv,rv,rfl,l,ap⟩;obtain⟨A,z,k,j,rfl,rfl⟩:=l.shape;have u:MSt D w0 p lv nl ([⟨2,1,(oty op).ps.length,S A (oty op).ps.length z,I (oty op).ps⟩,⟨2,1,(oty op).rs.length,S k (oty op).rs.length j,I (oty op).rs⟩]++E) ⟨s,0⟩ Y:=ax.o.new ap (Own.two l.hp l.hr (λi h1 h2=>l.ne i i h1 h2 rfl));obtain⟨t,ht⟩:∃t,t=oty op:=⟨_,rfl⟩;change MSt D w0 p lv nl ([⟨2,1,(oty op).ps.length,S A (oty op).ps.length z,I (oty op).ps⟩,⟨2,1,(oty op).rs.length,S k (oty op).rs.length j,I (oty op).rs⟩]++E) ⟨s,0⟩ Y at u;have av:(nz [(Qa op).a,(Qa op).b]).length=N t.ps:=by rw[ht]
 have au:(nz [(Qa op).g]).length=N t.rs:=by rw[ht]
 have ab:N t.ps<=2/\N t.rs<=1:=by rw[ht];exact aw.o
 rw[<- ht]at u HR;rw[av,au];clear ht l ap HO ax av au aw;obtain⟨⟨cc,cb,ca,b9,b8⟩,v0,v1,v2,v3,v4,v5⟩:=bd.o _ Y [_,_] u;have q:=u.bxn #[S A (N t.ps) z,S k (N t.rs) j] 76 2 rfl;have ae:Hid (Ty D w0 (box 76 2 Y.heap.size [S A (N t.ps) z,S k (N t.rs) j]::([⟨2,1,N t.ps,S A (N t.ps) z,I t.ps⟩,⟨2,1,N t.rs,S k (N t.rs) j,I t.rs⟩]++E)) (S A (N t.ps) z) t.ps):=.inr (by simp);have ad:Hid (Ty D w0 (box 76 2 Y.heap.size [S A (N t.ps) z,S k (N t.rs) j]::([⟨2,1,N t.ps,S A (N t.ps) z,I t.ps⟩,⟨2,1,N t.rs,S k (N t.rs) j,I t.rs⟩]++E)) (S k (N t.rs) j) t.rs):=.inr (by simp);obtain⟨L9,aq⟩:∃L:List Qb,L=[⟨2,1,N t.ps,S A (N t.ps) z,I t.ps⟩,⟨2,1,N t.rs,S k (N t.rs) j,I t.rs⟩]:=⟨_,rfl⟩;rw[<- aq]at q ae ad;go_upto_region 5 with fail
 obtain⟨W3,ac⟩:∃W3,W3=Y.alloc (Fc #[S A (N t.ps) z,S k (N t.rs) j] 76):=⟨_,rfl⟩;obtain⟨B2,M⟩:∃B2,B2=Y.heap.size:=⟨_,rfl⟩;rw[<- ac,<- M]at q;rw[<- M]at ae ad;rw[<- ac,<- M];clear ac M u aq;have z0:=(q.mo.b0 0).1;have af:=Hm (Xa _ t.ps q ae.o B.inv a3 a4 a2 (by omega));have pk:=JI ⟨s,0⟩ t.ps;have aj:(Qq ⟨s,0⟩ t.ps).s.jj.length<=2199023255552:=Kq pk.ln (by show(N s.jj)<=_;omega);rw[mapp]at HR;obtain⟨m4,ao⟩:∃m4,m4=Qq ⟨s,0⟩ t.ps:=⟨_,rfl⟩;rw[<- ao]at af aj HR;clear pk ao q;go_wp2_with fail
 refine af.o.mono ?_;rintro e w4 ⟨rfl,F⟩;have y1:=(F.mo.b0 1).1;obtain⟨cf,ce,e,hh⟩:=Ty.ms ad.o F;cases e;have HD:=Hm (XM k j t.rs F hh (by omega) aj);clear F af hh;go_wp2_with fail
 refine HD.o.mono ?_;rintro e w9 ⟨rfl,ar⟩;clear HD;obtain⟨po,⟨r5,cd⟩,X⟩:=ar.pos;have bb:=Hm X;clear X ar;go_wp2;go_end0;rw[HR.o];obtain⟨aa,ak⟩:=bc.o;exact⟨rfl,(_::L9)++aa,by rw[Kv,<- ak];exact bb.o _⟩
theorem sask_c (y:In)(g:Option Ad)(f:Nat)(q:nl=Xj s)(Y:InB y)(tL:Ty D w0 [] (S g (N y.l) f) y.l):AskC D w0 p lv nl x t s y g f:=by
 intro ks V h k;obtain⟨d,a,b,v,j⟩:=y;obtain⟨r,A,u,z⟩:=Y;dsimp only at r A u z tL;by_cases X:d=12
 . subst X;exact sask_12 (m:=⟨s,0⟩) a b v j g f h k rfl
 by_cases R:d=13
 . subst R;exact sask_13 (m:=⟨s,0⟩) a b v j g f h k rfl
 by_cases M:d=14
 . subst M;exact sask_14 (m:=⟨s,0⟩) a b v j g f h k rfl tL (by omega)
 by_cases L:d=16
 . subst L;exact sask_16 (m:=⟨s,0⟩) a b v j g f h k rfl
 by_cases I:d=17
 . subst I;exact sask_17 (m:=⟨s,0⟩) a b v j g f h k rfl
 by_cases H:d=32
 . subst H;exact sask_32 (m:=⟨s,0⟩) a b v j g f h k rfl q
 by_cases F:d=33
 . subst F;exact sask_33 (m:=⟨s,0⟩) a b v j g f h k rfl q
 by_cases E:d=34
 . subst E;exact sask_34 (m:=⟨s,0⟩) a b v j g f h k rfl q
 by_cases C:d=35
 . subst C;exact sask_35 (m:=⟨s,0⟩) a b v j g f h k rfl
 by_cases B:d=36
 . subst B;obtain⟨n,rfl⟩:∃n:Nat,a=n:=⟨a.toNat,by omega⟩;exact sask_36 (m:=⟨s,0⟩) n b v j g f h k rfl
 have o:∀c∈[12,13,14,16,17,32,33,34,35,36],(d==c)=false:=λc hc=>by simp only[beq_eq_false_iff_ne];simp at hc;rcases hc with rfl|rfl|rfl|rfl|rfl|rfl|rfl|rfl|rfl|rfl<;>assumption
 by_cases f5:frm d=5
 . exact sask_m (m:=⟨s,0⟩) d a b v j g f h k rfl o f5 r
 by_cases f6:frm d=6
 . exact sask_z (m:=⟨s,0⟩) d a b v j g f h k rfl o f6
 exact sask_o (m:=⟨s,0⟩) d a b v j g f h k rfl o f5 f6
theorem ask_has (h:Qp x frm s y=0):Qk x frm s y=true:=by
 unfold Qp at h;split at h
 . cases h
 rename_i c;simpa using c
theorem sstep_c (y:In)(n:Option Ad)(m:Nat)(h:MSt D w0 p lv nl ks ⟨s,0⟩ V)(q:CtR D w0 x t ks)(g:LoM lv ks (QM s))(H:nl=Xj s)(B:Bd s)(C:CxB x)(f:s.cq≠[])(Y:InB y)(F:Ty D w0 [] (S n (N y.l) m) y.l):Ec Q 28 #[cxV x t,Yp (some ⟨p,0,none⟩),inV y n m] V λe w'=>e=Z (.tuple #[])/\∃ns,MSt D w0 p lv nl (ns++ks) (Qt x frm oty s y) w':=by
 have r:AskC D w0 p lv nl x t s y n m:=sask_c y n m H Y F;obtain⟨o,a,b,v,k⟩:=y;obtain⟨A,z,I,E⟩:=Y;dsimp only at A z I E F;by_cases d:Qp x frm s ⟨o,a,b,v,k⟩=0;case neg=>exact sstep_bad o a b v k n m ⟨h,q,g,B,C,f,r⟩ d
 have u:=ask_has d;obtain⟨j,rfl⟩:∃j:Nat,a=j:=⟨a.toNat,by omega⟩;by_cases h0:o=0
 . subst h0;exact sstep_0 j b v k n m ⟨h,q,g,B,C,f,r⟩ d
 by_cases h1:o=1
 . subst h1;exact sstep_1 j b v k n m ⟨h,q,g,B,C,f,r⟩ d
 by_cases h2:o=2
 . subst h2;exact sstep_2 j b v k n m ⟨h,q,g,B,C,f,r⟩ d
 by_cases h3:o=3
 . subst h3;exact sstep_3 j b v k n m ⟨h,q,g,B,C,f,r⟩ d
 by_cases h4:o=4
 . subst h4;exact sstep_4 j b v k n m ⟨h,q,g,B,C,f,r⟩ d
 by_cases h5:o=5
 . subst h5;exact sstep_5 j b v k n m ⟨h,q,g,B,C,f,r⟩ d
 by_cases aj:o=11
 . subst aj;exact sstep_11 j b v k n m ⟨h,q,g,B,C,f,r⟩ d
 by_cases ai:o=12
 . subst ai;(have e:Qk x frm s ⟨12,j,b,v,k⟩=decide ((j:Int)<N s.cq):=by simp[Qk,show frm 12=2 by decide +kernel]);rw[e]at u;simp at u;exact sstep_12 j b v k n m ⟨h,q,g,B,C,f,r⟩ d u
 by_cases ah:o=13
 . subst ah;(have e:Qk x frm s ⟨13,j,b,v,k⟩=decide ((j:Int)<N s.cq):=by simp[Qk,show frm 13=2 by decide +kernel]);rw[e]at u;simp at u;exact sstep_13 j b v k n m ⟨h,q,g,B,C,f,r⟩ d u
 by_cases ag:o=14
 . subst ag;(have e:Qk x frm s ⟨14,j,b,v,k⟩=(k.all (λi=>decide (i<(N s.cq:Int)))&&decide ((j:Int)<N s.cq)):=by simp only[Qk,show frm 14=3 by decide +kernel];simp);rw[e]at u;simp only[Ky,Hf,decide_eq_true_eq]at u;exact sstep_14 j b v k n m ⟨h,q,g,B,C,f,r⟩ d (by omega) F (by omega) (λi hi=>⟨E i hi,u.1 i hi⟩)
 by_cases af:o=15
 . subst af;exact sstep_15 j b v k n m ⟨h,q,g,B,C,f,r⟩ d
 by_cases ae:o=16
 . subst ae;(have e:Qk x frm s ⟨16,j,b,v,k⟩=decide ((j:Int)<N x.jk):=by simp[Qk,show frm 16=2 by decide +kernel]);rw[e]at u;simp at u;exact sstep_16 j b v k n m ⟨h,q,g,B,C,f,r⟩ d u
 by_cases ad:o=17
 . subst ad;(have e:Qk x frm s ⟨17,j,b,v,k⟩=(decide (0<x.jv)&&decide ((j:Int)<N x.types)):=by simp[Qk,show frm 17=4 by decide +kernel]);rw[e]at u;simp at u;exact sstep_17 j b v k n m ⟨h,q,g,B,C,f,r⟩ d u.2
 by_cases ac:o=26
 . subst ac;exact sstep_26 j b v k n m ⟨h,q,g,B,C,f,r⟩ d
 by_cases ab:o=27
 . subst ab;exact sstep_27 j b v k n m ⟨h,q,g,B,C,f,r⟩ d
 by_cases aa:o=32
 . subst aa;exact sstep_32 j b v k n m ⟨h,q,g,B,C,f,r⟩ d A z
 by_cases X:o=33
 . subst X;exact sstep_33 j b v k n m ⟨h,q,g,B,C,f,r⟩ d A z
 by_cases R:o=34
 . subst R;exact sstep_34 j b v k n m ⟨h,q,g,B,C,f,r⟩ d A z
 by_cases M:o=35
 . subst M;(have e:Qk x frm s ⟨35,j,b,v,k⟩=decide ((j:Int)<N x.jx):=by simp[Qk,show frm 35=2 by decide +kernel]);rw[e]at u;simp at u;exact sstep_35 j b v k n m ⟨h,q,g,B,C,f,r⟩ d u
 by_cases L:o=36
 . subst L;(have e:Qk x frm s ⟨36,j,b,v,k⟩=decide ((j:Int)<N x.jx):=by simp[Qk,show frm 36=2 by decide +kernel]);rw[e]at u;simp at u;exact sstep_36 j b v k n m ⟨h,q,g,B,C,f,r⟩ d u
 exact sstep_d o j b v k n m ⟨h,q,g,B,C,f,r⟩ d (fun c hc=>by
  simp only[beq_eq_false_iff_ne]
  simp at hc
  rcases hc with rfl | rfl | rfl | rfl | rfl | rfl | rfl | rfl | rfl | rfl | rfl | rfl | rfl | rfl | rfl | rfl | rfl | rfl | rfl | rfl <;> assumption)
theorem nst_top (h:(nst s).getLast?=some true):(top s).op=4:=by
 have a:s.cq≠[]:=λe=>by simp[nst,e]at h
 obtain⟨c,b⟩:=JN a;rw[nst,b]at h;simpa using h
def bodyR (r:Except (Int × Nat) Fn):Int × Nat:=match r with|.error e=>e|.ok _=>(0,0)
theorem sbody_c {D w0 ks V}(T:Qc)(pv rv:Vu)(ga:Option Ad)(gc:Nat)(gs:List Grp)(a:Option Ad)(c:Nat)(xs:List In)(hm:Mo D w0 ks V)(hx:CtR D w0 x t ks)(tp:Ty D w0 [] pv T.ps)(tr:Ty D w0 [] rv T.rs)(hg:GrL D w0 ga gs)(b5:N T.ps<=1048577)(ae:N gs<=1048577)(hs:∀k,k<=N gs->0<=QJ (gs.take k)/\QJ (gs.take k)<=4503599627370496*4) (B:Bd (fn0 T gs)) (C:CxB x) (hL:InL D w0 a xs) (hI:∀y∈xs,InB y) (c7:N xs<=1048576) (bl:goM (nst (fn0 T gs)) xs=true):Ec Q 136 #[cxV x t,Ag #[pv,rv],S ga (N gs) gc,S a (N xs) c] V λe w'=>e=Z (.tuple #[U O (bodyR (QL x frm oty (fn0 T gs) 0 xs)).1,U O (bodyR (QL x frm oty (fn0 T gs) 0 xs)).2])/\Mo D w0 ks w':=by
 obtain⟨M,hM⟩:∃M,M=QL x frm oty (fn0 T gs) 0 xs:=⟨_,rfl⟩;rw[<- hM];obtain⟨ta,tc,fa,fc,I,H,et,ef,eg⟩:=hx.shape hm;obtain⟨tv,fv,gv,da⟩:=t;dsimp only at et ef eg;subst et ef eg;obtain⟨pa,pc,rfl,_⟩:=tp.shape hm (λr A=>by cases A);obtain⟨ra,rc,rfl,_⟩:=tr.shape hm (λr A=>by cases A);obtain⟨q,hq⟩:∃q,q=V.heap.size:=⟨_,rfl⟩;obtain⟨W,hW⟩:∃W,W=(V.alloc (Fc #[S ta (N x.types) tc,S fa (N x.jk) fc,S I (N x.jx) H,U O x.gw,U O x.jv,U O x.jz] 80)).alloc (Fc #[S pa (N T.ps) pc,S ra (N T.rs) rc] 76):=⟨_,rfl⟩;obtain⟨L0,v⟩:∃L0:List Qb,L0=box 76 2 (q+1) [S pa (N T.ps) pc,S ra (N T.rs) rc]::box 80 6 q [S ta (N x.types) tc,S fa (N x.jk) fc,S I (N x.jx) H,U O x.gw,U O x.jv,U O x.jz]::ks:=⟨_,rfl⟩;have ad:Mo D w0 L0 W:=by have:=(hm.box (cur:=#[S ta (N x.types) tc,S fa (N x.jk) fc,S I (N x.jx) H,U O x.gw,U O x.jv,U O x.jz]) 80 6 rfl).box (cur:=#[S pa (N T.ps) pc,S ra (N T.rs) rc]) 76 2 rfl;rw[hW,v,hq];simpa using this
 have CL:Hid (∀{ns:List Qb} {W':J},Mo D w0 (ns++L0) W'->W'.cell? ⟨q,0,none⟩=some (S ta (N x.types) tc)/\W'.cell? ⟨q,1,none⟩=some (S fa (N x.jk) fc)/\W'.cell? ⟨q,2,none⟩=some (S I (N x.jx) H)/\W'.cell? ⟨q,3,none⟩=some (U O x.gw)/\W'.cell? ⟨q,4,none⟩=some (U O x.jv)/\W'.cell? ⟨q,5,none⟩=some (U O x.jz)):=λh=>by rw[v]at h;have z:=λ(j:Nat) (u:Vu) (hj:j<6) (hu:[Tv ta (N x.types) tc,S fa (N x.jk) fc,S I (N x.jx) H,U O x.gw,U O x.jv,U O x.jz][j]?=some u)=>(h.bx (t:=80) (n:=6) (g:=q) (cs:=[S ta (N x.types) tc,S fa (N x.jk) fc,S I (N x.jx) H,U O x.gw,U O x.jv,U O x.jz]) (by simp) j hj hu).1;exact⟨z 0 _ (by omega) rfl,z 1 _ (by omega) rfl,z 2 _ (by omega) rfl,z 3 _ (by omega) rfl,z 4 _ (by omega) rfl,z 5 _ (by omega) rfl⟩
 have e0:W.cell? ⟨q+1,0,none⟩=some (S pa (N T.ps) pc):=by have h:=ad;rw[v]at h;exact(h.b0 0).1
 have e1:W.cell? ⟨q+1,1,none⟩=some (S ra (N T.rs) rc):=by have h:=ad;rw[v]at h;exact(h.b0 1).1
 have br:=Hm (sbegin_c T _ _ ga gc gs ad tp tr hg b5 ae hs);have cc:Hid (∀r∈ks,r∈L0):=λr A=>by rw[v];simp[A]
 have bq:Hid (∀{ns:List Qb} {W':J},Mo D w0 (ns++L0) W'->Mo D w0 ks W'):=λh=>by have:=h.right;rw[v]at this;exact this.tail.tail
 have ca:=Hm hx;have HL:=Hm hL;have bo:=Hm hI;have ax:=Hm hM;have a3:=Hm (⟨B,bl⟩:Bd (fn0 T gs)/\goM (nst (fn0 T gs)) xs=true);clear hm ad hx tp tr hg hs B hL hI bl hM v;go_enter func136,ntmps136;go_upto_region 1 with fail
 rw[<- hW,<- hq];clear hW hq;go_wp2_with fail
 refine br.o.mono ?_;rintro e w1 ⟨p,lv,E,rfl,m,ai⟩;have bp:=Hm m;have cd:=Hm ai;clear m ai br e0 e1;go_wp2_with fail
 go_loopw [11] (λi wr=>∃(k:Nat) (d:Fn) (ns:List Qb),k<=N xs/\i=U O k/\MSt D w0 p lv (Xj (fn0 T gs)) (ns++(E++L0)) ⟨d,0⟩ wr/\Bd d/\N d.cq<=k+1/\N d.jj<=k*1048576/\d.ps=(fn0 T gs).ps/\d.gq=(fn0 T gs).gq/\goM (nst d) (xs.drop k)=true/\M=QL x frm oty d k (xs.drop k)) (λi _=>N xs-(intOf i).toNat)
 case atStart=>exact⟨0,fn0 T gs,[],Kw _,rfl,bp.o,a3.o.1,lRz,lRz,rfl,rfl,a3.o.2,ax.o⟩
 obtain⟨k,d,ns,hk,rfl,m,B1,ap,ak,e1,e2,s,F⟩:=hrel;obtain⟨dm,dl,dk,dj,di,dh⟩:=CL.o (ns:=ns++E) (by rw[Kv];exact m.mo);by_cases X:k<N xs
 . (have c8:(k:Int)<(N xs:Int):=by omega);rcases HL.o with hx|⟨b,off,b9,hb,hc⟩
   . subst hx;simp at X
   obtain⟨la,lc,c0,c1,c2,c3,c4,tL⟩:=hc k X;have af:=bo.o (xs.getD k I0) (by simp[Kx,X]);rw[JP xs k X]at s;have bg:=m.mo.b;have kp:=λ(o:Nat) (u:Vu) (hu:w0.cell? ⟨b,o,none⟩=some u)=>(bg.cell (p:=⟨b,o,none⟩) hb).trans hu;have d0:=kp _ _ c0;have d1:=kp _ _ c1;have d2:=kp _ _ c2;have d3:=kp _ _ c3;have d4:=kp _ _ c4;rw[Gs x frm oty d xs k X]at F;obtain⟨y,hy⟩:∃y,y=xs.getD k I0:=⟨_,rfl⟩;rw[<- hy]at d0 d1 d2 d3 d4 tL af s F;have ao:gd y=true:=by
    by_cases e:gd y=true
    . exact e
    simp[goM,e]at s
   obtain⟨n',l,aj⟩:∃n',QB (nst d) y.op=some n'/\goM n' (xs.drop (k+1))=true:=by
    cases hsm:QB (nst d) y.op with
    |none=>simp[goM,ao,hsm]at s
    |some n'=>exact⟨n',rfl,by simpa[goM,ao,hsm]using s⟩
   have ac:d.cq≠[]:=λe=>by simp[QB,nst,e]at l
   have h4:y.op=5->(top d).op=4:=λe=>by
    apply nst_top;rw[e]at l;unfold QB at l;split at l
    . cases l
    simp at l;exact l.1
   (have ae:QM d=QM (fn0 T gs):=by simp[QM,e1,e2]);(have bf:Xj (fn0 T gs)=Xj d:=by simp[Xj,e1,e2]);have cb:=Hm (sstep_c y la lc (m.drewN 1) (ca.o.sub (λr A=>mR (mR (cc.o r A)))) (by rw[ae];exact mR cd.o) bf B1 C ac af tL);have au:=Hm (mstep_rf x frm oty d y B1.inv ac h4);have HK:=Hm (λs' (hs':step x frm oty d y=.ok s')=>step_kp hs' C B1 ac af.a0 l);have a2:=Hm (λs' n (K:Kp d s' n)=>bd_next B1 K (k:=k) (by omega) ap ak);have ah:=Hm F;have ay:=Hm aj;have a1:=Hm e1;have az:=Hm e2;clear m B1 ap ak e1 e2 s F hc c0 c1 c2 c3 c4 tL af hy ao l ac bg kp aj ax ae bf h4 a3 bp;subst b9;go_wp2_with fail
   go_region_law (first
    | (
     go_simp
     go_at_call 28
     refine cb.o.mono ?_
     rintro e w2 ⟨rfl,ab,aq⟩;have q9:=aq.err;have Y:=Hm aq;clear aq))
   all_goals
    rcases au.o with ⟨L,A,R⟩|⟨f,A,R,bj⟩
    . have aa:Hid (M=QL x frm oty L (k+1) (xs.drop (k+1))):=by show M=_;rw[ah.o,A]
      have K:=HK.o L A;obtain⟨B2,bm,bd⟩:=a2.o L _ K;have av:Hid (L.ps=(fn0 T gs).ps/\L.gq=(fn0 T gs).gq/\goM (nst L) (xs.drop (k+1))=true):=⟨K.ps.trans a1.o,K.gq.trans az.o,by rw[K.nst];exact ay.o⟩;rw[R]at Y q9
      dsimp only at q9
      have cf:Hid (MSt D w0 p lv (Xj (fn0 T gs)) ((ab++ns)++(E++L0)) ⟨L,0⟩ w2):=by
       show MSt D w0 p lv (Xj (fn0 T gs)) ((ab++ns)++(E++L0)) ⟨L,0⟩ w2
       rw[Kv];exact Y.o
      have a4:=Hm (⟨B2,bm,bd⟩:Bd L/\N L.cq<=k+1+1/\N L.jj<=(k+1)*1048576);clear A K B2 bm bd Y HK a2 ah ay a1 az R au
      go_wp2
      go_roundw
      case rel=>exact⟨k+1,L,ab++ns,by omega,by go_num,cf.o,a4.o.1,a4.o.2.1,a4.o.2.2,av.o.1,av.o.2.1,av.o.2.2,aa.o⟩
      case measure=>simp[intOf];omega
    . have aa:Hid (M=.error (f,k)):=by show M=_;rw[ah.o,A]
      rw[R]at q9;have k0:(f != 0)=true:=by simpa using bj
      have aw:Hid (Mo D w0 ks w2):=bq.o (ns:=ab++(ns++E)) (by simpa[Kv]using Y.o.mo);clear A Y HK a2 ah ay a1 az R au bj
      go_wp2
      go_ret2
      exact⟨by rw[aa.o];rfl,aw.o⟩
 have e:k=N xs:=by omega
 subst e;have aa:Hid (M=.ok d):=by show M=_;rw[F,Hz lRz];rfl
 have aw:Hid (Mo D w0 ks wr):=bq.o (ns:=ns++E) (by rw[Kv];exact m.mo);clear m B1 ap ak e1 e2 s F HL bo ax;go_wp2;go_ret2
 exact⟨by rw[aa.o];rfl,aw.o⟩
def lstR (r:Except (Int × Nat) (List Int)):Int × Nat:=match r with|.error e=>e|.ok _=>(0,0)
theorem goM_nil (n:List Bool)(h:goM n []=true):n=[]:=by simpa[goM]using h
theorem goM_empty {xs:List In}(h:goM [] xs=true):xs=[]:=by
 cases xs with
 |nil=>rfl
 |cons y ys =>
  rw[goM]at h
  split at h
  · simp[QB]at h
  . cases h
theorem goM_const {b:List In}(h:goM [false] (y::b)=true)(a:y.op≠11)(c:(65<=y.op/\y.op<=68)\/y.op=35):goM [false] b=true:=by
 rw[goM]at h;split at h
 . (have e:QB [false] y.op=some [false]:=by unfold QB;rw[if_neg (by simp),if_neg (by omega),if_neg (by omega),if_neg (by omega),if_neg a]);rw[e]at h;exact h
 cases h
theorem goM_end {b:List In}(h:goM [false] (y::b)=true)(a:y.op=11):b=[]:=by
 rw[goM]at h;split at h
 . rw[a]at h;simp[QB]at h;exact goM_empty h
 cases h
theorem slist_c {D w0 ks V}(a:Option Ad)(c:Nat)(xs:List In)(want:Int)(hm:Mo D w0 ks V)(hx:CtR D w0 x t ks)(hL:InL D w0 a xs)(ai:N xs<=1048576)(hI:∀y∈xs,InB y)(hi:x.gw<=N x.jx)(A:QF xs=true):Ec Q 132 #[cxV x t,S a (N xs) c,U O want] V λe w'=>e=Z (.tuple #[U O (lstR (QU x x.gw want [] 0 xs)).1,U O (lstR (QU x x.gw want [] 0 xs)).2])/\Mo D w0 ks w':=by
 obtain⟨M,hM⟩:∃M,M=QU x x.gw want [] 0 xs:=⟨_,rfl⟩;rw[<- hM];obtain⟨H,F,fa,fc,ga,gc,et,ef,eg⟩:=hx.shape hm;obtain⟨tv,fv,gv,ba⟩:=t;dsimp only at et ef eg;subst et ef eg;obtain⟨q,hq⟩:∃q,q=V.heap.size:=⟨_,rfl⟩;obtain⟨W,hW⟩:∃W,W=V.alloc (Fc #[S H (N x.types) F,S fa (N x.jk) fc,S ga (N x.jx) gc,U O x.gw,U O x.jv,U O x.jz] 80):=⟨_,rfl⟩;have L:Mo D w0 (box 80 6 q (cx6 x H F fa fc ga gc)::ks) W:=by have:=hm.box (cur:=#[S H (N x.types) F,S fa (N x.jk) fc,S ga (N x.jx) gc,U O x.gw,U O x.jv,U O x.jz]) 80 6 rfl;rw[hW,hq];simpa using this
 have HX:=Hm (hx.sub (ks':=box 80 6 q (cx6 x H F fa fc ga gc)::ks) (λr hr=>by simp[hr]));have ax:=Hm L;have HL:=Hm hL;have HI:=Hm hI;have ay:=Hm hM;have ap:0<N xs:=by
  cases xs with
  |nil=>cases(goM_nil _ A)
  |cons y ys=>simp
 have a0:=Hm A;clear hm L hx hL hI hM A;go_enter func132,ntmps132;go_upto_region 1 with fail
 rw[<- hW,<- hq];clear hW hq;go_wp2_with fail
 go_loopw [8] (λi wr=>∃k:Nat,k<=N xs/\i=U O k/\Mo D w0 (box 80 6 q (cx6 x H F fa fc ga gc)::ks) wr/\((k=N xs/\∃g,M=.ok g)\/(k<N xs/\goM [false] (xs.drop k)=true/\M=QU x x.gw want ((xs.take k).map (ctyM x)) k (xs.drop k)/\(k=1->cgood x (xs.getD 0 I0))))) (λi _=>N xs-(intOf i).toNat)
 case atStart=>exact⟨0,Kw _,rfl,ax.o,.inr ⟨ap,a0.o,ay.o,λh=>by cases h⟩⟩
 obtain⟨k,hk,rfl,b,hr⟩:=hrel;have x0:=(b.b0 0).1;have x1:=(b.b0 1).1;have x2:=(b.b0 2).1;have x3:=(b.b0 3).1;have x4:=(b.b0 4).1;have x5:=(b.b0 5).1;have p:=Hm b;rcases hr with ⟨rfl,g,aa⟩|⟨l,z,C,Y⟩
 . have HE:=Hm aa;clear b aa;go_wp2;(go_ret2);exact⟨by rw[HE.o];rfl,p.o.tail⟩
 have a8:(k:Int)<(N xs:Int):=by omega
 have HC:=Hm (sconst_c a c xs k want b HX.o HL.o l ai HI.o Y hi);obtain⟨y,I⟩:∃y,y=xs.getD k I0:=⟨_,rfl⟩;have B:=cst_eq (x:=x) (want:=want) I l rfl;rw[listC_drop x x.gw want _ xs k l,<- I]at C;rw[JP xs k l,<- I]at z;obtain⟨E,hE⟩:∃E,E=constE x xs k want:=⟨_,rfl⟩;rw[<- hE]at HC B;have HY:=Hm I;have n:=Hm z;have j:=Hm C;have s:=Hm B;clear b z C Y I B hE;rcases s.o with ⟨v,h2,u,h4⟩|⟨v,h2,u⟩|⟨f,v,h2,u⟩
 . subst h2;have d:=goM_const n.o u (h4.imp id (λh=>h.1));have R:k+1<N xs:=by
    by_cases e:k+1<N xs
    . exact e
    rw[Hz (by omega)]at d;cases(goM_nil _ d)
   have HN:Hid (k+1<N xs/\goM [false] (xs.drop (k+1))=true/\M=QU x x.gw want ((xs.take (k+1)).map (ctyM x)) (k+1) (xs.drop (k+1))/\(k+1=1->cgood x (xs.getD 0 I0))):=by
    refine⟨R,d,?_,λe=>?_⟩
    . rw[j.o,v,JG xs k I0 l,Tf,HY.o];rfl
    (have:k=0:=by omega);subst this;rw[<- HY.o];exact h4
   clear v u h4 d j n s HY;(go_wp2_with (go_at_call 192;refine HC.o.mono ?_;rintro e w2 ⟨rfl,m⟩));(go_roundw);(case rel=>exact⟨k+1,by omega,by go_num,p.o.keep m,.inr HN.o⟩);case measure=>simp[intOf];omega
 . subst h2;have hd:=goM_end n.o u;(have X:k+1=N xs:=by have:=congrArg List.length hd;simp at this;omega);have HN:Hid (k+1=N xs/\∃g,M=.ok g):=⟨X,_,by rw[j.o,v,hd];rfl⟩;clear v u hd j n s HY;(go_wp2_with (go_at_call 192;refine HC.o.mono ?_;rintro e w2 ⟨rfl,m⟩));(go_roundw);(case rel=>exact⟨k+1,by omega,by go_num,p.o.keep m,.inl HN.o⟩);case measure=>simp[intOf];omega
 subst h2;have HE:Hid (M=.error (E,k)):=by show M=_;rw[j.o,v]
 have n0:(E != 0)=true:=by simpa using u
 clear v u j n s HY;go_wp2_with (go_at_call 192;refine HC.o.mono ?_;rintro e w2 ⟨rfl,m⟩)
 go_ret2
 exact⟨by rw[HE.o];rfl,(p.o.keep m).tail⟩
def startE (x:Ctx)(i:Int):Int:=if i<N x.jk then(if(x.jk.getD i.toNat Qc.z).ps=[]/\(x.jk.getD i.toNat Qc.z).rs=[]then 0 else 6)else 2
theorem sstart_c {D w0 ks V}(l:Mo D w0 ks V)(s:CtR D w0 x t ks)(h0:0<=md.start)(C:CxB x):Ec Q 134 #[cxV x t,mdV md A] V λe w'=>e=Z (U O (startE x md.start))/\Bw V.heap.size V w':=by
 obtain⟨R,M,fa,fc,ga,gc,et,ef,eg⟩:=s.shape l;obtain⟨tv,fv,gv,ax⟩:=t;dsimp only at et ef eg;subst et ef eg;obtain⟨n,v⟩:∃n:Nat,md.start=n:=⟨md.start.toNat,by omega⟩;obtain⟨W,j⟩:∃W,W=(V.alloc (Fc #[S R (N x.types) M,S fa (N x.jk) fc,S ga (N x.jx) gc,U O x.gw,U O x.jv,U O x.jz] 80)).alloc (Fc (mdC md A) 48):=⟨_,rfl⟩;obtain⟨q,k⟩:∃q,q=V.heap.size:=⟨_,rfl⟩;have f:Mo D w0 (box 48 13 (q+1) (mdC md A).toList::box 80 6 q (cx6 x R M fa fc ga gc)::ks) W:=by have:=(l.box (cur:=#[S R (N x.types) M,S fa (N x.jk) fc,S ga (N x.jx) gc,U O x.gw,U O x.jv,U O x.jz]) 80 6 rfl).box (cur:=mdC md A) 48 13 rfl;rw[j,k];simpa using this
 have e8:W.cell? ⟨q+1,8,none⟩=some (U O (n:Int)):=by rw[<- v];exact(f.b0 8).1
 have c1:=(f.tail.b0 1).1;have HB:Hid (Bw V.heap.size V W):=by show Bw V.heap.size V W;rw[j];exact(bFz.alloc lRz _).alloc (by simp) _
 rw[v];obtain⟨E,c⟩:∃E,E=startE x (n:Int):=⟨_,rfl⟩;rw[<- c];unfold startE at c;rw[Int.toNat_natCast]at c;by_cases y:n<N x.jk
 . (have k1:¬((N x.jk:Int)<=(n:Int)):=by omega);(have i5:(n:Int)<(N x.jk:Int):=by omega);rw[if_pos i5]at c;obtain⟨a0,ay,e,m⟩:=Qu f (mC (mC s.fr));cases e;obtain⟨g,rfl,b⟩:=m (by omega);obtain⟨pv,rv,ep,er,I,H⟩:=s.ft.get y ks;have gp:=b _ _ ep (by omega);have gr:=b _ _ er (by omega);have Y:=C.fu _ (XR y);obtain⟨T,X⟩:∃T,T=x.jk.getD n Qc.z:=⟨_,rfl⟩;rw[<- X]at I H Y c;obtain⟨pa,pc,rfl,_⟩:=I.shape l (λr hr=>hr);obtain⟨ra,rc,rfl,_⟩:=H.shape l (λr hr=>hr);(have hw:IntKind.i64.wrap ((N T.ps:Int)+(N T.rs:Int))=(N T.ps:Int)+(N T.rs:Int):=by rw[Kz];omega);obtain⟨u,a⟩:∃u,u=W.alloc (Fc #[S pa (N T.ps) pc,S ra (N T.rs) rc] 76):=⟨_,rfl⟩;obtain⟨L,d⟩:∃L,L=W.heap.size:=⟨_,rfl⟩;(have z0:u.cell? ⟨L,0,none⟩=some (S pa (N T.ps) pc):=by rw[a,d];exact Qe rfl rfl);(have z1:u.cell? ⟨L,1,none⟩=some (S ra (N T.rs) rc):=by rw[a,d];exact Qe rfl rfl);(have F:Hid (Bw V.heap.size V u):=by show Bw V.heap.size V u;rw[a];exact HB.o.alloc HB.o.size _);by_cases p:T.ps=[]/\T.rs=[]
   . rw[if_pos p]at c;(have k2:¬((0:Int)<(N T.ps:Int)+(N T.rs:Int)):=by rw[p.1,p.2];simp);have B:=Hm c;clear l f s c I H m b ep er X p v Y;go_enter func134,ntmps134;(go_upto_region 1 with fail);rw[<- j,<- k];clear j k;(go_upto_region 4 with fail);rw[<- a,<- d];clear a d;go_wp2;go_ret;rw[B.o];exact⟨rfl,F.o⟩
   rw[if_neg p]at c;have k2:((0:Int)<(N T.ps:Int)+(N T.rs:Int)):=by
    by_cases c1:T.ps=[]
    . have c2:T.rs≠[]:=λc2=>p ⟨c1,c2⟩;have:=List.length_pos_iff.2 c2;omega
    have:=List.length_pos_iff.2 c1;omega
   have B:=Hm c;clear l f s c I H m b ep er X p v Y;go_enter func134,ntmps134;(go_upto_region 1 with fail);rw[<- j,<- k];clear j k;(go_upto_region 4 with fail);rw[<- a,<- d];clear a d;go_wp2;go_ret;rw[B.o];exact⟨rfl,F.o⟩
 have k1:(N x.jk:Int)<=(n:Int):=by omega
 rw[if_neg (by omega)]at c;have B:=Hm c;clear l f s c v;go_enter func134,ntmps134;go_upto_region 1 with fail
 rw[<- j,<- k];clear j k;go_wp2;go_ret;rw[B.o];exact⟨rfl,HB.o⟩
theorem simp_x:(∀⦃D:Nat⦄ ⦃w0:J⦄ ⦃ks:List Qb⦄ ⦃V:J⦄ ⦃md:Mod⦄ ⦃A:MdA⦄ (n:Nat) (mod g:ByteArray) (ty:Int) (a:Qd) (gl:Qx) (hm:Mo D w0 ks V) (R:MdI D w0 md A) (hn:n<N md.cj) (hl:N md.cj<=1048576) (hy:md.cj.getD n Imp.z=⟨mod,g,1,ty,a,gl⟩),Ec Q 130 #[mdV md A,U O (n:Int)] V λe w'=>e=Z (U O (XG md n ⟨mod,g,1,ty,a,gl⟩))/\Bw V.heap.size V w')/\(∀⦃D:Nat⦄ ⦃w0:J⦄ ⦃ks:List Qb⦄ ⦃V:J⦄ ⦃md:Mod⦄ ⦃A:MdA⦄ (n:Nat) (mod g:ByteArray) (ty:Int) (a:Qd) (gl:Qx) (hm:Mo D w0 ks V) (R:MdI D w0 md A) (hn:n<N md.cj) (hl:N md.cj<=1048576) (hy:md.cj.getD n Imp.z=⟨mod,g,2,ty,a,gl⟩),Ec Q 130 #[mdV md A,U O (n:Int)] V λe w'=>e=Z (U O (XG md n ⟨mod,g,2,ty,a,gl⟩))/\Bw V.heap.size V w'):=by
 refine⟨?c0,?c1⟩;case' c0=>have c:=0
 case' c1=>have v:=0
 all_goals
  intro D w0 ks V md A n mod g ty a gl hm R hn hl hy
  obtain⟨W,hW⟩:∃W,W=V.alloc (Fc (mdC md A) 48):=⟨_,rfl⟩;obtain⟨q,hq⟩:∃q,q=V.heap.size:=⟨_,rfl⟩;have l:Mo D w0 (box 48 13 q (mdC md A).toList::ks) W:=by rw[hW,hq];exact hm.box (cur:=mdC md A) 48 13 rfl
  rcases R.is.2.1 with hx|⟨b,off,ea,_,hc⟩
  . rw[hx]at hn;simp at hn
  have X:=hc n hn;rw[hy]at X;obtain⟨⟨k0,k1,k2,k3,k4,k5,k6,k7,k8⟩,_⟩:=X;have t:=λ(o:Nat) (u:Vu) (hu:w0.cell? ⟨b,o,none⟩=some u)=>(l.b.cell (p:=⟨b,o,none⟩) (R.cd _ _ _ hu)).trans hu;have d0:=t _ _ k0;have d1:=t _ _ k1;have d2:=t _ _ k2;have d3:=t _ _ k3;have d4:=t _ _ k4;have d5:=t _ _ k5;have d6:=t _ _ k6;have d7:=t _ _ k7;have d8:=t _ _ k8
  dsimp only at d0 d1 d2 d3 d4 d5 d6 d7 d8
  have e1:=Ql l (mS ..) 1;rw[ea]at e1
  first|(replace c:=c;obtain⟨r,k⟩:∃r,r=W.alloc (Fc #[Xs mod,Xs g,U O 1,U O ty,U O a.min,U O a.max,G a.has,U O gl.ty,G gl.mu] 178):=⟨_,rfl⟩)|(obtain⟨r,k⟩:∃r,r=W.alloc (Fc #[Xs mod,Xs g,U O 2,U O ty,U O a.min,U O a.max,G a.has,U O gl.ty,G gl.mu] 178):=⟨_,rfl⟩)
  obtain⟨q2,y⟩:∃q2,q2=W.heap.size:=⟨_,rfl⟩
  first
  | (
   replace c:=c
   have f:Mo D w0 (box 178 9 q2 [Xs mod,Xs g,U O 1,U O ty,U O a.min,U O a.max,G a.has,U O gl.ty,G gl.mu]::box 48 13 q (mdC md A).toList::ks) r:=by
    rw[k,y];exact l.box (cur:=#[Xs mod,Xs g,U O 1,U O ty,U O a.min,U O a.max,G a.has,U O gl.ty,G gl.mu]) 178 9 rfl)
  | (
   replace v:=v
   have f:Mo D w0 (box 178 9 q2 [Xs mod,Xs g,U O 2,U O ty,U O a.min,U O a.max,G a.has,U O gl.ty,G gl.mu]::box 48 13 q (mdC md A).toList::ks) r:=by
    rw[k,y];exact l.box (cur:=#[Xs mod,Xs g,U O 2,U O ty,U O a.min,U O a.max,G a.has,U O gl.ty,G gl.mu]) 178 9 rfl)
  first|(replace c:=c;have r2:=(f.b0 2).1)|(have r2:=(f.b0 2).1)
  have r4:=(f.b0 4).1;have r5:=(f.b0 5).1;have r6:=(f.b0 6).1
  have HB:Hid (Bw V.heap.size V r):=by
   show Bw V.heap.size V r
   rw[k,hW];exact(bFz.alloc lRz _).alloc (by simp) _
  have bn:(n:Int)<(N md.cj:Int):=by omega
  have Y:=Hm f;have L:=Hm R;clear hm l f R hc k0 k1 k2 k3 k4 k5 k6 k7 k8 t hy ea
  first|(replace c:=c;obtain⟨j,m⟩:∃j,j=limE a false:=⟨_,rfl⟩)|(obtain⟨j,m⟩:∃j,j=limE a true:=⟨_,rfl⟩)
  first|(replace c:=c;have B:=Hm (slim_c a false r))|(have B:=Hm (slim_c a true r))
  rw[<- m]at B
  first
  | (
   replace c:=c
   have M:Hid (XG md n ⟨mod,g,1,ty,a,gl⟩=if j=0 then(if 0<Q0 md 1 n then 4 else 0)else j):=by
    show XG _ _ _=_
    rw[m];simp[XG])
  | (
   replace v:=v
   have M:Hid (XG md n ⟨mod,g,2,ty,a,gl⟩=if j=0 then(if 0<Q0 md 2 n then 4 else 0)else j):=by
    show XG _ _ _=_
    rw[m];simp[XG])
  clear m
  go_enter func130,ntmps130
  go_upto_region 1 with fail
  rw[<- hW,<- hq];clear hW hq
  go_upto_region 2 with fail
  rw[<- k,<- y];clear k y d0 d1 d2 d3 d4 d5 d6 d7 d8 e1
  go_wp2_with fail
  refine B.o.mono ?_
  rintro e w3 ⟨rfl,I⟩;have d:=Y.o.keep I;have s:=Hm (HB.o.trans (I.mono HB.o.size))
  first|(replace c:=c;have s2:=(d.b0 2).1)|(have s2:=(d.b0 2).1)
  have m0:=Ql d (mC (mS ..)) 0;have m1:=Ql d (mC (mS ..)) 1;have m2:=Ql d (mC (mS ..)) 2;have m3:=Ql d (mC (mS ..)) 3;have m4:=Ql d (mC (mS ..)) 4;have m5:=Ql d (mC (mS ..)) 5;have m6:=Ql d (mC (mS ..)) 6;have m7:=Ql d (mC (mS ..)) 7;have m8:=Ql d (mC (mS ..)) 8;have m9:=Ql d (mC (mS ..)) 9;have bj:=Ql d (mC (mS ..)) 10;have bh:=Ql d (mC (mS ..)) 11;have bg:=Ql d (mC (mS ..)) 12
  first|(replace c:=c;have C:=Hm (sbefore_c (A:=A) n 1 d L.o (by omega) hl))|(have C:=Hm (sbefore_c (A:=A) n 2 d L.o (by omega) hl))
  first|(replace c:=c;obtain⟨E,F⟩:∃E,E=Q0 md 1 n:=⟨_,rfl⟩)|(obtain⟨E,F⟩:∃E,E=Q0 md 2 n:=⟨_,rfl⟩)
  rw[<- F]at C M;clear d I Y L F r2 r4 r5 r6 B
  by_cases c0:j=0
  . subst c0
    by_cases cn:0<E
    . have kn:((0:Int)<(E:Int)):=by omega
      go_wp2_with (go_at_call 191;refine C.o.mono ?_;rintro e w4 ⟨rfl,H⟩)
      go_ret
      rw[M.o]
      exact⟨by simp[cn],s.o.trans (H.mono s.o.size)⟩
    . have kn:¬((0:Int)<(E:Int)):=by omega
      go_wp2_with (go_at_call 191;refine C.o.mono ?_;rintro e w4 ⟨rfl,H⟩)
      go_ret
      rw[M.o]
      exact⟨by simp[cn],s.o.trans (H.mono s.o.size)⟩
  . have kl:(j==0)=false:=by simp[c0]
    first|(replace c:=c;have aa:Hid (XG md n ⟨mod,g,1,ty,a,gl⟩=j):=by show _=_;rw[M.o,if_neg c0])|(have aa:Hid (XG md n ⟨mod,g,2,ty,a,gl⟩=j):=by show _=_;rw[M.o,if_neg c0])
    clear c0 M
    go_wp2
    go_ret
    rw[aa.o]
    exact⟨rfl,s.o⟩
def simp_1:=simp_x.1
def simp_2:=simp_x.2
def ownL (md:Mod)(i:Nat)(mem:Bool):Qd:=if mem then md.jz.getD i Qd.z else md.cw.getD i Qd.z
def XX (md:Mod)(i:Nat)(mem:Bool):Int:=if limE (ownL md i mem) mem=0 then(if 0<i+Q0 md (if mem then 2 else 1) (N md.cj)then 4 else 0)else limE (ownL md i mem) mem
theorem sown_x:(∀⦃D:Nat⦄ ⦃w0:J⦄ ⦃ks:List Qb⦄ ⦃V:J⦄ ⦃md:Mod⦄ ⦃A:MdA⦄ (n:Nat) (hm:Mo D w0 ks V) (L:MdI D w0 md A) (hn:n<N md.cw) (hl:N md.cj<=1048576) (ac:N md.cw<=1048576),Ec Q 131 #[mdV md A,U O (n:Int),G false] V λe w'=>e=Z (U O (XX md n false))/\Bw V.heap.size V w')/\(∀⦃D:Nat⦄ ⦃w0:J⦄ ⦃ks:List Qb⦄ ⦃V:J⦄ ⦃md:Mod⦄ ⦃A:MdA⦄ (n:Nat) (hm:Mo D w0 ks V) (L:MdI D w0 md A) (hn:n<N md.jz) (hl:N md.cj<=1048576) (ac:N md.jz<=1048576),Ec Q 131 #[mdV md A,U O (n:Int),G true] V λe w'=>e=Z (U O (XX md n true))/\Bw V.heap.size V w'):=by
 refine⟨?c0,?c1⟩;case' c0=>have a:=0
 case' c1=>have t:=0
 all_goals
  intro D w0 ks V md A n hm L hn hl ac
  first|(replace a:=a;obtain⟨l,m⟩:∃l,l=md.cw.getD n Qd.z:=⟨_,rfl⟩)|(obtain⟨l,m⟩:∃l,l=md.jz.getD n Qd.z:=⟨_,rfl⟩)
  first
  | (
   replace a:=a
   have d:Hid (XX md n false=if limE l false=0 then(if 0<n+Q0 md 1 (N md.cj)then 4 else 0)else limE l false):=by
    show XX md n false=_
    rw[m];rfl)
  | (
   replace t:=t
   have d:Hid (XX md n true=if limE l true=0 then(if 0<n+Q0 md 2 (N md.cj)then 4 else 0)else limE l true):=by
    show XX md n true=_
    rw[m];rfl)
  obtain⟨W,hW⟩:∃W,W=(V.alloc (Fc (mdC md A) 48)).alloc (Fc #[U O 0,U O 0,G false] 175):=⟨_,rfl⟩;obtain⟨q,hq⟩:∃q,q=V.heap.size:=⟨_,rfl⟩
  have f:Mo D w0 (box 175 3 (q+1) [U O 0,U O 0,G false]::box 48 13 q (mdC md A).toList::ks) W:=by
   have:=(hm.box (cur:=mdC md A) 48 13 rfl).box (cur:=#[U O 0,U O 0,G false]) 175 3 rfl
   rw[hW,hq]
   simpa using this
  first|(replace a:=a;rcases L.is.2.2.2.1 with hx|⟨b,off,ea,_,hc⟩)|(rcases L.is.2.2.2.2.1 with hx|⟨b,off,ea,_,hc⟩)
  . rw[hx]at hn;simp at hn
  have ad:=hc n hn;rw[<- m]at ad;obtain⟨⟨k0,k1,k2⟩,_⟩:=ad;have kp:=λ(o:Nat) (u:Vu) (hu:w0.cell? ⟨b,o,none⟩=some u)=>(f.b.cell (p:=⟨b,o,none⟩) (L.cd _ _ _ hu)).trans hu;have d0:=kp _ _ k0;have d1:=kp _ _ k1;have d2:=kp _ _ k2
  first|(replace a:=a;have e1:=Ql f (mC (mS ..)) 3)|(have e1:=Ql f (mC (mS ..)) 4)
  rw[ea]at e1;obtain⟨z0,y0⟩:=f.b0 0;obtain⟨z1,y1⟩:=f.b0 1;obtain⟨z2,y2⟩:=f.b0 2
  have hB:Bw V.heap.size V W:=by
   rw[hW];exact(bFz.alloc lRz _).alloc (by simp) _
  have E:V.heap.size<=q+1:=by omega
  obtain⟨M,B⟩:∃M,M=((W.setCell ⟨q+1,0,none⟩ (U O l.min)).setCell ⟨q+1,1,none⟩ (U O l.max)).setCell ⟨q+1,2,none⟩ (G l.has):=⟨_,rfl⟩
  have k:Mo D w0 (box 175 3 (q+1) [U O l.min,U O l.max,G l.has]::box 48 13 q (mdC md A).toList::ks) M:=by
   rw[B];exact((f.set 0 (U O l.min)).set 1 (U O l.max)).set 2 (G l.has)
  have Y:Hid (Bw V.heap.size V M):=by
   show Bw V.heap.size V M
   rw[B];exact((hB.setCell E _).setCell E _).setCell E _
  have r0:=(k.b0 0).1;have r1:=(k.b0 1).1;have r2:=(k.b0 2).1
  first|(replace a:=a;have ak:(n:Int)<(N md.cw:Int):=by omega)|(have ak:(n:Int)<(N md.jz:Int):=by omega)
  first|(replace a:=a;obtain⟨v,y⟩:∃v,v=limE l false:=⟨_,rfl⟩)|(obtain⟨v,y⟩:∃v,v=limE l true:=⟨_,rfl⟩)
  first|(replace a:=a;have C:=Hm (slim_c l false M))|(have C:=Hm (slim_c l true M))
  rw[<- y]at C;have ae:=Hm k;have R:=Hm L;rw[<- y]at d;clear hm f k L hc k0 k1 k2 kp hB m y ea
  go_enter func131,ntmps131
  go_upto_region 3 with fail
  rw[<- hW,<- hq];clear hW hq
  go_upto_region 7 with fail
  rw[<- B];clear B d0 d1 d2 e1 z0 z1 z2 y0 y1 y2
  go_wp2_with fail
  refine C.o.mono ?_
  rintro e w4 ⟨rfl,I⟩;have c:=ae.o.keep I;have s:=Hm (Y.o.trans (I.mono Y.o.size));have m0:=Ql c (mC (mS ..)) 0;have m1:=Ql c (mC (mS ..)) 1;have m2:=Ql c (mC (mS ..)) 2;have m3:=Ql c (mC (mS ..)) 3;have m4:=Ql c (mC (mS ..)) 4;have m5:=Ql c (mC (mS ..)) 5;have m6:=Ql c (mC (mS ..)) 6;have m7:=Ql c (mC (mS ..)) 7;have m8:=Ql c (mC (mS ..)) 8;have m9:=Ql c (mC (mS ..)) 9;have ba:=Ql c (mC (mS ..)) 10;have a9:=Ql c (mC (mS ..)) 11;have a8:=Ql c (mC (mS ..)) 12
  first|(replace a:=a;have r:=Hm (sbefore_c (A:=A) (N md.cj) 1 c R.o lRz hl))|(have r:=Hm (sbefore_c (A:=A) (N md.cj) 2 c R.o lRz hl))
  first
  | (
   replace a:=a
   have ab:Q0 md 1 (N md.cj)<=1048576:=by
    unfold Q0
    exact Kq (Lx _ _) (by simp;omega))
  | (
   replace t:=t
   have ab:Q0 md 2 (N md.cj)<=1048576:=by
    unfold Q0
    exact Kq (Lx _ _) (by simp;omega))
  first|(replace a:=a;obtain⟨j,F⟩:∃j,j=Q0 md 1 (N md.cj):=⟨_,rfl⟩)|(obtain⟨j,F⟩:∃j,j=Q0 md 2 (N md.cj):=⟨_,rfl⟩)
  rw[<- F]at r d ab;clear c I ae R F r0 r1 r2 C Y
  by_cases c0:v=0
  . subst c0
    first|(replace a:=a;have X:Hid (XX md n false=if 0<n+j then 4 else 0):=d.o)|(have X:Hid (XX md n true=if 0<n+j then 4 else 0):=d.o)
    clear d;have hw:IntKind.i64.wrap ((n:Int)+(j:Int))=(n:Int)+(j:Int):=by rw[Kz];omega
    by_cases cn:0<n+j
    . have kn:((0:Int)<(n:Int)+(j:Int)):=by omega
      first|(replace a:=a;have g:Hid (XX md n false=4):=by show _=_;rw[X.o,if_pos cn])|(have g:Hid (XX md n true=4):=by show _=_;rw[X.o,if_pos cn])
      clear X cn
      go_wp2_with (go_at_call 191;refine r.o.mono ?_;rintro e w5 ⟨rfl,H⟩)
      go_ret
      rw[g.o]
      exact⟨rfl,s.o.trans (H.mono s.o.size)⟩
    . have kn:¬((0:Int)<(n:Int)+(j:Int)):=by omega
      first|(replace a:=a;have g:Hid (XX md n false=0):=by show _=_;rw[X.o,if_neg cn])|(have g:Hid (XX md n true=0):=by show _=_;rw[X.o,if_neg cn])
      clear X cn
      go_wp2_with (go_at_call 191;refine r.o.mono ?_;rintro e w5 ⟨rfl,H⟩)
      go_ret
      rw[g.o]
      exact⟨rfl,s.o.trans (H.mono s.o.size)⟩
  . have kl:(v==0)=false:=by simp[c0]
    first|(replace a:=a;have g:Hid (XX md n false=v):=by show _=_;rw[d.o,if_neg c0])|(have g:Hid (XX md n true=v):=by show _=_;rw[d.o,if_neg c0])
    clear c0 d r
    go_wp2
    go_ret
    rw[g.o]
    exact⟨rfl,s.o⟩
def sown_1:=sown_x.1
def sown_2:=sown_x.2
def Xh (x:Ctx)(md:Mod)(n:Nat):Int:=if enm (md.cv.getD n Exp.z)∈(md.cv.take n).map enm then 7 else if szK x (md.cv.getD n Exp.z).kind.toNat<=(md.cv.getD n Exp.z).ix then 2 else 0
theorem ba_eq (a b:ByteArray):(a.toList==b.toList)=decide (a.data.toList=b.data.toList):=by
 rw[ByteArray.toList_eq,ByteArray.toList_eq];by_cases h:a.data.toList=b.data.toList
 . rw[decide_eq_true h,h];simp
 rw[decide_eq_false h];simpa using h
theorem sexport_c {D w0 ks V}(n:Nat)(hm:Mo D w0 ks V)(hx:CtR D w0 x t ks)(hI:MdI D w0 md A)(hn:n<N md.cv)(hl:N md.cv<=1048576)(hk:0<=(md.cv.getD n Exp.z).kind/\(md.cv.getD n Exp.z).kind<=3):Ec Q 133 #[cxV x t,mdV md A,U O (n:Int)] V λe w'=>e=Z (U O (Xh x md n))/\Bw V.heap.size V w':=by
 obtain⟨ta,tc,fa,fc,ga,gc,et,ef,eg⟩:=hx.shape hm;obtain⟨tv,fv,gv,b2⟩:=t;dsimp only at et ef eg;subst et ef eg;obtain⟨y,hy⟩:∃y,y=md.cv.getD n Exp.z:=⟨_,rfl⟩;have ab:Xh x md n=if enm y∈(md.cv.take n).map enm then 7 else if szK x y.kind.toNat<=y.ix then 2 else 0:=by rw[hy];rfl
 rw[<- hy]at hk;obtain⟨C,s,l⟩:=y;dsimp only at hk ab;obtain⟨g,hS⟩:∃g,g=C.data.toList:=⟨_,rfl⟩;have ah:Xh x md n=if g∈(md.cv.take n).map enm then 7 else if szK x s.toNat<=l then 2 else 0:=by rw[ab,hS];rfl
 obtain⟨W,hW⟩:∃W,W=(V.alloc (Fc #[S ta (N x.types) tc,S fa (N x.jk) fc,S ga (N x.jx) gc,U O x.gw,U O x.jv,U O x.jz] 80)).alloc (Fc (mdC md A) 48):=⟨_,rfl⟩;obtain⟨q,hq⟩:∃q,q=V.heap.size:=⟨_,rfl⟩;have F:Mo D w0 (box 48 13 (q+1) (mdC md A).toList::box 80 6 q (cx6 x ta tc fa fc ga gc)::ks) W:=by have:=(hm.box (cur:=#[S ta (N x.types) tc,S fa (N x.jk) fc,S ga (N x.jx) gc,U O x.gw,U O x.jv,U O x.jz]) 80 6 rfl).box (cur:=mdC md A) 48 13 rfl;rw[hW,hq];simpa using this
 rcases hI.is.2.2.2.2.2.2.1 with a6|⟨b,off,ea,_,hc⟩
 . rw[a6]at hn;simp at hn
 have ag:=hc n hn;rw[<- hy]at ag;obtain⟨⟨k0,k1,k2⟩,_⟩:=ag;have kp:=λ(o:Nat) (u:Vu) (hu:w0.cell? ⟨b,o,none⟩=some u)=>(F.b.cell (p:=⟨b,o,none⟩) (hI.cd _ _ _ hu)).trans hu;have d0:=kp _ _ k0;have d1:=kp _ _ k1;have d2:=kp _ _ k2;dsimp only at d0 d1 d2;have e1:=Ql F (mS ..) 6;rw[ea]at e1;obtain⟨W2,I⟩:∃W2,W2=W.alloc (Fc #[Xs C,U O s,U O l] 192):=⟨_,rfl⟩;obtain⟨R,Y⟩:∃R,R=W.heap.size:=⟨_,rfl⟩;obtain⟨L0,aa⟩:∃L0:List Qb,L0=box 192 3 R [Xs C,U O s,U O l]::box 48 13 (q+1) (mdC md A).toList::box 80 6 q (cx6 x ta tc fa fc ga gc)::ks:=⟨_,rfl⟩;have af:Mo D w0 L0 W2:=by rw[I,aa,Y];exact F.box (cur:=#[Xs C,U O s,U O l]) 192 3 rfl
 have CL:Hid (∀{W':J},Mo D w0 L0 W'->(W'.cell? ⟨R,0,none⟩=some (Xs C)/\W'.cell? ⟨R,1,none⟩=some (U O s)/\W'.cell? ⟨R,2,none⟩=some (U O l))/\W'.cell? ⟨q+1,6,none⟩=some (S (some ⟨b,off,none⟩) (N md.cv) A.c7)/\W'.cell? ⟨q,1,none⟩=some (S fa (N x.jk) fc)/\W'.cell? ⟨q,2,none⟩=some (S ga (N x.jx) gc)/\W'.cell? ⟨q,4,none⟩=some (U O x.jv)/\W'.cell? ⟨q,5,none⟩=some (U O x.jz)):=λh=>by rw[aa]at h;have y:=λj u hj hu=>(h.b0 j (u:=u) hj hu).1;have z:=λj u hj hu=>(h.tail.tail.b0 j (u:=u) hj hu).1;have m6:=Ql h.tail (mS ..) 6;rw[ea]at m6;exact⟨⟨y 0 _ (by omega) rfl,y 1 _ (by omega) rfl,y 2 _ (by omega) rfl⟩,m6,z 1 _ (by omega) rfl,z 2 _ (by omega) rfl,z 4 _ (by omega) rfl,z 5 _ (by omega) rfl⟩
 have HC:Hid (∀k,k<N md.cv->∀{W':J},Mo D w0 L0 W'->W'.cell? ⟨b,off+k*3,none⟩=some (Xs (md.cv.getD k Exp.z).nm)):=λk hk W' h=>by obtain⟨⟨u0,_,_⟩,_⟩:=hc k hk;exact(h.b.cell (p:=⟨b,off+k*3,none⟩) (hI.cd _ _ _ u0)).trans u0
 have ai:Bw V.heap.size V W2:=by rw[I,hW];exact((bFz.alloc lRz _).alloc (by simp) _).alloc (by simp;omega) _
 have M:=Hm ai;have bs:(n:Int)<(N md.cv:Int):=by omega
 have L:=Hm af;have HE:=Hm ah;have HS:=Hm hS;clear hm F af hI hc k0 k1 k2 kp hy hx ab ah hS aa ai;go_enter func133,ntmps133;go_upto_region 1 with fail
 rw[<- hW,<- hq];clear hW hq;go_upto_region 2 with fail
 rw[<- I,<- Y];clear I Y d0 d1 d2 e1;go_wp2_with fail
 go_loopw [8] (λi wr=>∃k:Nat,k<=n/\i=U O k/\Mo D w0 L0 wr/\Bw V.heap.size V wr/\g∉(md.cv.take k).map enm) (λi _=>n-(intOf i).toNat)
 case atStart=>exact⟨0,Kw _,rfl,L.o,M.o,by simp⟩
 obtain⟨k,bw,rfl,r,v,E⟩:=hrel;obtain⟨⟨d0,d1,d2⟩,e6,f1,f2,f4,f5⟩:=CL.o r;have ac:=Hm (And.intro r v);have B:=Hm E;by_cases bt:k<n
 . (have bv:(k:Int)<(n:Int):=by omega);(have bu:(k:Int)<(N md.cv:Int):=by omega);have g0:=HC.o k (by omega) r;obtain⟨z,hz⟩:∃z,z=(md.cv.getD k Exp.z).nm:=⟨_,rfl⟩;rw[<- hz]at g0;have H:=ba_eq z C;have X:=JG md.cv k Exp.z (by omega);by_cases c:z.data.toList=C.data.toList
   . (have hs:(z.toList==C.toList)=true:=by rw[H];exact decide_eq_true c);(have f:Hid (Xh x md n=7):=by show Xh x md n=7;rw[HE.o,if_pos];(have:g=enm (md.cv.getD k Exp.z):=by rw[HS.o,<- c,hz];rfl);rw[this];refine List.mem_map_of_mem ?_;rw[List.mem_take_iff_getElem];exact⟨k,by omega,by simp[Kx,show k<N md.cv by omega]⟩);clear r v E H X c hz B HE HS HC CL L M;(go_wp2_with fail);(go_quiet (fail));go_wp2;go_ret;rw[f.o];exact⟨rfl,Qo ac.o.2 _⟩
   have hs:(z.toList==C.toList)=false:=by rw[H];exact decide_eq_false c
   have HN:Hid (g∉(md.cv.take (k+1)).map enm):=by
    show g∉_;rw[X,Tf];intro a9;rcases List.mem_append.1 a9 with h|h
    . exact B.o h
    have h':g=enm (md.cv.getD k Exp.z):=List.mem_singleton.1 h;refine c ?_;rw[hz];show enm _=_;rw[<- h',HS.o]
   clear r v E H X c hz B HE HS HC CL L M;(go_wp2_with fail);(go_quiet (fail));go_wp2;(go_roundw);(case rel=>exact⟨k+1,by omega,by go_num,ac.o.1.drewN _,Qo ac.o.2 _,HN.o⟩);case measure=>simp[intOf];omega
 obtain rfl:k=n:=by omega
 have f:Hid (Xh x md k=if szK x s.toNat<=l then 2 else 0):=by show _=_;rw[HE.o,if_neg B.o]
 have d:=Hm v;clear r v E B HE HC CL L M e6;have g1:∀o,(wr.alloc o).cell? ⟨R,1,none⟩=some (U O s):=λo=>Qf d1;have g2:∀o,(wr.alloc o).cell? ⟨R,2,none⟩=some (U O l):=λo=>Qf d2;rcases(by omega:s=0\/s=1\/s=2\/s=3)with rfl|rfl|rfl|rfl
 . (have a:Xh x md k=if(N x.jk:Int)<=l then 2 else 0:=by have h:=f.o;rw[show szK x (Int.toNat 0)=(N x.jk:Int)from rfl]at h;exact h);clear f;by_cases c:(N x.jk:Int)<=l
   . (have m:Hid (Xh x md k=2):=by show Xh x md k=_;rw[a,if_pos c]);clear a;go_wp2;go_ret;rw[m.o];exact⟨rfl,d.o.alloc d.o.size _⟩
   (have m:Hid (Xh x md k=0):=by show Xh x md k=_;rw[a,if_neg c]);clear a;go_wp2;go_ret;rw[m.o];exact⟨rfl,d.o.alloc d.o.size _⟩
 . (have a:Xh x md k=if(x.jv:Int)<=l then 2 else 0:=by have h:=f.o;rw[show szK x (Int.toNat 1)=(x.jv:Int)from rfl]at h;exact h);clear f;by_cases c:(x.jv:Int)<=l
   . (have m:Hid (Xh x md k=2):=by show Xh x md k=_;rw[a,if_pos c]);clear a;go_wp2;go_ret;rw[m.o];exact⟨rfl,d.o.alloc d.o.size _⟩
   (have m:Hid (Xh x md k=0):=by show Xh x md k=_;rw[a,if_neg c]);clear a;go_wp2;go_ret;rw[m.o];exact⟨rfl,d.o.alloc d.o.size _⟩
 . (have a:Xh x md k=if(x.jz:Int)<=l then 2 else 0:=by have h:=f.o;rw[show szK x (Int.toNat 2)=(x.jz:Int)from rfl]at h;exact h);clear f;by_cases c:(x.jz:Int)<=l
   . (have m:Hid (Xh x md k=2):=by show Xh x md k=_;rw[a,if_pos c]);clear a;go_wp2;go_ret;rw[m.o];exact⟨rfl,d.o.alloc d.o.size _⟩
   (have m:Hid (Xh x md k=0):=by show Xh x md k=_;rw[a,if_neg c]);clear a;go_wp2;go_ret;rw[m.o];exact⟨rfl,d.o.alloc d.o.size _⟩
 have a:Xh x md k=if(N x.jx:Int)<=l then 2 else 0:=by have h:=f.o;rw[show szK x (Int.toNat 3)=(N x.jx:Int)from rfl]at h;exact h
 clear f;by_cases c:(N x.jx:Int)<=l
 . (have m:Hid (Xh x md k=2):=by show Xh x md k=_;rw[a,if_pos c]);clear a;go_wp2;go_ret;rw[m.o];exact⟨rfl,d.o.alloc d.o.size _⟩
 have m:Hid (Xh x md k=0):=by show Xh x md k=_;rw[a,if_neg c]
 clear a;go_wp2;go_ret;rw[m.o];exact⟨rfl,d.o.alloc d.o.size _⟩
theorem cstep_nz {g:List Int}{f:Int}(h:Xf x go want g y=.error f):f≠0:=by
 unfold Xf XI at h;split at h
 . cases h
 split at h
 . split at h
   . cases h;decide
   split at h
   . cases h;decide
   cases h
 split at h
 . split at h
   . cases h
   cases h;decide
 cases h;decide
theorem lst_nz (x:Ctx)(go want:Int):∀(xs:List In) (g:List Int) (k:Nat) (f:Int) (a:Nat),QU x go want g k xs=.error (f,a)->f≠0
 |[],g,k,f,a,h=>by cases h
 |y::ys,g,k,f,a,h=>by
  rw[QU]at h
  cases hc:Xf x go want g y with
  |error e=>rw[hc]at h;cases h;exact cstep_nz hc
  |ok g'=>rw[hc]at h;exact lst_nz x go want ys g' (k+1) f a h
def elemE (x:Ctx)(off:List In)(fs:List Int):Int × Nat:=if x.jv=0 then(2,0)else match QU x x.gw 127 [] 0 off with
 |.error e=>e
 |.ok _=>if Gi x fs then(0,0)else (2,0)
theorem selem_c {D w0 ks V}(a:Option Ad)(c:Nat)(xs:List In)(R:Option Ad)(L:Nat)(b:List Int)(hm:Mo D w0 ks V)(hx:CtR D w0 x t ks)(hL:InL D w0 a xs)(a5:N xs<=1048576)(hI:∀y∈xs,InB y)(hi:x.gw<=N x.jx)(ad:QF xs=true)(tF:Ty D w0 [] (S R (N b) L) b)(bs:N b<=1048576):Ec Q 135 #[cxV x t,Ag #[S a (N xs) c,S R (N b) L]] V λe w'=>e=Z (.tuple #[U O (elemE x xs b).1,U O (elemE x xs b).2])/\Mo D w0 ks w':=by
 obtain⟨ta,tc,fa,fc,ga,gc,et,ef,eg⟩:=hx.shape hm;obtain⟨tv,fv,gv,bu⟩:=t;dsimp only at et ef eg;subst et ef eg;obtain⟨q,hq⟩:∃q,q=V.heap.size:=⟨_,rfl⟩;obtain⟨W,hW⟩:∃W,W=(V.alloc (Fc #[S ta (N x.types) tc,S fa (N x.jk) fc,S ga (N x.jx) gc,U O x.gw,U O x.jv,U O x.jz] 80)).alloc (Fc #[S a (N xs) c,S R (N b) L] 195):=⟨_,rfl⟩;obtain⟨Y,m⟩:∃Y:List Qb,Y=box 195 2 (q+1) [S a (N xs) c,S R (N b) L]::box 80 6 q (cx6 x ta tc fa fc ga gc)::ks:=⟨_,rfl⟩;have n:Mo D w0 Y W:=by have:=(hm.box (cur:=#[S ta (N x.types) tc,S fa (N x.jk) fc,S ga (N x.jx) gc,U O x.gw,U O x.jv,U O x.jz]) 80 6 rfl).box (cur:=#[S a (N xs) c,S R (N b) L]) 195 2 rfl;rw[hW,m,hq];simpa using this
 have CL:Hid (∀{W':J},Mo D w0 Y W'->(W'.cell? ⟨q+1,0,none⟩=some (S a (N xs) c)/\W'.cell? ⟨q+1,1,none⟩=some (S R (N b) L))/\W'.cell? ⟨q,0,none⟩=some (S ta (N x.types) tc)/\W'.cell? ⟨q,1,none⟩=some (S fa (N x.jk) fc)/\W'.cell? ⟨q,2,none⟩=some (S ga (N x.jx) gc)/\W'.cell? ⟨q,3,none⟩=some (U O x.gw)/\W'.cell? ⟨q,4,none⟩=some (U O x.jv)/\W'.cell? ⟨q,5,none⟩=some (U O x.jz)):=λh=>by rw[m]at h;have y:=λj u hj hu=>(h.b0 j (u:=u) hj hu).1;have z:=λj u hj hu=>(h.tail.b0 j (u:=u) hj hu).1;exact⟨⟨y 0 _ (by omega) rfl,y 1 _ (by omega) rfl⟩,z 0 _ (by omega) rfl,z 1 _ (by omega) rfl,z 2 _ (by omega) rfl,z 3 _ (by omega) rfl,z 4 _ (by omega) rfl,z 5 _ (by omega) rfl⟩
 have F:Hid (∀{W':J},Mo D w0 Y W'->Mo D w0 ks W'):=λh=>by rw[m]at h;exact h.tail.tail
 obtain⟨⟨d0,d1⟩,c0,c1,c2,c3,c4,c5⟩:=CL.o n;have B:=Hm (slist_c a c xs 127 n (hx.sub (λr hr=>by rw[m];simp[hr])) hL a5 hI hi ad);obtain⟨M,hM⟩:∃M,M=QU x x.gw 127 [] 0 xs:=⟨_,rfl⟩;rw[<- hM]at B;obtain⟨E,s⟩:∃E,E=elemE x xs b:=⟨_,rfl⟩;rw[<- s];unfold elemE at s;rw[<- hM]at s;have v:Hid (∀f k,M=.error (f,k)->f≠0):=λf k h=>lst_nz x x.gw 127 xs [] 0 f k (by rw[<- hM];exact h);have HT:=Hm tF;have ai:=Hm n;clear hm n hx hL hI ad tF hM m;by_cases X:x.jv=0
 . rw[if_pos X]at s;(have k0:((x.jv:Int)==0)=true:=by simp[X]);have HE:=Hm s;clear s X B v HT;go_enter func135,ntmps135;(go_upto_region 1 with fail);rw[<- hW,<- hq];clear hW hq;go_wp2;(go_ret2);rw[HE.o];exact⟨rfl,F.o ai.o⟩
 rw[if_neg X]at s;have k0:((x.jv:Int)==0)=false:=by simp[X]
 have HE:=Hm s;clear s X;go_enter func135,ntmps135;go_upto_region 1 with fail
 rw[<- hW,<- hq];clear hW hq;go_wp2_with fail
 refine B.o.mono ?_;rintro e w1 ⟨rfl,I⟩;have ah:=Hm I;clear d0 d1 c0 c1 c2 c3 c4 c5 B ai;obtain⟨⟨d0,d1⟩,c0,c1,c2,c3,c4,c5⟩:=CL.o I;clear I;cases M with
 |error r =>
  obtain⟨f,k⟩:=r;have hf:=v.o f k rfl;have k1:(f != 0)=true:=by simpa using hf
  clear hf v
  simp only[lstR]
  go_wp2
  go_ret2
  rw[HE.o]
  exact⟨rfl,F.o ah.o⟩
 |ok g =>
  have H:Hid (E=if Gi x b then(0,0)else (2,0)):=HE.o;have l1:(lstR (.ok g:Except (Int × Nat) (List Int))).1=0:=rfl;have l2:(((lstR (.ok g:Except (Int × Nat) (List Int))).2:Nat):Int)=0:=rfl;rw[l1,l2];clear HE v l1 l2
  go_wp2_with fail
  go_loopw [8] (λi wr=>∃k:Nat,k<=N b/\i=U O k/\Mo D w0 Y wr/\Gi x b=Gi x (b.drop k)) (λi _=>N b-(intOf i).toNat)
  case atStart=>exact⟨0,Kw _,rfl,ah.o,rfl⟩
  case round =>
   obtain⟨k,hk,rfl,d,l⟩:=hrel;clear d0 d1 c0 c1 c2 c3 c4 c5;obtain⟨⟨d0,d1⟩,c0,c1,c2,c3,c4,c5⟩:=CL.o d
   by_cases p:k<N b
   . have bp:(k:Int)<(N b:Int):=by omega
     obtain⟨a',c',e,hh⟩:=HT.o.shape d (λr hr=>by cases hr)
     cases e
     rcases hh with hx|⟨b_,off,he,hc⟩
     . subst hx;simp at p
     rw[he]at d1;have g1:=hc k p;obtain⟨y,hy⟩:∃y,y=b.getD k 0:=⟨_,rfl⟩;rw[<- hy]at g1;have ac:b.drop k=y::b.drop (k+1):=by rw[List.drop_eq_getElem_cons p,hy];simp[Kx,p]
     rw[ac,Gi]at l;have C:=Hm l;have A:=Hm d;clear hc hy ac l d he
     by_cases cy:y<(N x.jk:Int)
     . have k2:¬((N x.jk:Int)<=y):=by omega
       have HN:Hid (Gi x b=Gi x (b.drop (k+1))):=by show _=_;rw[C.o,decide_eq_true cy,Bool.true_and]
       clear C cy
       go_wp2_with fail
       go_quiet (fail)
       go_wp2
       go_roundw
       case rel=>exact⟨k+1,by omega,by go_num,A.o.drewN _,HN.o⟩
       case measure=>simp[intOf];omega
     . have k2:(N x.jk:Int)<=y:=by omega
       have HN:Hid (E=(2,0)):=by
        show E=_
        rw[H.o,C.o,decide_eq_false cy,Bool.false_and];rfl
       clear C cy H
       go_wp2_with fail
       go_quiet (fail)
       go_wp2
       go_ret2
       rw[HN.o]
       exact⟨rfl,F.o (A.o.drewN _)⟩
   . obtain rfl:k=N b:=by omega
     have HN:Hid (E=(0,0)):=by
      show E=_
      rw[H.o,l,List.drop_length];rfl
     have A:=Hm d;clear l d H
     go_wp2
     go_ret2
     rw[HN.o]
     exact⟨rfl,F.o A.o⟩
def NZ {α:Type}(r:R α):Prop:=∀f,r=.error f->f≠0
theorem NZ.ok (a:α):NZ (.ok a:R α):=λf h=>by cases h
theorem NZ.er (a:e≠0):NZ (.error e:R α):=λf h=>by cases h;exact a
theorem NZ.map {r:R α}(g:α->β)(h:NZ r):NZ (r.map g):=λf e=>by
 cases r with
 |error k=>cases e;exact h _ rfl
 |ok a=>cases e
theorem NZ.bind {r:R α}{g:α->R β}(h:NZ r)(b:∀a,NZ (g a)):NZ (r.bind g):=λf e=>by
 cases r with
 |error k=>cases e;exact h _ rfl
 |ok a=>exact b a f e
theorem NZ.ite {c:Prop}[Decidable c]{a b:R α}(f:NZ a)(d:NZ b):NZ (if c then a else b):=by split<;>assumption
theorem pop_nz (s:Fn)(w:Int):NZ (pop s w):=by
 unfold pop;exact .ite (.ite (.ok _) (.er (by decide))) (.ite (.ok _) (.ite (.er (by decide)) (.ok _)))
theorem pop1_nz (s:Fn)(w:Int):NZ (Q7 s w):=(pop_nz s w).map _
theorem popR_nz:∀(b:List Int) (s:Fn),NZ (XN s b)
 |[],s=>.ok _
 |t::b,s=>(pop1_nz s t).bind λa=>popR_nz b a
theorem popAll_nz (s:Fn)(a:List Int):NZ (Xq s a):=popR_nz _ _
theorem leave_nz (s:Fn)(a:List Int):NZ (JC s a):=(popAll_nz s a).map _
theorem finish_nz (s:Fn):NZ (Qw s):=(popAll_nz _ _).bind λa=>.ite (.er (by decide)) (.ok _)
theorem typed_nz (x:Ctx)(oty:Int->Qc)(s:Fn)(y:In):NZ (JQ x oty s y):=by
 unfold JQ;exact .ite (leave_nz _ _) (.ite (.ok _) (.ite ((pop1_nz _ _).map _) (.ite ((finish_nz _).map _) (.ite ((finish_nz _).bind λa=>.ite (.er (by decide)) (.ok _)) (.ite (leave_nz _ _) (.ite ((pop1_nz _ _).bind λa=>.ite (leave_nz _ _) (.er (by decide))) (.ite (leave_nz _ _) (.ite (pop1_nz _ _) (.ite ((pop1_nz _ _).bind λa=>(pop_nz _ _).bind λb=>(pop_nz _ _).map _) ((popAll_nz _ _).map _))))))))))
theorem step_nz (x:Ctx)(frm:Int->Int)(oty:Int->Qc)(s:Fn)(y:In):NZ (step x frm oty s y):=by
 unfold step;exact .ite (.er (by decide)) (.ite (.er (by decide)) (.ite (.er (by decide)) (typed_nz _ _ _ _)))
theorem body_nz (x:Ctx)(frm:Int->Int)(oty:Int->Qc):∀(xs:List In) (s:Fn) (k:Nat) (f:Int) (a:Nat),QL x frm oty s k xs=.error (f,a)->f≠0
 |[],s,k,f,a,h=>by cases h
 |y::ys,s,k,f,a,h=>by
  rw[QL]at h
  cases hc:step x frm oty s y with
  |error e=>rw[hc]at h;cases h;exact step_nz x frm oty s y _ hc
  |ok g'=>rw[hc]at h;exact body_nz x frm oty ys g' (k+1) f a h
theorem glob_app (x y:Ctx)(go i:Int)(h:∀j:Nat,(j:Int)<go->x.jx.getD j Qx.z=y.jx.getD j Qx.z)(b:0<=i)(a:i<go):Q6 x i=Q6 y i:=h _ (by omega)
theorem cstep_cx {y:Ctx}{g:List Int}{z:In}(h:∀j:Nat,(j:Int)<go->x.jx.getD j Qx.z=y.jx.getD j Qx.z)(b:0<=z.a):Xf x go want g z=Xf y go want g z:=by
 unfold Xf XI;by_cases c:go<=z.a
 . simp only[if_pos c]
 rw[glob_app x y go z.a h b (by omega)]
theorem listC_cx {y:Ctx}(h:∀j:Nat,(j:Int)<go->x.jx.getD j Qx.z=y.jx.getD j Qx.z):∀(xs:List In) (g:List Int) (k:Nat),(∀z∈xs,0<=z.a)->QU x go want g k xs=QU y go want g k xs
 |[],g,k,_=>rfl
 |z::zs,g,k,hz=>by
  rw[QU,QU,cstep_cx h (hz z (by simp))]
  cases Xf y go want g z with
  |error e=>rfl
  |ok g'=>exact listC_cx h zs g' (k+1) λu hu=>hz u (by simp[hu])
def XZ (md:Mod)(n i:Nat):Int × Nat :=
 if n=2 then(XG md i (md.cj.getD i Imp.z),0)else
 if n=3 then(if(N md.types:Int)<=md.jk.getD i 0 then 2 else 0,0)else
 if n=4 then(XX md i false,0)else
 if n=5 then(XX md i true,0)else
 if n=6 then lstR (QU (cxF md) (cxF md).gw (md.ck.getD i Qm.z).ty.ty [] 0 (md.ck.getD i Qm.z).ini)else
 if n=7 then(Xh (cxF md) md i,0)else
 if n=8 then(startE (cxF md) md.start,0)else
 if n=9 then elemE (cxF md) (md.fq.getD i Ele.z).off (md.fq.getD i Ele.z).fs else
 if n=10 then bodyR (QL (cxF md) frm oty (fn0 (Je md (md.jk.getD i 0)) (md.fj.getD i Cod.z).gq) 0 (md.fj.getD i Cod.z).body)else
 if n=11 then(if(cxF md).jz=0 then(2,0)else lstR (QU (cxF md) (cxF md).gw 127 [] 0 (md.fx.getD i Dat.z).off))else (0,0)
def X0 {α:Type}(r:Except Er α)(e:Int × Nat):Prop:=(∃s,r=.ok s/\e=(0,0))\/∃f p,r=.error (f,p)/\f≠0/\e=(f,p.getD 0)
theorem X0.map {r:Except Er α}{e:Int × Nat}(g:α->β)(h:X0 r e):X0 (r.map g) e:=by
 rcases h with ⟨s,rfl,h⟩|⟨f,p,rfl,h⟩
 . exact .inl ⟨_,rfl,h⟩
 exact .inr ⟨f,p,rfl,h⟩
theorem X0.lift {r:R (Ctx × Int × Int × Int)}(h:(∃s,r=.ok s/\e=0)\/∃f,r=.error f/\f≠0/\e=f):X0 (lift r) (e,0):=by
 rcases h with ⟨s,rfl,rfl⟩|⟨f,rfl,h,rfl⟩
 . exact .inl ⟨_,rfl,rfl⟩
 exact .inr ⟨_,none,rfl,h,rfl⟩
theorem one_meet {l:Qd}{a:Int}(g:Nat->β)(b:e=if(l.has=true/\l.max<l.min)\/a<l.min\/a<l.max then 3 else if 0<n then 4 else 0):(∃s,(X6 n l a).map g=.ok s/\e=0)\/∃f,(X6 n l a).map g=.error f/\f≠0/\e=f:=by
 unfold X6;by_cases c:(l.has=true/\l.max<l.min)\/a<l.min\/a<l.max
 . rw[if_pos c]at b⊢;exact .inr ⟨3,rfl,by decide,b⟩
 rw[if_neg c]at b⊢;by_cases d:0<n
 . rw[if_pos d]at b⊢;exact .inr ⟨4,rfl,by decide,b⟩
 rw[if_neg d]at b⊢;exact .inl ⟨_,rfl,b⟩
theorem lim_b {l:Qd}(h:Jn l=true):l.min<=4294967295/\l.max<=4294967295:=by
 simp only[Jn,Ky,Qz,decide_eq_true_eq]at h;omega
theorem imp_lim {y:Imp}(h:QP y=true)(b:y.kind=1\/y.kind=2):y.lim.min<=4294967295/\y.lim.max<=4294967295:=by
 simp only[QP,Ky]at h;have a:=h.2;unfold XW at a;rw[if_neg (by omega),if_pos b]at a;simp only[Ky]at a;exact lim_b a.1.2
theorem cxF_at (h:7<=n):(Qy md n i).x=cxF md:=by
 simp only[Qy,cxF];have k:=λj (hj:j<7)=>(show kk md n i j=QG md j by unfold kk;rw[if_pos (by omega)]);rw[k 1 (by omega),k 2 (by omega),k 3 (by omega),k 4 (by omega),k 5 (by omega),k 6 (by omega)];simp[QG]
theorem go_at (h:3<=n):(Qy md n i).go=((cxF md).gw:Int):=by
 simp only[Qy,cxF,cxA];have k:kk md n i 2=QG md 2:=by unfold kk;rw[if_pos (by omega)]
 rw[k];simp[QG]
theorem lst_meet {xs:List In}{s:α}:X0 (match QU x go want [] 0 xs with|.error (f,k)=>.error (f,some k)|.ok _=>.ok s) (lstR (QU x go want [] 0 xs)):=by
 cases h:QU x go want [] 0 xs with
 |error e=>exact .inr ⟨e.1,some e.2,rfl,lst_nz x go want xs [] 0 _ _ h,rfl⟩
 |ok g=>exact .inl ⟨_,rfl,rfl⟩
theorem gAt (l:List Qx)(m:List Qx)(j:Nat)(h:j<N l):(l++m).getD j Qx.z=l.getD j Qx.z:=by
 simp[Kx,List.getElem?_append_left h]
theorem ent_meet (I:wfB md=true)(V:Mod.LB 1048576 md)(h1:1<=n)(X:n<=11)(p:i<QG md n):X0 (Js md n i (Qy md n i)) (XZ md n i):=by
 obtain⟨w1,B,w3,A,w5,v,w7,w8,w9,E,D,C⟩:=XS I;rcases(by omega:n=1\/n=2\/n=3\/n=4\/n=5\/n=6\/n=7\/n=8\/n=9\/n=10\/n=11)with rfl|rfl|rfl|rfl|rfl|rfl|rfl|rfl|rfl|rfl|rfl
 . rw[Js,if_neg (by omega),J9,if_pos rfl];exact .inl ⟨_,rfl,rfl⟩
 . (have b:i<N md.cj:=by simpa[QG]using p);rw[Js,if_neg (by omega),J9,if_neg (by omega),if_pos rfl];refine X0.map _ ?_;rw[XZ,if_pos rfl];refine X0.lift ?_;have t:=B _ (Qv (z:=Imp.z) b);have M:=Gg t;(have F:(Qy md 2 i).x=cxA md (N md.types) i 0 0 0 0:=by simp[Qy,kk,QG]);obtain⟨y,H⟩:∃y,y=md.cj.getD i Imp.z:=⟨_,rfl⟩;rw[<- H]at t M⊢;rw[F];unfold impM XG;by_cases r:y.kind=0
   . rw[if_pos r,if_pos r,Xe];(have f:(cxA md (N md.types) i 0 0 0 0).types.length=N md.types:=by simp[cxA]);rw[f];by_cases c:(N md.types:Int)<=y.ty
     . rw[if_neg (by omega),if_pos c];exact .inr ⟨2,rfl,by decide,rfl⟩
     rw[if_pos (by omega),if_neg c];exact .inl ⟨_,rfl,rfl⟩
   rw[if_neg r,if_neg r];by_cases k:y.kind=1
   . rw[if_pos k,if_pos (.inl k)];refine one_meet _ ?_;have L:=imp_lim t (.inl k);(have f:(cxA md (N md.types) i 0 0 0 0).jv=Q0 md 1 i:=by simp[cxA]);rw[f,k];simp only[limE];by_cases c:y.lim.has=true/\y.lim.max<y.lim.min
     . simp[c]
     have u:¬((y.lim.has=true/\y.lim.max<y.lim.min)\/4294967295<y.lim.min\/4294967295<y.lim.max):=by
      rintro(h|h|h)
      . exact c h
      . omega
      omega
     rw[if_neg u];simp[c]
   rw[if_neg k];by_cases q:y.kind=2
   . rw[if_pos q,if_pos (.inr q)];refine one_meet _ ?_;(have f:(cxA md (N md.types) i 0 0 0 0).jz=Q0 md 2 i:=by simp[cxA]);rw[f,q];simp only[limE,decide_true,true_and];by_cases c:(y.lim.has=true/\y.lim.max<y.lim.min)\/65536<y.lim.min\/65536<y.lim.max
     . simp only[if_pos c];simp
     simp only[if_neg c];simp
   rw[if_neg q,if_neg (by rintro(h|h)<;>contradiction)];exact .inl ⟨_,rfl,rfl⟩
 . (have b:i<N md.jk:=by simpa[QG]using p);rw[Js,if_neg (by omega),J9,if_neg (by omega),if_neg (by omega),if_pos rfl];refine X0.map _ ?_;rw[XZ,if_neg (by omega),if_pos rfl];refine X0.lift ?_;(have f:(Qy md 3 i).x.types.length=N md.types:=by simp[Qy,kk,QG,cxA]);rw[Xe,f];by_cases c:(N md.types:Int)<=md.jk.getD i 0
   . rw[if_neg (by omega),if_pos c];exact .inr ⟨2,rfl,by decide,rfl⟩
   rw[if_pos (by omega),if_neg c];exact .inl ⟨_,rfl,rfl⟩
 . (have b:i<N md.cw:=by simpa[QG]using p);rw[Js,if_neg (by omega),J9,if_neg (by omega),if_neg (by omega),if_neg (by omega),if_pos rfl];refine X0.map _ ?_;rw[XZ,if_neg (by omega),if_neg (by omega),if_pos rfl];refine X0.lift (one_meet _ ?_);have L:=lim_b (A _ (Qv (z:=Qd.z) b));(have f:(Qy md 4 i).x.jv=Q0 md 1 (N md.cj)+i:=by simp[Qy,kk,QG,cxA]);rw[f,XX];simp only[ownL,limE,if_false,Mf,false_and,or_false];generalize md.cw.getD i Qd.z=l at *;by_cases c:l.has=true/\l.max<l.min
   . simp[c]
   have u:¬((l.has=true/\l.max<l.min)\/4294967295<l.min\/4294967295<l.max):=by
    rintro(h|h|h)
    . exact c h
    . omega
    omega
   rw[if_neg u];simp[c,Iv]
 . (have b:i<N md.jz:=by simpa[QG]using p);rw[Js,if_neg (by omega),J9,if_neg (by omega),if_neg (by omega),if_neg (by omega),if_neg (by omega),if_pos rfl];refine X0.map _ ?_;rw[XZ,if_neg (by omega),if_neg (by omega),if_neg (by omega),if_pos rfl];refine X0.lift (one_meet _ ?_);(have f:(Qy md 5 i).x.jz=Q0 md 2 (N md.cj)+i:=by simp[Qy,kk,QG,cxA]);rw[f,XX];simp only[ownL,limE,if_true,true_and];generalize md.jz.getD i Qd.z=l at *;by_cases c:(l.has=true/\l.max<l.min)\/65536<l.min\/65536<l.max
   . simp only[if_pos c];simp
   simp only[if_neg c];simp[Iv]
 . (have b:i<N md.ck:=by simpa[QG]using p);rw[Js,if_neg (by omega),J9,if_neg (by omega),if_neg (by omega),if_neg (by omega),if_neg (by omega),if_neg (by omega),if_pos rfl];refine X0.map _ ?_;rw[XZ,if_neg (by omega),if_neg (by omega),if_neg (by omega),if_neg (by omega),if_pos rfl];have s:=go_at (md:=md) (n:=6) (i:=i) (by omega);(have m:∀z∈(md.ck.getD i Qm.z).ini,0<=z.a:=by have s:=v _ (Qv (z:=Qm.z) b);simp only[QY,Ky]at s;exact λz hz=>(XB s.2 (V.2.2.2.2.2.1.2 i b).2 z hz).a0);(have R:∀j:Nat,(j:Int)<((cxF md).gw:Int)->(Qy md 6 i).x.jx.getD j Qx.z=(cxF md).jx.getD j Qx.z:=λj hj=>by(have o:j<(Jf md (N md.cj)).length:=by have:(cxF md).gw=(Jf md (N md.cj)).length:=rfl;omega);(have e1:(Qy md 6 i).x.jx=Jf md (N md.cj)++(md.ck.take i).map (·.ty):=by simp[Qy,kk,QG,cxA]);have Y:(cxF md).jx=Jf md (N md.cj)++(md.ck.take (N md.ck)).map (·.ty):=rfl;rw[e1,Y,gAt _ _ _ o,gAt _ _ _ o]);unfold globM;rw[s,listC_cx R _ _ _ m];exact lst_meet
 . rw[Js,if_pos rfl,XZ,if_neg (by omega),if_neg (by omega),if_neg (by omega),if_neg (by omega),if_neg (by omega),if_pos rfl,cxF_at (by omega)];(have en:(Qy md 7 i).ns=((md.cv.take i).map enm).reverse:=by simp[Qy,kk]);rw[en,expM,Xh];by_cases c:enm (md.cv.getD i Exp.z)∈(md.cv.take i).map enm
   . rw[if_pos (by simpa using c),if_pos c];exact .inr ⟨7,none,rfl,by decide,rfl⟩
   rw[if_neg (by simpa using c),if_neg c];by_cases d:szK (cxF md) (md.cv.getD i Exp.z).kind.toNat<=(md.cv.getD i Exp.z).ix
   . rw[if_pos d,if_pos d];exact .inr ⟨2,none,rfl,by decide,rfl⟩
   rw[if_neg d,if_neg d];exact .inl ⟨_,rfl,rfl⟩
 . rw[Js,if_neg (by omega),J9,if_neg (by omega),if_neg (by omega),if_neg (by omega),if_neg (by omega),if_neg (by omega),if_neg (by omega),if_pos rfl];refine X0.map _ ?_;rw[XZ,if_neg (by omega),if_neg (by omega),if_neg (by omega),if_neg (by omega),if_neg (by omega),if_neg (by omega),if_pos rfl,cxF_at (by omega)];refine X0.lift ?_;unfold X5 startE;by_cases c:md.start<((cxF md).jk.length:Int)
   . rw[if_pos c,if_pos c];split
     · exact .inl ⟨_,rfl,rfl⟩
     exact .inr ⟨6,rfl,by decide,rfl⟩
   rw[if_neg c,if_neg c];exact .inr ⟨2,rfl,by decide,rfl⟩
 . rw[Js,if_neg (by omega),J9,if_neg (by omega),if_neg (by omega),if_neg (by omega),if_neg (by omega),if_neg (by omega),if_neg (by omega),if_neg (by omega),if_pos rfl];refine X0.map _ ?_;rw[XZ,if_neg (by omega),if_neg (by omega),if_neg (by omega),if_neg (by omega),if_neg (by omega),if_neg (by omega),if_neg (by omega),if_pos rfl,cxF_at (by omega),go_at (by omega)];unfold elemM elemE;by_cases c:(cxF md).jv=0
   . rw[if_pos c,if_pos c];exact .inr ⟨2,none,rfl,by decide,rfl⟩
   rw[if_neg c,if_neg c];cases h:QU (cxF md) ((cxF md).gw:Int) 127 [] 0 (md.fq.getD i Ele.z).off with
   |error e=>exact .inr ⟨e.1,some e.2,rfl,lst_nz _ _ _ _ _ _ _ _ h,rfl⟩
   |ok g =>
    show X0 (if Gi _ _ then _ else _) (if Gi _ _ then _ else _)
    split
    · exact .inl ⟨_,rfl,rfl⟩
    . exact .inr ⟨2,none,rfl,by decide,rfl⟩
 . rw[Js,if_neg (by omega),J9,if_neg (by omega),if_neg (by omega),if_neg (by omega),if_neg (by omega),if_neg (by omega),if_neg (by omega),if_neg (by omega),if_neg (by omega),if_pos rfl];refine X0.map _ ?_;rw[XZ,if_neg (by omega),if_neg (by omega),if_neg (by omega),if_neg (by omega),if_neg (by omega),if_neg (by omega),if_neg (by omega),if_neg (by omega),if_pos rfl,cxF_at (by omega)];unfold codeM;cases h:QL (cxF md) frm oty (fn0 (Je md (md.jk.getD i 0)) (md.fj.getD i Cod.z).gq) 0 (md.fj.getD i Cod.z).body with
   |error e=>exact .inr ⟨e.1,some e.2,rfl,body_nz _ _ _ _ _ _ _ _ h,rfl⟩
   |ok g=>exact .inl ⟨_,rfl,rfl⟩
 rw[Js,if_neg (by omega),J9,if_neg (by omega),if_neg (by omega),if_neg (by omega),if_neg (by omega),if_neg (by omega),if_neg (by omega),if_neg (by omega),if_neg (by omega),if_neg (by omega)];refine X0.map _ ?_;rw[XZ,if_neg (by omega),if_neg (by omega),if_neg (by omega),if_neg (by omega),if_neg (by omega),if_neg (by omega),if_neg (by omega),if_neg (by omega),if_neg (by omega),if_pos rfl,cxF_at (by omega),go_at (by omega)];unfold dataM;by_cases c:(cxF md).jz=0
 . rw[if_pos c,if_pos c];exact .inr ⟨2,none,rfl,by decide,rfl⟩
 rw[if_neg c,if_neg c];exact lst_meet
theorem simport_c {D w0 ks V}(n:Nat)(f:Mo D w0 ks V)(j:MdI D w0 md A)(hn:n<N md.cj)(g:N md.cj<=1048576)(k:0<=(md.cj.getD n Imp.z).kind/\(md.cj.getD n Imp.z).kind<=3):Ec Q 130 #[mdV md A,U O (n:Int)] V λe w'=>e=Z (U O (XG md n (md.cj.getD n Imp.z)))/\Bw V.heap.size V w':=by
 obtain⟨y,b⟩:∃y,y=md.cj.getD n Imp.z:=⟨_,rfl⟩;rw[<- b]at k⊢;obtain⟨mod,c,d,ty,a,gl⟩:=y;dsimp only at k;rcases(by omega:d=0\/d=1\/d=2\/d=3)with rfl|rfl|rfl|rfl
 . exact simp_0 n mod c ty a gl f j hn g b.symm
 . exact simp_1 n mod c ty a gl f j hn g b.symm
 . exact simp_2 n mod c ty a gl f j hn g b.symm
 exact simp_3 n mod c ty a gl f j hn g b.symm
theorem JX {D w0 ks V}(n:Mo D w0 ks V)(m:CtR D w0 x t ks):∃(c:Option Ad) (b:Nat) (k:Option Ad) (g:Nat) (f:Option Ad) (d:Nat) (fcs:List Vu) (q:Nat) (W:J) (l:List Qb),t=⟨S c (N x.types) b,S k (N x.jk) g,S f (N x.jx) d,fcs⟩/\q=V.heap.size/\W=(V.alloc (Fc #[S c (N x.types) b,S k (N x.jk) g,S f (N x.jx) d,U O x.gw,U O x.jv,U O x.jz] 80)).alloc (Fc (mdC md A) 48)/\Mo D w0 l W/\Hid (∀{a:J},Mo D w0 l a->a.cell? ⟨q+1,0,none⟩=some (S A.a1 (N md.types) A.c1)/\a.cell? ⟨q+1,1,none⟩=some (S A.a2 (N md.cj) A.c2)/\a.cell? ⟨q+1,2,none⟩=some (S A.a3 (N md.jk) A.c3)/\a.cell? ⟨q+1,3,none⟩=some (S A.a4 (N md.cw) A.c4)/\a.cell? ⟨q+1,4,none⟩=some (S A.a5 (N md.jz) A.c5)/\a.cell? ⟨q+1,5,none⟩=some (S A.a6 (N md.ck) A.c6)/\a.cell? ⟨q+1,6,none⟩=some (S A.a7 (N md.cv) A.c7)/\a.cell? ⟨q+1,7,none⟩=some (G md.gz)/\a.cell? ⟨q+1,8,none⟩=some (U O md.start)/\a.cell? ⟨q+1,9,none⟩=some (S A.a8 (N md.fq) A.c8)/\a.cell? ⟨q+1,10,none⟩=some (S A.a9 (N md.fj) A.c9)/\a.cell? ⟨q+1,11,none⟩=some (S A.a10 (N md.fx) A.c10)/\a.cell? ⟨q+1,12,none⟩=some (S A.a11 (N md.fw) A.c11)/\a.cell? ⟨q,0,none⟩=some (S c (N x.types) b)/\a.cell? ⟨q,1,none⟩=some (S k (N x.jk) g)/\a.cell? ⟨q,2,none⟩=some (S f (N x.jx) d)/\a.cell? ⟨q,3,none⟩=some (U O x.gw)/\a.cell? ⟨q,4,none⟩=some (U O x.jv)/\a.cell? ⟨q,5,none⟩=some (U O x.jz))/\Hid (∀{a:J},Mo D w0 l a->Mo D w0 ks a)/\Hid (CtR D w0 x t l):=by
 obtain⟨c,b,k,g,f,d,o,s,p⟩:=m.shape n;obtain⟨v,B,y,fcs⟩:=t;dsimp only at o s p;subst o s p;refine⟨c,b,k,g,f,d,fcs,V.heap.size,_,box 48 13 (V.heap.size+1) (mdC md A).toList::box 80 6 V.heap.size (cx6 x c b k g f d)::ks,rfl,rfl,rfl,?_,fun {a} h=>?_,λh=>h.tail.tail,m.sub λr hr=>by simp[hr]⟩
 . have:=(n.box (cur:=#[S c (N x.types) b,S k (N x.jk) g,S f (N x.jx) d,U O x.gw,U O x.jv,U O x.jz]) 80 6 rfl).box (cur:=mdC md A) 48 13 rfl;simpa using this
 have z:=λj u hj hu=>(h.tail.b0 j (u:=u) hj hu).1;exact⟨Ql h (mS ..) 0,Ql h (mS ..) 1,Ql h (mS ..) 2,Ql h (mS ..) 3,Ql h (mS ..) 4,Ql h (mS ..) 5,Ql h (mS ..) 6,Ql h (mS ..) 7,Ql h (mS ..) 8,Ql h (mS ..) 9,Ql h (mS ..) 10,Ql h (mS ..) 11,Ql h (mS ..) 12,z 0 _ (by omega) rfl,z 1 _ (by omega) rfl,z 2 _ (by omega) rfl,z 3 _ (by omega) rfl,z 4 _ (by omega) rfl,z 5 _ (by omega) rfl⟩
theorem sent_1 {D w0 ks V}(i:Nat)(g:Mo D w0 ks V)(d:CtR D w0 x t ks)(k:MdI D w0 md A)  :Ec Q 78 #[cxV x t,mdV md A,U O 1,U O (i:Int)] V λe w'=>e=Z (.tuple #[U O 0,U O 0])/\Mo D w0 ks w':=by
 obtain⟨H,F,fa,fc,ga,gc,p,q,W,L0,rfl,f,j,a,u,c,r⟩:=JX (md:=md) (A:=A) g d;obtain⟨m0,m1,m2,m3,Y,X,R,M,L,I,n,m,l,E,C,B,z,y,v⟩:=u.o a;have b:=Hm a;have s:=Hm k;clear g a d k;go_enter func78,ntmps78;go_upto_region 1 with fail
 rw[<- j,<- f];clear j f;go_wp2;go_ret2
 exact⟨rfl,c.o b.o⟩
theorem sent_2 {D w0 ks V}(i:Nat)(l:Mo D w0 ks V)(j:CtR D w0 x t ks)(c:MdI D w0 md A)(y:i<N md.cj)(u:N md.cj<=1048576)(v:0<=(md.cj.getD i Imp.z).kind/\(md.cj.getD i Imp.z).kind<=3):Ec Q 78 #[cxV x t,mdV md A,U O 2,U O (i:Int)] V λe w'=>e=Z (.tuple #[U O (XG md i (md.cj.getD i Imp.z)),U O 0])/\Mo D w0 ks w':=by
 obtain⟨ta,tc,fa,fc,ga,gc,B,q,W,C,rfl,k,n,a,L,f,F⟩:=JX (md:=md) (A:=A) l j;obtain⟨m0,m1,m2,m3,m4,m5,m6,m7,m8,m9,s,r,p,x0,x1,Y,X,R,M⟩:=L.o a;have b:=Hm a;have H:=Hm c;have g:=Hm (λW' (h:Mo D w0 C W')=>simport_c (A:=A) i h c y u v);obtain⟨E,d⟩:∃E,E=(XG md i (md.cj.getD i Imp.z)):=⟨_,rfl⟩;rw[<- d]at g;rw[<- d];clear l a j c d;go_enter func78,ntmps78;go_upto_region 1 with fail
 rw[<- n,<- k];clear n k;go_wp2_with fail
 refine(g.o _ b.o).mono ?_;rintro e w2 ⟨rfl,m⟩;have I:=Hm m;clear m g;go_wp2;go_ret2
 exact⟨rfl,f.o (b.o.keep I.o)⟩
theorem sent_3 {D w0 ks V}(i:Nat)(u:Mo D w0 ks V)(s:CtR D w0 x t ks)(m:MdI D w0 md A)(r:i<N md.jk):Ec Q 78 #[cxV x t,mdV md A,U O 3,U O (i:Int)] V λe w'=>e=Z (.tuple #[U O (if(N md.types:Int)<=md.jk.getD i 0 then 2 else 0),U O 0])/\Mo D w0 ks w':=by
 obtain⟨ta,tc,fa,fc,ga,gc,I,q,W,L0,rfl,k,l,a,R,g,L⟩:=JX (md:=md) (A:=A) u s;obtain⟨m0,m1,B,m3,m4,m5,m6,m7,m8,m9,F,E,C,x0,x1,x2,x3,Y,X⟩:=R.o a;have d:=Hm a;have M:=Hm m;have H:(i:Int)<(N md.jk:Int):=by omega
 rcases m.is.2.2.1 with n|⟨b,off,z,_,y⟩
 . rw[n]at r;simp at r
 have j:=y i r;obtain⟨f,v⟩:∃f,f=md.jk.getD i 0:=⟨_,rfl⟩;rw[<- v]at j⊢;have d0:=(a.b.cell (p:=⟨b,off+i,none⟩) (m.cd _ _ _ j)).trans j;rw[z]at B;clear u a s m y j v z;by_cases c:(N md.types:Int)<=f
 . rw[if_pos c];go_enter func78,ntmps78;(go_upto_region 1 with fail);rw[<- l,<- k];clear l k;(go_wp2_with fail);(go_quiet (fail));go_wp2;(go_ret2);exact⟨rfl,g.o (d.o.drewN _)⟩
 rw[if_neg c];go_enter func78,ntmps78;go_upto_region 1 with fail
 rw[<- l,<- k];clear l k;go_wp2_with fail
 go_quiet (fail)
 go_wp2;go_ret2
 exact⟨rfl,g.o (d.o.drewN _)⟩
theorem sent_4 {D w0 ks V}(i:Nat)(m:Mo D w0 ks V)(k:CtR D w0 x t ks)(d:MdI D w0 md A)(y:i<N md.cw)(v:N md.cj<=1048576)(c:N md.cw<=1048576):Ec Q 78 #[cxV x t,mdV md A,U O 4,U O (i:Int)] V λe w'=>e=Z (.tuple #[U O (XX md i false),U O 0])/\Mo D w0 ks w':=by
 obtain⟨ta,tc,fa,fc,ga,gc,z,q,W,B,rfl,l,p,a,I,g,C⟩:=JX (md:=md) (A:=A) m k;obtain⟨m0,m1,m2,m3,m4,m5,m6,m7,m8,m9,u,s,r,x0,Y,X,R,M,L⟩:=I.o a;have b:=Hm a;have F:=Hm d;have j:=Hm (λW' (h:Mo D w0 B W')=>sown_1 (A:=A) i h d y v c);obtain⟨E,f⟩:∃E,E=(XX md i false):=⟨_,rfl⟩;rw[<- f]at j;rw[<- f];clear m a k d f;go_enter func78,ntmps78;go_upto_region 1 with fail
 rw[<- p,<- l];clear p l;go_wp2_with fail
 refine(j.o _ b.o).mono ?_;rintro e w2 ⟨rfl,n⟩;have H:=Hm n;clear n j;go_wp2;go_ret2
 exact⟨rfl,g.o (b.o.keep H.o)⟩
theorem sent_5 {D w0 ks V}(i:Nat)(m:Mo D w0 ks V)(k:CtR D w0 x t ks)(d:MdI D w0 md A)(y:i<N md.jz)(v:N md.cj<=1048576)(c:N md.jz<=1048576):Ec Q 78 #[cxV x t,mdV md A,U O 5,U O (i:Int)] V λe w'=>e=Z (.tuple #[U O (XX md i true),U O 0])/\Mo D w0 ks w':=by
 obtain⟨ta,tc,fa,fc,ga,gc,z,q,W,B,rfl,l,p,a,I,g,C⟩:=JX (md:=md) (A:=A) m k;obtain⟨m0,m1,m2,m3,m4,m5,m6,m7,m8,m9,u,s,r,x0,Y,X,R,M,L⟩:=I.o a;have b:=Hm a;have F:=Hm d;have j:=Hm (λW' (h:Mo D w0 B W')=>sown_2 (A:=A) i h d y v c);obtain⟨E,f⟩:∃E,E=(XX md i true):=⟨_,rfl⟩;rw[<- f]at j;rw[<- f];clear m a k d f;go_enter func78,ntmps78;go_upto_region 1 with fail
 rw[<- p,<- l];clear p l;go_wp2_with fail
 refine(j.o _ b.o).mono ?_;rintro e w2 ⟨rfl,n⟩;have H:=Hm n;clear n j;go_wp2;go_ret2
 exact⟨rfl,g.o (b.o.keep H.o)⟩
theorem sent_7 {D w0 ks V}(i:Nat)(m:Mo D w0 ks V)(k:CtR D w0 x t ks)(c:MdI D w0 md A)(B:i<N md.cv)(v:N md.cv<=1048576)(y:0<=(md.cv.getD i Exp.z).kind/\(md.cv.getD i Exp.z).kind<=3):Ec Q 78 #[cxV x t,mdV md A,U O 7,U O (i:Int)] V λe w'=>e=Z (.tuple #[U O (Xh x md i),U O 0])/\Mo D w0 ks w':=by
 obtain⟨ta,tc,fa,fc,ga,gc,C,q,W,F,rfl,l,p,a,L,g,f⟩:=JX (md:=md) (A:=A) m k;obtain⟨m0,m1,m2,m3,m4,m5,m6,m7,m8,m9,u,s,r,x0,x1,Y,X,R,M⟩:=L.o a;have b:=Hm a;have H:=Hm c;have j:=Hm (λW' (h:Mo D w0 F W')=>sexport_c i h f.o c B v y);obtain⟨E,d⟩:∃E,E=(Xh x md i):=⟨_,rfl⟩;rw[<- d]at j;rw[<- d];clear m a k c d;go_enter func78,ntmps78;go_upto_region 1 with fail
 rw[<- p,<- l];clear p l;go_wp2_with fail
 refine(j.o _ b.o).mono ?_;rintro e w2 ⟨rfl,n⟩;have I:=Hm n;clear n j;go_wp2;go_ret2
 exact⟨rfl,g.o (b.o.keep I.o)⟩
theorem sent_8 {D w0 ks V}(i:Nat)(l:Mo D w0 ks V)(j:CtR D w0 x t ks)(p:MdI D w0 md A)(v:0<=md.start)(C:CxB x):Ec Q 78 #[cxV x t,mdV md A,U O 8,U O (i:Int)] V λe w'=>e=Z (.tuple #[U O (startE x md.start),U O 0])/\Mo D w0 ks w':=by
 obtain⟨ta,tc,fa,fc,ga,gc,y,q,W,z,rfl,k,n,a,H,f,d⟩:=JX (md:=md) (A:=A) l j;obtain⟨m0,m1,m2,m3,m4,m5,m6,m7,m8,m9,u,s,r,Y,X,R,M,L,I⟩:=H.o a;have b:=Hm a;have B:=Hm p;have g:=Hm (λW' (h:Mo D w0 z W')=>sstart_c (A:=A) h d.o v C);obtain⟨E,c⟩:∃E,E=(startE x md.start):=⟨_,rfl⟩;rw[<- c]at g;rw[<- c];clear l a j p c;go_enter func78,ntmps78;go_upto_region 1 with fail
 rw[<- n,<- k];clear n k;go_wp2_with fail
 refine(g.o _ b.o).mono ?_;rintro e w2 ⟨rfl,m⟩;have F:=Hm m;clear m g;go_wp2;go_ret2
 exact⟨rfl,f.o (b.o.keep F.o)⟩
theorem sent_11z {D w0 ks V}(i:Nat)(j:Mo D w0 ks V)(f:CtR D w0 x t ks)(l:MdI D w0 md A)(b:x.jz=0):Ec Q 78 #[cxV x t,mdV md A,U O 11,U O (i:Int)] V λe w'=>e=Z (.tuple #[U O 2,U O 0])/\Mo D w0 ks w':=by
 obtain⟨L,I,fa,fc,ga,gc,s,q,W,L0,rfl,g,k,a,y,d,u⟩:=JX (md:=md) (A:=A) j f;obtain⟨m0,m1,m2,m3,m4,m5,Y,X,R,M,p,n,m,H,F,E,C,B,z⟩:=y.o a;have c:=Hm a;have v:=Hm l;have r:((x.jz:Int)==0)=true:=by simp[b]
 clear j a f l b;go_enter func78,ntmps78;go_upto_region 1 with fail
 rw[<- k,<- g];clear k g;go_wp2;go_ret2
 exact⟨rfl,d.o c.o⟩
theorem sent_6 {D w0 ks V}(i:Nat)(hm:Mo D w0 ks V)(hx:CtR D w0 x t ks)(v:MdI D w0 md A)(Y:i<N md.ck)(hl:N md.ck<=1048576)(a:(md.ck.getD i Qm.z).ini.length<=1048576)(d:∀y∈(md.ck.getD i Qm.z).ini,InB y)(X:x.gw<=N x.jx)(f:QF (md.ck.getD i Qm.z).ini=true):Ec Q 78 #[cxV x t,mdV md A,U O 6,U O (i:Int)] V λe w'=>e=Z (.tuple #[U O (lstR (QU x x.gw (md.ck.getD i Qm.z).ty.ty [] 0 (md.ck.getD i Qm.z).ini)).1,U O (lstR (QU x x.gw (md.ck.getD i Qm.z).ty.ty [] 0 (md.ck.getD i Qm.z).ini)).2])/\Mo D w0 ks w':=by
 obtain⟨ta,tc,fa,fc,ga,gc,bs,q,W,L0,rfl,hq,hW,c,CL,ac,ab⟩:=JX (md:=md) (A:=A) hm hx;obtain⟨m0,m1,m2,m3,m4,m5,m6,m7,m8,m9,H,F,C,x0,x1,x2,x3,x4,x5⟩:=CL.o c;have bv:=Hm c;have s:=Hm v;have bq:(i:Int)<(N md.ck:Int):=by omega
 rcases v.is.2.2.2.2.2.1 with R|⟨b,off,ea,_,hc⟩
 . rw[R]at Y;simp at Y
 obtain⟨L,I,⟨l,M,k⟩,m⟩:=hc i Y;have j:=In.Ls.inl v.cd m;obtain⟨y,hy⟩:∃y,y=md.ck.getD i Qm.z:=⟨_,rfl⟩;rw[<- hy]at l M k a d f j⊢;obtain⟨⟨g,br⟩,u⟩:=y;dsimp only at l M k a d f j⊢;have ad:=Hm ea;have SF:Hid (∀{W':J},Mo D w0 L0 W'->W'.cell? ⟨q+1,5,none⟩=some (S (some ⟨b,off,none⟩) (N md.ck) A.c6)/\W'.cell? ⟨q,0,none⟩=some (S ta (N x.types) tc)/\W'.cell? ⟨q,1,none⟩=some (S fa (N x.jk) fc)/\W'.cell? ⟨q,2,none⟩=some (S ga (N x.jx) gc)/\W'.cell? ⟨q,3,none⟩=some (U O x.gw)/\W'.cell? ⟨q,4,none⟩=some (U O x.jv)/\W'.cell? ⟨q,5,none⟩=some (U O x.jz)/\W'.cell? ⟨b,off+i*3+2,none⟩=some (S L (N u) I)/\W'.cell? ⟨b,off+i*3,none⟩=some (U O g)):=fun {W'} h=>by obtain⟨_,_,_,_,_,n5,_,_,_,_,_,_,_,y0,y1,y2,y3,y4,y5⟩:=CL.o h;rw[ad.o]at n5;exact⟨n5,y0,y1,y2,y3,y4,y5,(h.b.cell (p:=⟨b,off+i*3+2,none⟩) (s.o.cd _ _ _ k)).trans k,(h.b.cell (p:=⟨b,off+i*3,none⟩) (s.o.cd _ _ _ l)).trans l⟩
 have r:Hid (Mo D w0 L0 W.drew):=c.drewN 1;have S0:=Hm (SF.o r.o);obtain⟨E,B⟩:∃E,E=lstR (QU x x.gw g [] 0 u):=⟨_,rfl⟩;rw[<- B];have bw:=Hm B;have HC:=Hm (λW' (h:Mo D w0 L0 W')=>slist_c L I u g h ab.o j a d X f);rw[<- B]at HC;clear hm c hx v B;clear hc l M k m ea hy j a d f;clear m0 m1 m2 m3 m4 m5 m6 m7 m8 m9 H F C x0 x1 x2 x3 x4 x5;go_enter func78,ntmps78;go_upto_region 1 with fail
 rw[<- hW,<- hq];clear hW hq;go_wp2_with fail
 go_region_held3 (λw'=>w'.cell? ⟨q+1,5,none⟩=some (S (some ⟨b,off,none⟩) (N md.ck) A.c6)/\w'.cell? ⟨q,0,none⟩=some (S ta (N x.types) tc)/\w'.cell? ⟨q,1,none⟩=some (S fa (N x.jk) fc)/\w'.cell? ⟨q,2,none⟩=some (S ga (N x.jx) gc)/\w'.cell? ⟨q,3,none⟩=some (U O x.gw)/\w'.cell? ⟨q,4,none⟩=some (U O x.jv)/\w'.cell? ⟨q,5,none⟩=some (U O x.jz)/\w'.cell? ⟨b,off+i*3+2,none⟩=some (S L (N u) I)/\w'.cell? ⟨b,off+i*3,none⟩=some (U O g))
  (first|with_reducible exact S0.o|with_reducible exact S2.o|with_reducible exact S3.o)
  (first
   | (
    go_at_call 132
    refine Lk (HC.o _ r.o) ?_
    rintro e w2 ⟨rfl,hb⟩;have n:=Hm (hb);have S2:=Hm (SF.o n.o);clear hb)
  )
 all_goals
  go_wp2_with fail
  go_ret2
  exact⟨rfl,ac.o n.o⟩
theorem sent_9 {D w0 ks V}(i:Nat)(hm:Mo D w0 ks V)(hx:CtR D w0 x t ks)(s:MdI D w0 md A)(hi:i<N md.fq)(hl:N md.fq<=1048576)(a:(md.fq.getD i Ele.z).off.length<=1048576)(d:∀y∈(md.fq.getD i Ele.z).off,InB y)(ac:x.gw<=N x.jx)(g:QF (md.fq.getD i Ele.z).off=true)(f:(md.fq.getD i Ele.z).fs.length<=1048576):Ec Q 78 #[cxV x t,mdV md A,U O 9,U O (i:Int)] V λe w'=>e=Z (.tuple #[U O (elemE x (md.fq.getD i Ele.z).off (md.fq.getD i Ele.z).fs).1,U O (elemE x (md.fq.getD i Ele.z).off (md.fq.getD i Ele.z).fs).2])/\Mo D w0 ks w':=by
 obtain⟨ta,tc,fa,fc,ga,gc,bv,q,W,L0,rfl,hq,hW,c,CL,ag,af⟩:=JX (md:=md) (A:=A) hm hx;obtain⟨m0,m1,m2,m3,m4,m5,m6,m7,m8,m9,X,R,M,x0,x1,x2,x3,x4,x5⟩:=CL.o c;have b1:=Hm c;have B:=Hm s;have bu:(i:Int)<(N md.fq:Int):=by omega
 rcases s.is.2.2.2.2.2.2.2.1 with ab|⟨b,off,ea,_,hc⟩
 . rw[ab]at hi;simp at hi
 obtain⟨la,Y,L,F,⟨m,l⟩,n,r⟩:=hc i hi;have k:=In.Ls.inl s.cd n;have j:=HI.ty s.cd F r;obtain⟨y,hy⟩:∃y,y=md.fq.getD i Ele.z:=⟨_,rfl⟩;rw[<- hy]at m l a d g k j f⊢;obtain⟨C,I⟩:=y;dsimp only at m l a d g k j f⊢;have ah:=Hm ea;have SF:Hid (∀{W':J},Mo D w0 L0 W'->W'.cell? ⟨q+1,9,none⟩=some (S (some ⟨b,off,none⟩) (N md.fq) A.c8)/\W'.cell? ⟨q,0,none⟩=some (S ta (N x.types) tc)/\W'.cell? ⟨q,1,none⟩=some (S fa (N x.jk) fc)/\W'.cell? ⟨q,2,none⟩=some (S ga (N x.jx) gc)/\W'.cell? ⟨q,3,none⟩=some (U O x.gw)/\W'.cell? ⟨q,4,none⟩=some (U O x.jv)/\W'.cell? ⟨q,5,none⟩=some (U O x.jz)/\W'.cell? ⟨b,off+i*2,none⟩=some (S la (N C) Y)/\W'.cell? ⟨b,off+i*2+1,none⟩=some (S L (N I) F)):=fun {W'} h=>by obtain⟨_,_,_,_,_,_,_,_,_,n9,_,_,_,y0,y1,y2,y3,y4,y5⟩:=CL.o h;rw[ah.o]at n9;exact⟨n9,y0,y1,y2,y3,y4,y5,(h.b.cell (p:=⟨b,off+i*2,none⟩) (B.o.cd _ _ _ m)).trans m,(h.b.cell (p:=⟨b,off+i*2+1,none⟩) (B.o.cd _ _ _ l)).trans l⟩
 have v:Hid (Mo D w0 L0 W.drew):=c.drewN 1;have S0:=Hm (SF.o v.o);obtain⟨E,H⟩:∃E,E=elemE x C I:=⟨_,rfl⟩;rw[<- H];have b2:=Hm H;have HC:=Hm (λW' (h:Mo D w0 L0 W')=>selem_c la Y C L F I h af.o k a d ac g j f);rw[<- H]at HC;clear hm c hx s H;clear hc m l n r ea hy k j a d g f;clear m0 m1 m2 m3 m4 m5 m6 m7 m8 m9 X R M x0 x1 x2 x3 x4 x5;go_enter func78,ntmps78;go_upto_region 1 with fail
 rw[<- hW,<- hq];clear hW hq;go_wp2_with fail
 go_region_held3 (λw'=>w'.cell? ⟨q+1,9,none⟩=some (S (some ⟨b,off,none⟩) (N md.fq) A.c8)/\w'.cell? ⟨q,0,none⟩=some (S ta (N x.types) tc)/\w'.cell? ⟨q,1,none⟩=some (S fa (N x.jk) fc)/\w'.cell? ⟨q,2,none⟩=some (S ga (N x.jx) gc)/\w'.cell? ⟨q,3,none⟩=some (U O x.gw)/\w'.cell? ⟨q,4,none⟩=some (U O x.jv)/\w'.cell? ⟨q,5,none⟩=some (U O x.jz)/\w'.cell? ⟨b,off+i*2,none⟩=some (S la (N C) Y)/\w'.cell? ⟨b,off+i*2+1,none⟩=some (S L (N I) F))
  (first|with_reducible exact S0.o|with_reducible exact S2.o|with_reducible exact S3.o)
  (first
   | (
    go_at_call 135
    refine Lk (HC.o _ v.o) ?_
    rintro e w2 ⟨rfl,hb⟩;have u:=Hm (hb);have S2:=Hm (SF.o u.o);clear hb)
  )
 all_goals
  go_wp2_with fail
  go_ret2
  exact⟨rfl,ag.o u.o⟩
theorem sent_11 {D w0 ks V}(i:Nat)(hm:Mo D w0 ks V)(hx:CtR D w0 x t ks)(u:MdI D w0 md A)(X:i<N md.fx)(hl:N md.fx<=1048576)(a:(md.fx.getD i Dat.z).off.length<=1048576)(d:∀y∈(md.fx.getD i Dat.z).off,InB y)(R:x.gw<=N x.jx)(f:QF (md.fx.getD i Dat.z).off=true)(l:x.jz≠0):Ec Q 78 #[cxV x t,mdV md A,U O 11,U O (i:Int)] V λe w'=>e=Z (.tuple #[U O (lstR (QU x x.gw 127 [] 0 (md.fx.getD i Dat.z).off)).1,U O (lstR (QU x x.gw 127 [] 0 (md.fx.getD i Dat.z).off)).2])/\Mo D w0 ks w':=by
 obtain⟨ta,tc,fa,fc,ga,gc,br,q,W,L0,rfl,hq,hW,c,CL,ad,ab⟩:=JX (md:=md) (A:=A) hm hx;obtain⟨m0,m1,m2,m3,m4,m5,m6,m7,m8,m9,F,C,B,x0,x1,x2,x3,x4,x5⟩:=CL.o c;have bu:=Hm c;have ac:=Hm u;have bq:(i:Int)<(N md.fx:Int):=by omega
 have bp:((x.jz:Int)==0)=false:=by simp[l]
 rcases u.is.2.2.2.2.2.2.2.2.2.1 with M|⟨b,off,ea,_,hc⟩
 . rw[M]at X;simp at X
 obtain⟨I,H,ra,rc,⟨k,L⟩,m,Y⟩:=hc i X;have g:=In.Ls.inl u.cd m;obtain⟨y,hy⟩:∃y,y=md.fx.getD i Dat.z:=⟨_,rfl⟩;rw[<- hy]at k L a d f g⊢;obtain⟨s,fs⟩:=y;dsimp only at k L a d f g⊢;have ae:=Hm ea;have SF:Hid (∀{W':J},Mo D w0 L0 W'->W'.cell? ⟨q+1,11,none⟩=some (S (some ⟨b,off,none⟩) (N md.fx) A.c10)/\W'.cell? ⟨q,0,none⟩=some (S ta (N x.types) tc)/\W'.cell? ⟨q,1,none⟩=some (S fa (N x.jk) fc)/\W'.cell? ⟨q,2,none⟩=some (S ga (N x.jx) gc)/\W'.cell? ⟨q,3,none⟩=some (U O x.gw)/\W'.cell? ⟨q,4,none⟩=some (U O x.jv)/\W'.cell? ⟨q,5,none⟩=some (U O x.jz)/\W'.cell? ⟨b,off+i*2,none⟩=some (S I (N s) H)):=fun {W'} h=>by obtain⟨_,_,_,_,_,_,_,_,_,_,_,j,_,y0,y1,y2,y3,y4,y5⟩:=CL.o h;rw[ae.o]at j;exact⟨j,y0,y1,y2,y3,y4,y5,(h.b.cell (p:=⟨b,off+i*2,none⟩) (ac.o.cd _ _ _ k)).trans k⟩
 have r:Hid (Mo D w0 L0 W.drew):=c.drewN 1;have S0:=Hm (SF.o r.o);obtain⟨E,v⟩:∃E,E=lstR (QU x x.gw 127 [] 0 s):=⟨_,rfl⟩;rw[<- v];have bv:=Hm v;have HC:=Hm (λW' (h:Mo D w0 L0 W')=>slist_c I H s 127 h ab.o g a d R f);rw[<- v]at HC;clear hm c hx u v;clear hc k L m Y ea hy g a d f l;clear m0 m1 m2 m3 m4 m5 m6 m7 m8 m9 F C B x0 x1 x2 x3 x4;go_enter func78,ntmps78;go_upto_region 1 with fail
 rw[<- hW,<- hq];clear hW hq;go_wp2_with fail
 go_region_held3 (λw'=>w'.cell? ⟨q+1,11,none⟩=some (S (some ⟨b,off,none⟩) (N md.fx) A.c10)/\w'.cell? ⟨q,0,none⟩=some (S ta (N x.types) tc)/\w'.cell? ⟨q,1,none⟩=some (S fa (N x.jk) fc)/\w'.cell? ⟨q,2,none⟩=some (S ga (N x.jx) gc)/\w'.cell? ⟨q,3,none⟩=some (U O x.gw)/\w'.cell? ⟨q,4,none⟩=some (U O x.jv)/\w'.cell? ⟨q,5,none⟩=some (U O x.jz)/\w'.cell? ⟨b,off+i*2,none⟩=some (S I (N s) H))
  (first|with_reducible exact S0.o|with_reducible exact S2.o|with_reducible exact S3.o)
  (first
   | (
    go_at_call 132
    refine Lk (HC.o _ r.o) ?_
    rintro e w2 ⟨rfl,hb⟩;have n:=Hm (hb);have S2:=Hm (SF.o n.o);clear hb)
  )
 all_goals
  go_wp2_with fail
  go_ret2
  exact⟨rfl,ad.o n.o⟩
theorem sent_10 {D w0 ks V}(i:Nat)(hm:Mo D w0 ks V)(hx:CtR D w0 x t ks)(v:MdI D w0 md A)(hi:i<N md.fj)(u:i<N md.jk)(hl:N md.fj<=1048576)(a9:N md.types<=1048576)(dk:N md.jk<=1048576)(h0:0<=md.jk.getD i 0)(g:(Je md (md.jk.getD i 0)).ps.length<=1048577)(m:(md.fj.getD i Cod.z).gq.length<=1048577)(hs:∀k,k<=(md.fj.getD i Cod.z).gq.length->0<=QJ ((md.fj.getD i Cod.z).gq.take k)/\QJ ((md.fj.getD i Cod.z).gq.take k)<=4503599627370496*4)(B:Bd (fn0 (Je md (md.jk.getD i 0)) (md.fj.getD i Cod.z).gq))(C:CxB x)(l:∀y∈(md.fj.getD i Cod.z).body,InB y)(d:(md.fj.getD i Cod.z).body.length<=1048576)(c:goM (nst (fn0 (Je md (md.jk.getD i 0)) (md.fj.getD i Cod.z).gq)) (md.fj.getD i Cod.z).body=true):Ec Q 78 #[cxV x t,mdV md A,U O 10,U O (i:Int)] V λe w'=>e=Z (.tuple #[U O (bodyR (QL x frm oty (fn0 (Je md (md.jk.getD i 0)) (md.fj.getD i Cod.z).gq) 0 (md.fj.getD i Cod.z).body)).1,U O (bodyR (QL x frm oty (fn0 (Je md (md.jk.getD i 0)) (md.fj.getD i Cod.z).gq) 0 (md.fj.getD i Cod.z).body)).2])/\Mo D w0 ks w':=by
 obtain⟨ta,tc,fa,fc,ga,gc,dn,q,W,L0,rfl,hq,hW,j,CL,bj,bh⟩:=JX (md:=md) (A:=A) hm hx;obtain⟨m0,m1,m2,m3,m4,m5,m6,m7,m8,m9,az,ay,ax,x0,x1,x2,x3,x4,x5⟩:=CL.o j;have ds:=Hm j;have I:=Hm v;have dl:(i:Int)<(N md.fj:Int):=by omega
 have dm:(i:Int)<(N md.jk:Int):=by omega
 rcases v.is.2.2.2.2.2.2.2.2.1 with s|⟨b,off,ea,_,hc⟩
 . rw[s]at hi;simp at hi
 rcases v.is.2.2.1 with s|⟨L,a,F,_,aa⟩
 . rw[s]at u;simp at u
 obtain⟨la,lc,ra,rc,⟨X,R⟩,Y,ab⟩:=hc i hi;have k3:=aa i u;have r:=Grp.Ls.grl v.cd Y;have n:=In.Ls.inl v.cd ab;obtain⟨f,hf⟩:∃f,f=md.jk.getD i 0:=⟨_,rfl⟩;obtain⟨y,hy⟩:∃y,y=md.fj.getD i Cod.z:=⟨_,rfl⟩;rw[<- hf]at k3 h0 g B c⊢;rw[<- hy]at X R m hs B l d c r n⊢;obtain⟨gs,xs⟩:=y;dsimp only at X R m hs B l d c r n⊢;obtain⟨pa,pc,va,vc,tp,tr,hT⟩:=stypeAt_v f v h0 a9;obtain⟨T,ad⟩:∃T,T=Je md f:=⟨_,rfl⟩;rw[<- ad]at tp tr hT g B c⊢;have HT:=Hm hT;have bl:=Hm ea;have ag:=Hm F
 have SF:Hid (∀{W':J},Mo D w0 L0 W'->W'.cell? ⟨q+1,0,none⟩=some (S A.a1 (N md.types) A.c1)/\W'.cell? ⟨q+1,1,none⟩=some (S A.a2 (N md.cj) A.c2)/\W'.cell? ⟨q+1,2,none⟩=some (S (some ⟨L,a,none⟩) (N md.jk) A.c3)/\W'.cell? ⟨q+1,3,none⟩=some (S A.a4 (N md.cw) A.c4)/\W'.cell? ⟨q+1,4,none⟩=some (S A.a5 (N md.jz) A.c5)/\W'.cell? ⟨q+1,5,none⟩=some (S A.a6 (N md.ck) A.c6)/\W'.cell? ⟨q+1,6,none⟩=some (S A.a7 (N md.cv) A.c7)/\W'.cell? ⟨q+1,7,none⟩=some (G md.gz)/\W'.cell? ⟨q+1,8,none⟩=some (U O md.start)/\W'.cell? ⟨q+1,9,none⟩=some (S A.a8 (N md.fq) A.c8)/\W'.cell? ⟨q+1,10,none⟩=some (S (some ⟨b,off,none⟩) (N md.fj) A.c9)/\W'.cell? ⟨q+1,11,none⟩=some (S A.a10 (N md.fx) A.c10)/\W'.cell? ⟨q+1,12,none⟩=some (S A.a11 (N md.fw) A.c11)/\W'.cell? ⟨q,0,none⟩=some (S ta (N x.types) tc)/\W'.cell? ⟨q,1,none⟩=some (S fa (N x.jk) fc)/\W'.cell? ⟨q,2,none⟩=some (S ga (N x.jx) gc)/\W'.cell? ⟨q,3,none⟩=some (U O x.gw)/\W'.cell? ⟨q,4,none⟩=some (U O x.jv)/\W'.cell? ⟨q,5,none⟩=some (U O x.jz)/\W'.cell? ⟨L,a+i,none⟩=some (U O f)/\W'.cell? ⟨b,off+i*2,none⟩=some (S la (N gs) lc)/\W'.cell? ⟨b,off+i*2+1,none⟩=some (S ra (N xs) rc)):=fun {W'} h=>by obtain⟨n0,n1,n2,n3,n4,n5,n6,n7,n8,n9,M,aw,av,y0,y1,y2,y3,y4,y5⟩:=CL.o h;rw[bl.o]at M;rw[ag.o]at n2;exact⟨n0,n1,n2,n3,n4,n5,n6,n7,n8,n9,M,aw,av,y0,y1,y2,y3,y4,y5,(h.b.cell (p:=⟨L,a+i,none⟩) (I.o.cd _ _ _ k3)).trans k3,(h.b.cell (p:=⟨b,off+i*2,none⟩) (I.o.cd _ _ _ X)).trans X,(h.b.cell (p:=⟨b,off+i*2+1,none⟩) (I.o.cd _ _ _ R)).trans R⟩
 have H:Hid (Mo D w0 L0 W.drew):=j.drewN 1;have S0:=Hm (SF.o H.o);obtain⟨E,hE⟩:∃E,E=bodyR (QL x frm oty (fn0 T gs) 0 xs):=⟨_,rfl⟩;rw[<- hE];have dt:=Hm hE;have HC:=Hm (λW' (h:Mo D w0 L0 W')=>sbody_c T (S pa (N T.ps) pc) (S va (N T.rs) vc) la lc gs ra rc xs h bh.o tp tr r g m hs B C n l d c);rw[<- hE]at HC;have ET:Hid (#[mdV md A,Value.int O f]=#[Ag #[S A.a1 (N md.types) A.c1,S A.a2 (N md.cj) A.c2,S (some ⟨L,a,none⟩) (N md.jk) A.c3,S A.a4 (N md.cw) A.c4,S A.a5 (N md.jz) A.c5,S A.a6 (N md.ck) A.c6,S A.a7 (N md.cv) A.c7,G md.gz,U O md.start,S A.a8 (N md.fq) A.c8,S (some ⟨b,off,none⟩) (N md.fj) A.c9,S A.a10 (N md.fx) A.c10,S A.a11 (N md.fw) A.c11],U O f]):=by show _=_;rw[<- ea,<- F]
 rw[ET.o]at HT;clear hm j hx v hE;clear hc aa X R k3 Y ab ea F hy hf r n g m hs B C l d c tp tr hT ad h0;clear m0 m1 m2 m3 m4 m5 m6 m7 m8 m9 az ay ax x0 x1 x2 x3 x4 x5;go_enter func78,ntmps78;go_upto_region 1 with fail
 rw[<- hW,<- hq];clear hW hq;go_wp2_with fail
 go_region_held3 (λw'=>w'.cell? ⟨q+1,0,none⟩=some (S A.a1 (N md.types) A.c1)/\w'.cell? ⟨q+1,1,none⟩=some (S A.a2 (N md.cj) A.c2)/\w'.cell? ⟨q+1,2,none⟩=some (S (some ⟨L,a,none⟩) (N md.jk) A.c3)/\w'.cell? ⟨q+1,3,none⟩=some (S A.a4 (N md.cw) A.c4)/\w'.cell? ⟨q+1,4,none⟩=some (S A.a5 (N md.jz) A.c5)/\w'.cell? ⟨q+1,5,none⟩=some (S A.a6 (N md.ck) A.c6)/\w'.cell? ⟨q+1,6,none⟩=some (S A.a7 (N md.cv) A.c7)/\w'.cell? ⟨q+1,7,none⟩=some (G md.gz)/\w'.cell? ⟨q+1,8,none⟩=some (U O md.start)/\w'.cell? ⟨q+1,9,none⟩=some (S A.a8 (N md.fq) A.c8)/\w'.cell? ⟨q+1,10,none⟩=some (S (some ⟨b,off,none⟩) (N md.fj) A.c9)/\w'.cell? ⟨q+1,11,none⟩=some (S A.a10 (N md.fx) A.c10)/\w'.cell? ⟨q+1,12,none⟩=some (S A.a11 (N md.fw) A.c11)/\w'.cell? ⟨q,0,none⟩=some (S ta (N x.types) tc)/\w'.cell? ⟨q,1,none⟩=some (S fa (N x.jk) fc)/\w'.cell? ⟨q,2,none⟩=some (S ga (N x.jx) gc)/\w'.cell? ⟨q,3,none⟩=some (U O x.gw)/\w'.cell? ⟨q,4,none⟩=some (U O x.jv)/\w'.cell? ⟨q,5,none⟩=some (U O x.jz)/\w'.cell? ⟨L,a+i,none⟩=some (U O f)/\w'.cell? ⟨b,off+i*2,none⟩=some (S la (N gs) lc)/\w'.cell? ⟨b,off+i*2+1,none⟩=some (S ra (N xs) rc))
  (first|with_reducible exact S0.o|with_reducible exact S2.o|with_reducible exact S3.o)
  (first
   | (
    go_at_call 26
    refine Lk (HT.o _ _ H.o) ?_
    rintro e w2 ⟨rfl,hb⟩;have af:=Hm (H.o.keep hb);have S2:=Hm (SF.o af.o);clear hb)
   | (
    go_at_call 136
    refine Lk (HC.o _ af.o) ?_
    rintro e w3 ⟨rfl,hb⟩;have ae:=Hm (hb);have S3:=Hm (SF.o ae.o);clear hb)
  )
 all_goals
  go_wp2_with fail
  go_ret2
  exact⟨rfl,bj.o ae.o⟩
theorem imp_gl (md:Mod):(cxF md).gw<=(cxF md).jx.length:=by
 show(Jf md (N md.cj)).length<=(Jf md (N md.cj)++_).length;simp
theorem cxF_b (a:Mod.LB 1048576 md):CxB (cxF md):=by
 have:=(st_b a 7 0).1;rwa [cxF_at (by omega)]at this
theorem sent_c {D w0 ks V}(hw:wfB md=true)(m:Mod.LB 1048576 md)(h1:1<=n)(aj:n<=11)(l:i<QG md n)(g:Mo D w0 ks V)(f:CtR D w0 (cxF md) t ks)(j:MdI D w0 md A):Ec Q 78 #[cxV (cxF md) t,mdV md A,U O (n:Int),U O (i:Int)] V λe w'=>e=Z (.tuple #[U O (XZ md n i).1,U O (XZ md n i).2])/\Mo D w0 ks w':=by
 obtain⟨w1,M,L,w4,w5,I,H,F,E,r,q,R⟩:=XS hw;have C:=cxF_b m;obtain⟨l1,s,l3,l4,l5,l6,l7,Y,X,u,af⟩:=Gd m;rcases(by omega:n=1\/n=2\/n=3\/n=4\/n=5\/n=6\/n=7\/n=8\/n=9\/n=10\/n=11)with rfl|rfl|rfl|rfl|rfl|rfl|rfl|rfl|rfl|rfl|rfl
 . exact(sent_1 i g f j).mono λe w' ⟨he,h⟩=>⟨by rw[he];rfl,h⟩
 . (have a:i<N md.cj:=by simpa[QG]using l);have y:=Gg (M _ (Qv (z:=Imp.z) a));exact(sent_2 i g f j a s ⟨y.1,y.2.1⟩).mono λe w' ⟨he,h⟩=>⟨by rw[he];rfl,h⟩
 . (have a:i<N md.jk:=by simpa[QG]using l);exact(sent_3 i g f j a).mono λe w' ⟨he,h⟩=>⟨by rw[he];rfl,h⟩
 . (have a:i<N md.cw:=by simpa[QG]using l);exact(sent_4 i g f j a s l4).mono λe w' ⟨he,h⟩=>⟨by rw[he];rfl,h⟩
 . (have a:i<N md.jz:=by simpa[QG]using l);exact(sent_5 i g f j a s l5).mono λe w' ⟨he,h⟩=>⟨by rw[he];rfl,h⟩
 . (have a:i<N md.ck:=by simpa[QG]using l);have d:=I _ (Qv (z:=Qm.z) a);simp only[QY,Ky]at d;have b:=m.2.2.2.2.2.1.2 i a;exact(sent_6 i g f j a l6 b.1 (XB d.2 b.2) (imp_gl md) d.2).mono λe w' ⟨he,h⟩=>⟨by rw[he];rfl,h⟩
 . (have a:i<N md.cv:=by simpa[QG]using l);have d:=H _ (Qv (z:=Exp.z) a);simp only[Jr,Ky,kindB,Qz,decide_eq_true_eq]at d;exact(sent_7 i g f j a l7 ⟨by omega,by omega⟩).mono λe w' ⟨he,h⟩=>⟨by rw[he];rfl,h⟩
 . have o:=F;simp only[stB,Ky,Qz,decide_eq_true_eq]at o;exact(sent_8 i g f j o.1.1 C).mono λe w' ⟨he,h⟩=>⟨by rw[he];rfl,h⟩
 . (have a:i<N md.fq:=by simpa[QG]using l);have d:=E _ (Qv (z:=Ele.z) a);simp only[JD,Ky,Hf,Qz,decide_eq_true_eq]at d;have b:=m.2.2.2.2.2.2.2.1.2 i a;exact(sent_9 i g f j a Y b.1.1 (XB d.1 b.1.2) (imp_gl md) d.1 b.2).mono λe w' ⟨he,h⟩=>⟨by rw[he];rfl,h⟩
 . (have a:i<N md.fj:=by simpa[QG]using l);have d:=r _ (Qv (z:=Cod.z) a);simp only[Jl,Ky]at d;have b:=m.2.2.2.2.2.2.2.2.1.2 i a;(have p:i<N md.jk:=by omega);have B:=L _ (Qv (z:=0) p);simp only[Qz,decide_eq_true_eq]at B;have v:=locs_sum _ 0 d.1 (by omega) (by omega);have ai:=tyAt_b m (md.jk.getD i 0);exact(sent_10 i g f j a p X l1 l3 B.1 (by omega) (by have:=b.1.1;omega) (λk _=>by have:=v k;omega) (fn0_bd m _ b.1.1 (locs_nn _ _ d.1)) C (XB d.2 b.2.2) b.2.1 d.2).mono λe w' ⟨he,h⟩=>⟨by rw[he];rfl,h⟩
 have a:i<N md.fx:=by simpa[QG]using l
 have d:=q _ (Qv (z:=Dat.z) a);simp only[JL]at d;have b:=m.2.2.2.2.2.2.2.2.2.1.2 i a;have e:XZ md 11 i=if(cxF md).jz=0 then(2,0)else lstR (QU (cxF md) (cxF md).gw 127 [] 0 (md.fx.getD i Dat.z).off):=rfl;rw[e]
 by_cases c:(cxF md).jz=0
 . rw[if_pos c];exact(sent_11z i g f j c).mono λe w' ⟨he,h⟩=>⟨he.trans rfl,h⟩
 rw[if_neg c];exact(sent_11 i g f j a u b.1.1 (XB d b.1.2) (imp_gl md) d c).mono λe w' ⟨he,h⟩=>⟨he.trans rfl,h⟩
