import Derived.Test.YtedcmcdbejjgcaaGreatGaa
import Derived.Test.YtedcmcdbejjgcaaGreatGai
import Derived.Test.YtedcmcdbejjgcaaGreatGbp
set_option linter.all false
set_option maxHeartbeats 400000000
set_option maxRecDepth 100000
namespace Go.Proofs.YtedcmcdbejjgcaaGreat.Ms
open Go.RowKit Go.Sort
theorem code_c {B w0 s ba bc bs p bx w}(l:List Cod)(v0:Value)(c0:List Value)(k0 os:List Qc)(h:Sd B w0 s ba bc bs p 0 0 (4*p) bx (⟨83,2,l.length,v0,c0⟩::(os++k0)) w)(fr:LR Oq l c0 k0)(hm:bc.rest[10]?=some v0)(fi:bc.sec=10)(hen:bc.en≠0)(jp:bc.en<=1000)(kf:l.length<=p)(hA:Qm bc.fs)(hl:bc.fs.length<=4194300)
    (fl:List Int) (vf:Value) (tl:List Q1) (vt:Value) (ct:List Value) (kt:List Qc) (hF:⟨2,1,fl.length,vf,I fl⟩ ∈ os) (ds:bc.rest[2]?=some vf) (fy:∀ x ∈ fl,0<=x) (ik:fl.length<=4194300) (hT:⟨92,2,tl.length,vt,ct⟩ ∈ os) (ft:∀ r ∈ kt,r ∈ os) (dr:bc.rest[0]?=some vt) (f0:LR RFT tl ct kt) (h5:tl.length<=4194300) :
    Calls Tryz.prog 226 #[.pointer (some ⟨s,0,none⟩),.int .i64 (l.length:Int)] w (EnD 0 (Xw bs bc.E p) Oq l 10 83 2 B w0 s ba bc bs bx os):=by
 obtain ⟨va,vc,rfl⟩:∃ a c,v0=.slice a l.length c:=Qc.Ok.slice (h.row mS);obtain ⟨fa,fc,e8⟩:∃ a c,vf=.slice a fl.length c:=Qc.Ok.slice (h.row (r:=⟨2,1,fl.length,vf,I fl⟩) (by simp [hF]));obtain ⟨ta,tc,e6⟩:∃ a c,vt=.slice a tl.length c:=Qc.Ok.slice (h.row (r:=⟨92,2,tl.length,vt,ct⟩) (by simp [hT]));subst e8 e6;have kb:=h.le;have a9:bs=bc.fs.take bc.E.toNat:=by obtain ⟨_,_,_,hr,_⟩:=h.ex;exact hr.win
 have iu:0<=bc.E:=by obtain ⟨_,_,_,hr,_⟩:=h.ex;exact hr.e0
 have ir:bc.E<=9223372036854775807:=by obtain ⟨_,_,_,hr,_⟩:=h.ex;exact hr.eb
 have f5:bc.en=0->(bc.fs.length:Int)<=bc.E:=by obtain ⟨_,_,_,hr,_⟩:=h.ex;exact hr.eo
 have f7:=h.endAt;have h8:bc.rest.length=13:=by obtain ⟨_,_,_,hr,_⟩:=h.ex;exact hr.rl
 obtain ⟨x0,x1,x2,x3,x4,x5,x6,x7,x8,x9,jw,ak,aj,bb⟩:=list13 h8;have jq:bs.length<=4194300:=by rw [a9,List.length_take];omega
 have f8:Qm bs:=by rw [a9];exact Qm.take hA _
 have jd:=Hm fr;clear fr;generalize hn:l.length=n at *;have HN:=Hm hn;clear hn;rw [bb] at ds dr
 simp only [List.getElem?_cons_zero,List.getElem?_cons_succ,Option.some.injEq] at ds dr
 subst ds dr;obtain ⟨i0,hi,ho,hh,hf⟩:=info_parts info_Co;obtain ⟨j0,hj,hz,hy,hw⟩:=info_parts info_J6;obtain ⟨g0,hg,hu,ht,hp⟩:=info_parts info_Gp;have KP:=Hm (λ(V:World) (hV:∀ r ∈ os,r.Ok B V) (y1 y3 y4 y5 y6 y7 y8 y9 y10 y11 y12:Value)=>params_c B V n fl fa fc tl ta tc ct kt y1 y3 y4 y5 y6 y7 y8 y9 y10 y11 y12 (hV _ hF) (hV _ hT) f0 (λr hr=>hV r (ft r hr)) fy ik h5);have K1:=Hm (sizeC h (Lk.ok () p) hen f8 (by omega));clear h hF hT ft f0 fy
 go_enter Tryz.func226,Tryz.ntmps226
 go_wp2_with fail
 refine (K1.o).mono ?_
 rintro e w1 ⟨u1,m,d5,gi,rfl,⟨N,rfl⟩,fw,ff,a4⟩;have b2:Lk (Jl bs bc.E p) m d5 gi:=fw;have bz:∀ x q,Jl bs bc.E p=.ok x q->(.int .i64 N:Value)=.int .i64 x:=ff;clear fw K1 ff
 by_cases he:d5=0
 case neg =>
  have HX:Hid (Xw bs bc.E p=.bad d5 gi):=GK (b2.ne he);obtain ⟨zz,cn,a8,c3⟩:=a4.c3n he;have HS:=Hm a4;clear a4 bz
  go_wp2_with fail
  (try simp only [Exit.inBlock,Exit.then])
  refine bodyPost_ret (results_none rfl _ _ _) rfl ?_
  rw [HX.o]
  exact ⟨rfl,FaD.of HS.o he⟩
 subst he;obtain ⟨N',bg,rfl⟩:=b2.zero;have d2:=bz N' m bg
 injection d2 with _ d2
 subst d2;have kc:=Of _ _ _ N m bg;have ko:=GH f8 bg;have cp:(m:Int)+N<=bc.E:=size_in bg;have jm:=a4.le;have c3:=a4.c3;have cu:=Hm bg;have HS:=Hm a4;have bq:=Hm a9;have jg:=Hm f7;have jf:=Hm f5;clear a4 b2 bz bg a9 f7 f5
 go_wp2_with fail
 refine Ql (λV=>Sd B w0 s ba bc bs m 0 0 (4*p) (bx) (⟨83,2,n,.slice va n vc,c0⟩::(os++k0)) V) HS.o ?_
 intro F D
 have m5:F.cell? ⟨s,2,none⟩=some (.slice bc.ea bc.en bc.ec):=by obtain ⟨v,n,cs,hr,_⟩:=D.ex;exact hr.c2
 have m1:=D.c1;have d4:=D.hB;have H5:=Hm D;have hv:IntKind.i64.wrap ((m:Int)+N)=((m:Int)+N):=by rw [IntKind.wrap_i64];omega
 clear D HS
 refine Rp.Ji (N:=133) (vs:=[.pointer (some ⟨s,0,none⟩),.pointer (some ⟨s,0,none⟩),.pointer (some ⟨s,0,none⟩),.pointer (some ⟨s,2,none⟩),.slice bc.ea bc.en bc.ec,.pointer (some ⟨s,0,none⟩),.pointer (some ⟨s,0,none⟩),.pointer (some ⟨s,1,none⟩),.int .i64 (m:Int),.int .i64 N,.int .i64 ((m:Int)+N),.slice (some ⟨F.heap.size,0,none⟩) 1 1,undef,.pointer (some ⟨s,0,none⟩),.pointer (some ⟨s,2,none⟩)]) (i1:=11) (i2:=12) (L:=15) (S:=λW=>W.cell? ⟨s,2,none⟩=some (.slice bc.ea bc.en bc.ec)/\W.cell? ⟨s,1,none⟩=some (.int .i64 (m:Int))) (A:=λW v=>∃ a3 c3,v=.slice a3 (bc.en+1) c3/\(W.cell? ⟨s,2,none⟩=some (.slice bc.ea bc.en bc.ec)/\W.cell? ⟨s,1,none⟩=some (.int .i64 (m:Int)))/\W.frozen? ⟨s,2,none⟩=false/\Sd B w0 s ba { bc with ea:=a3,en:=bc.en+1,ec:=c3,ends:=bc.ends++[((m:Int)+N)],E:=((m:Int)+N) } (bc.fs.take ((m:Int)+N).toNat) m 0 0 (4*p) (bx) (⟨83,2,n,.slice va n vc,c0⟩::(os++k0)) (W.setCell ⟨s,2,none⟩ v)) (w2:=({ F with drawn:=F.drawn+1 }:World).alloc (.cells #[.int .i64 ((m:Int)+N)] 2)) (by kernel_rfl) (by kernel_rfl) (by kernel_rfl) rfl ?_ ?_ ?_ ?_
 . exact ⟨m5,m1⟩
 . exact ⟨Qg (w:={ F with drawn:=F.drawn+1 }) m5,Qg (w:={ F with drawn:=F.drawn+1 }) m1⟩
 . rintro W v ⟨a3,c3,h1,h2,h3⟩
   exact h2
 . refine Rp.v0 0 (.pointer (some ⟨s,0,none⟩)) (by kernel_rfl) rfl rfl rfl (λa W _ e=>by go_simp;try rfl) ?_
   refine Rp.v0 0 (.pointer (some ⟨s,0,none⟩)) (by kernel_rfl) rfl rfl rfl (λa W _ e=>by go_simp;try rfl) ?_
   refine Rp.v1 1 rfl (by kernel_rfl) rfl rfl rfl rfl (λa W _ e=>by go_simp;try rfl) ?_
   refine Rp.v1 2 rfl (by kernel_rfl) rfl rfl rfl rfl (λa W _ e=>by go_simp;try rfl) ?_
   refine Rp.v1 3 rfl (by kernel_rfl) rfl rfl rfl rfl (λa W hS e=>by obtain ⟨m5,m1⟩:=hS;go_simp;try rfl) ?_
   refine Rp.v0 0 (.pointer (some ⟨s,0,none⟩)) (by kernel_rfl) rfl rfl rfl (λa W _ e=>by go_simp;try rfl) ?_
   refine Rp.v1 5 rfl (by kernel_rfl) rfl rfl rfl rfl (λa W _ e=>by go_simp;try rfl) ?_
   refine Rp.v1 6 rfl (by kernel_rfl) rfl rfl rfl rfl (λa W _ e=>by go_simp;try rfl) ?_
   refine Rp.v1 7 rfl (by kernel_rfl) rfl rfl rfl rfl (λa W hS e=>by obtain ⟨m5,m1⟩:=hS;go_simp;try rfl) ?_
   refine Rp.v0 4 (.int .i64 N) (by kernel_rfl) rfl rfl rfl (λa W _ e=>by go_simp;try rfl) ?_
   refine Rp.v2 8 9 rfl rfl (by kernel_rfl) rfl rfl rfl rfl rfl (λa W _ e e'=>by go_simp;try rfl) ?_
   refine Rp.l1 10 rfl (by kernel_rfl) rfl rfl rfl rfl (λa e=>by go_simp;try rfl) ?_
   refine Rp.QX.a (by rfl) (λa Kc f hK=>?_) ?_
   . have i5:=Rp.Jb f 3 4 20 _ (by kernel_rfl) rfl rfl;have i4:=Rp.Jb f 3 11 27 _ (by kernel_rfl) rfl rfl
     refine Qv rfl (.tmp 20) (.tmp 27) 25 rfl B 2 j0 (.int .i64 0) 1 8 Tryz.underlying25 hj hz hy hw rfl (by decide) (.slice bc.ea bc.en bc.ec) bc.en (I bc.ends) (by simp [Act.eval,i5]) ?own ⟨F.heap.size,0,none⟩ 1 1 [.int .i64 ((m:Int)+N)] (by simp [Act.eval,i4]) rfl ?lit (by simp [Value.oneCell']) (by unfold maxLen;omega) (by omega) ?hbase ?_
     case own=>exact World.ownsRow.alloc (show World.ownsRow { F with drawn:=F.drawn+1 } B 2 1 (.slice bc.ea bc.en bc.ec) bc.en (I bc.ends) from H5.o.eR) _
     case lit=>exact Jd _ _ _
     case hbase=>simp;omega
     intro v3 w6 J bk au
     obtain ⟨a3,c3,rfl⟩:∃ a c,v3=.slice a (bc.en+1) c:=JG J;have hq:=H5.o.pushE (V1:=({ F with drawn:=F.drawn+1 }:World).alloc (.cells #[.int .i64 ((m:Int)+N)] 2)) ⟨rfl,rfl,rfl,by show F.heap.size<=(F.alloc (.cells #[.int .i64 ((m:Int)+N)] 2)).heap.size;simp,λk hk=>QF F _ k hk⟩ bk J au (by omega) (by omega) (by omega)
     exact hK _ w6 ⟨a3,c3,rfl,⟨hq.1.1,hq.1.2.1⟩,hq.1.2.2,hq.2⟩
   refine Rp.v1 0 rfl (by kernel_rfl) rfl rfl rfl rfl (λa W _ e=>by go_simp;try rfl) ?_
   refine Rp.v1 13 rfl (by kernel_rfl) rfl rfl rfl rfl (λa W _ e=>by go_simp;try rfl) ?_
   refine Rp.QX.e (by rfl) (λa W Kc f hK=>?_) Rp.QX.nil
   . have hA:=Rp.XF f 28 (by kernel_rfl);obtain ⟨v3,ad⟩:∃ v3,a.eval (.tmp 28)=v3:=⟨_,rfl⟩;rw [ad] at hA;obtain ⟨a3,c3,rfl,⟨s5,-⟩,d0,R⟩:=hA;have iz:=(Rp.QW a 30).symm.trans (Rp.XI f 14 30 _ (by kernel_rfl) rfl);have i3:a.tmps[28]?.getD undef=(.slice a3 (bc.en+1) c3):=(Rp.QW a 28).symm.trans ad;have ea:=Rp.Xs f rfl ad (by kernel_rfl) rfl
     simp only [Rp.Oe,List.set,Nat.reduceAdd] at ea
     refine Rp.JL (Rp.Qe rfl) (W':=W.setCell ⟨s,2,none⟩ (.slice a3 (bc.en+1) c3)) ?hst (hK undef _ ?hen)
     case hst =>
      clear f hK ea
      go_simp
      try rfl
     case hen =>
      clear f hK iz i3;clear ad;subst ea;clear m5 m1 hv d4;obtain ⟨bd,b4⟩:∃ bd:Bd,bd={ bc with ea:=a3,en:=bc.en+1,ec:=c3,ends:=bc.ends++[((m:Int)+N)],E:=((m:Int)+N) }:=⟨_,rfl⟩;have dx:bd.rest[10]?=some (.slice va n vc):=by rw [b4];exact hm
      have h7:bd.sec=10:=by rw [b4];exact fi
      obtain ⟨d,aq⟩:∃ d,d=bc.fs.take ((m:Int)+N).toNat:=⟨_,rfl⟩;rw [<- b4,<- aq] at R;have HS:=Hm R;have bj:Qm d:=by rw [aq];exact Qm.take hA _
      have ih:d.length<=4194300:=by rw [aq,List.length_take];omega
      have b6:Hid (bs.take (m+N.toNat)=d):=by
       show _=_
       rw [aq,bq.o,win_take (by omega)]
       congr 1;omega
      have m5:(W.setCell ⟨s,2,none⟩ (.slice a3 (bc.en+1) c3)).cell? ⟨s,15,none⟩=some (.slice va n vc):=R.cm dx;have gx:=Hm b4;have iw:=R.hB;clear R s5 d0 H5 b4 aq;obtain ⟨W1,f3⟩:∃ W1,W1=W.setCell ⟨s,2,none⟩ (.slice a3 (bc.en+1) c3):=⟨_,rfl⟩;rw [<- f3] at HS m5 iw⊢;clear f3
      go_wp2_with (at_builtin;refine wpList_append_own_at _ rfl _ _ 30 rfl B 83 i0 (.agg #[.slice none 0 0,.slice none 0 0]) 2 48 Tryz.underlying30 hi ho hh hf rfl (by decide) (.slice va n vc) n c0 rfl (World.ownsRow.alloc (show World.ownsRow W1 B 83 2 (.slice va n vc) n c0 from HS.o.row mS) _) ⟨W1.heap.size,0,none⟩ 1 1 [.slice none 0 0,.slice none 0 0] rfl rfl (Jd _ _ _) (by simp [Value.oneCell']) (by unfold maxLen;omega) (by omega) (by simp;omega) ?_;intro v3 w6 J bk ic au;have hq:=Xr (ix:=10) HS.o dx (by decide) (bF.alloc lR _) bk J au;obtain ⟨g,Y,ad,-⟩:=QI J (by omega);subst ad;have H6:=Hm hq.2;have m6:w6.cell? ⟨s,15,none⟩=some (.slice va n vc):=hq.1.cm dx;have f6:=hq.1.fz 15;have co:c0.length=n*2:=(by have:=J.1;simp at this;omega);clear J bk au hq ic)
      obtain ⟨be,b3⟩:∃ be:Bd,be={ bd with rest:=bd.rest.set 10 (.slice (some ⟨g,0,none⟩) (n+1) Y) }:=⟨_,rfl⟩;have b:be.rest=[.slice ta tl.length tc,x1,.slice fa fl.length fc,x3,x4,x5,x6,x7,x8,x9,.slice (some ⟨g,0,none⟩) (n+1) Y,ak,aj]:=by rw [b3,gx.o];show bc.rest.set 10 _=_;rw [bb];rfl
      have dw:be.rest[10]?=some (.slice (some ⟨g,0,none⟩) (n+1) Y):=by rw [b];rfl
      have fj:be.sec=10:=by rw [b3];exact h7
      have aa:Hid (be={ bc with ea:=a3,en:=bc.en+1,ec:=c3,ends:=bc.ends++[((m:Int)+N)],E:=((m:Int)+N),rest:=bc.rest.set 10 (.slice (some ⟨g,0,none⟩) (n+1) Y) }):=by show _=_;rw [b3,gx.o]
      have gz:Hid (Sd B w0 s ba be d m 0 0 (4*p) bx (⟨83,2,n+1,.slice (some ⟨g,0,none⟩) (n+1) Y,c0++([.slice none 0 0,.slice none 0 0]:List Value)⟩::(os++k0)) (w6.setCell ⟨s,15,none⟩ (.slice (some ⟨g,0,none⟩) (n+1) Y))):=by show Sd _ _ _ _ _ _ _ _ _ _ _ _ _;rw [b3];exact H6.o
      clear H6 b3 HS m5 m6 f6;have K2:=Hm (u32C gz.o (Lk.ok () m) bj (by omega));clear gz
      go_wp2_with fail
      refine (K2.o).mono ?_
      rintro e w2 ⟨u2,p2,bo,cr,rfl,⟨N2,rfl⟩,fv,fd,H⟩;have bf:Lk (QK d m) p2 bo cr:=fv;have cx:∀ x q,QK d m=.ok x q->(.int .i64 N2:Value)=.int .i64 x:=fd;have r0:w2.cell? ⟨s,5,none⟩=some (.slice ta tl.length tc):=H.cm (i:=0) (by rw [b];rfl);have r1:w2.cell? ⟨s,6,none⟩=some (x1):=H.cm (i:=1) (by rw [b];rfl);have r2:w2.cell? ⟨s,7,none⟩=some (.slice fa fl.length fc):=H.cm (i:=2) (by rw [b];rfl);have r3:w2.cell? ⟨s,8,none⟩=some (x3):=H.cm (i:=3) (by rw [b];rfl);have r4:w2.cell? ⟨s,9,none⟩=some (x4):=H.cm (i:=4) (by rw [b];rfl);have r5:w2.cell? ⟨s,10,none⟩=some (x5):=H.cm (i:=5) (by rw [b];rfl);have r6:w2.cell? ⟨s,11,none⟩=some (x6):=H.cm (i:=6) (by rw [b];rfl);have r7:w2.cell? ⟨s,12,none⟩=some (x7):=H.cm (i:=7) (by rw [b];rfl);have r8:w2.cell? ⟨s,13,none⟩=some (x8):=H.cm (i:=8) (by rw [b];rfl);have r9:w2.cell? ⟨s,14,none⟩=some (x9):=H.cm (i:=9) (by rw [b];rfl);have a0:w2.cell? ⟨s,15,none⟩=some (.slice (some ⟨g,0,none⟩) (n+1) Y):=H.cm (i:=10) (by rw [b];rfl);have az:w2.cell? ⟨s,16,none⟩=some (ak):=H.cm (i:=11) (by rw [b];rfl);have ay:w2.cell? ⟨s,17,none⟩=some (aj):=H.cm (i:=12) (by rw [b];rfl);have gj:=Hm (KP.o w2 (λr hr=>H.row (by simp [hr])) x1 x3 x4 x5 x6 x7 x8 x9 (.slice (some ⟨g,0,none⟩) (n+1) Y) ak aj);have gp:=Hm H;clear fv fd H K2
      go_wp2_with fail
      refine (gj.o).mono ?_
      rintro e w3 ⟨pr,rfl,f1⟩;have fo:=gp.o.keep f1;clear r0 r1 r2 r3 r4 r5 r6 r7 r8 r9 a0 az ay;have K3:=Hm (tellC 20 (n:Int) 0 pr fo bf.at0 (by omega));clear fo f1 gj gp
      go_wp2_with fail
      refine (K3.o).mono ?_
      rintro e w4 ⟨rfl,fm⟩;have H4:=Hm ((fm.nilRow (T:=173) (sz:=2)));have gn:Hid (bo≠0->X4 d m=.bad bo cr):=λy=>by unfold X4;rw [bf.ne y];rfl
      have gm:Hid (bo=0->cr=0/\0<=N2/\m+1<=p2/\X4 d m=XY d N2.toNat 0 [] p2):=λe0=>by
       subst e0;obtain ⟨x,hx,au⟩:=bf.zero
       have:=cx x p2 hx
       injection this with _ this
       subst this;have hb:=Jq bj hx
       refine ⟨au,hb.1,JC _ _ _ _ hx,?_⟩
       unfold X4;rw [hx];rfl
      clear fm bf cx K3
      go_wp2_with fail
      go_loopw [6,7] (λtv iv wr=>∃ (O:Int) (k:Nat) (C:List Grp) (Z:Option Addr) (U:Nat) (cg:List Value) (q:Nat) (er a:Int),tv=.int .i64 O/\iv=.int .i64 (k:Int)/\k<=4294967296/\C.length<=k/\((er=0/\a=0/\0<=O/\O<=4294967295/\0<=N2/\(k:Int)<=N2/\m+1+k<=q/\C.length=k/\LR RGrp C cg []/\X4 d m=XY d (N2.toNat-k) O C q)\/(er≠0/\X4 d m=.bad er a))/\Sd B w0 s ba be d q er a (4*p+1+k) bx (⟨173,2,C.length,.slice Z C.length U,cg⟩::⟨83,2,n+1,.slice (some ⟨g,0,none⟩) (n+1) Y,c0++[.slice Z C.length U,.slice none 0 0]⟩::(os++k0)) wr) (λ_ i _=>N2.toNat-(intOf i).toNat)
      case atStart =>
       refine ⟨0,0,[],none,0,[],p2,bo,cr,rfl,rfl,by omega,by simp,?_,by simpa using H4.o⟩
       by_cases e0:bo=0
       . obtain ⟨h1,h2,h3,h4⟩:=gm.o e0
         exact .inl ⟨e0,h1,by omega,by omega,h2,by omega,by omega,rfl,LR.nil _,h4⟩
       . exact .inr ⟨e0,gn.o e0⟩
      case round =>
       obtain ⟨O,k,C,Z,U,cg,q,er,a,rfl,rfl,kg,kk,hst,hs⟩:=hrel;clear gn gm H4
       rcases hst with ⟨rfl,rfl,j7,j6,io,kh,ka,fx,c4,hM⟩|⟨y,hM⟩
       . have gu:=Hm c4;have j8:=hs.le;have i6:=hs.c3;have HM:=Hm hM;have gv:=Hm fx;clear c4 hM fx
         by_cases dy:(k:Int)<N2
         . have ap:Hid (N2.toNat-k=(N2.toNat-(k+1))+1):=by show _=_;omega
           have h1:=hs.box (t:=173) (xs:=[.int .i64 0,.int .i64 0]);have KU:=Hm (u32D h1 bj (by omega))
           -- what follows in a fault
           rcases hX:QK d q with ⟨e2,a2⟩|⟨u,q1⟩
           . rw [hX] at KU;have y:=Q9 _ _ _ _ e2 a2 hX
             have a6:Hid (X4 d m=.bad e2 a2):=by
              show _=_
              rw [HM.o,ap.o]
              simp only [XY,hX,Rs.bind]
             clear hX hs h1
             go_wp2_with fail
             refine (KU.o).mono ?_
             rintro e M ⟨u5,q5,rfl,⟨u,rfl⟩,D⟩;have y0:=D.b0.2.1 0 _ rfl;have eu:=D.b0.2.2 0;have j:=D.set0 0 (.int .i64 u);clear D KU;obtain ⟨zz,cn,a8,e3⟩:=j.c3n y;have r0:(M.setCell ⟨wr.heap.size,0,none⟩ (.int .i64 u)).cell? ⟨s,5,none⟩=some (.slice ta tl.length tc):=j.cm (i:=0) (by rw [b];rfl);have r1:(M.setCell ⟨wr.heap.size,0,none⟩ (.int .i64 u)).cell? ⟨s,6,none⟩=some (x1):=j.cm (i:=1) (by rw [b];rfl);have r2:(M.setCell ⟨wr.heap.size,0,none⟩ (.int .i64 u)).cell? ⟨s,7,none⟩=some (.slice fa fl.length fc):=j.cm (i:=2) (by rw [b];rfl);have r3:(M.setCell ⟨wr.heap.size,0,none⟩ (.int .i64 u)).cell? ⟨s,8,none⟩=some (x3):=j.cm (i:=3) (by rw [b];rfl);have r4:(M.setCell ⟨wr.heap.size,0,none⟩ (.int .i64 u)).cell? ⟨s,9,none⟩=some (x4):=j.cm (i:=4) (by rw [b];rfl);have r5:(M.setCell ⟨wr.heap.size,0,none⟩ (.int .i64 u)).cell? ⟨s,10,none⟩=some (x5):=j.cm (i:=5) (by rw [b];rfl);have r6:(M.setCell ⟨wr.heap.size,0,none⟩ (.int .i64 u)).cell? ⟨s,11,none⟩=some (x6):=j.cm (i:=6) (by rw [b];rfl);have r7:(M.setCell ⟨wr.heap.size,0,none⟩ (.int .i64 u)).cell? ⟨s,12,none⟩=some (x7):=j.cm (i:=7) (by rw [b];rfl);have r8:(M.setCell ⟨wr.heap.size,0,none⟩ (.int .i64 u)).cell? ⟨s,13,none⟩=some (x8):=j.cm (i:=8) (by rw [b];rfl);have r9:(M.setCell ⟨wr.heap.size,0,none⟩ (.int .i64 u)).cell? ⟨s,14,none⟩=some (x9):=j.cm (i:=9) (by rw [b];rfl);have a0:(M.setCell ⟨wr.heap.size,0,none⟩ (.int .i64 u)).cell? ⟨s,15,none⟩=some (.slice (some ⟨g,0,none⟩) (n+1) Y):=j.cm (i:=10) (by rw [b];rfl);have az:(M.setCell ⟨wr.heap.size,0,none⟩ (.int .i64 u)).cell? ⟨s,16,none⟩=some (ak):=j.cm (i:=11) (by rw [b];rfl)
             have ay:(M.setCell ⟨wr.heap.size,0,none⟩ (.int .i64 u)).cell? ⟨s,17,none⟩=some (aj):=j.cm (i:=12) (by rw [b];rfl);have av:=Hm (KP.o _ (λr hr=>j.row (by simp [hr])) x1 x3 x4 x5 x6 x7 x8 x9 (.slice (some ⟨g,0,none⟩) (n+1) Y) ak aj);have z9:=j.b0.2.1 0 _ rfl;have H6:=Hm j;clear j
             go_wp2_with fail
             refine (av.o).mono ?_
             rintro e w7 ⟨ez,rfl,ar⟩;have G:=H6.o.keep ar;clear r0 r1 r2 r3 r4 r5 r6 r7 r8 r9 a0 az ay;have y1:=G.b0.2.1 1 _ rfl;have dc:=G.b0.2.2 1;have H7:=Hm (G.set0 1 (.int .i64 0));obtain ⟨g9,e5,dq,e7⟩:=H7.o.c3n y;have KT:=Hm (λx=>Xm 20 (n:Int) 0 x G y);have KO:=Hm (oneE 124 127 G y);clear G ar av H6 e3 z9
             go_wp2_with (first
              |(go_at_call 147;refine (KT.o _).mono ?_;rintro e w8 ⟨rfl,rfl⟩)
              | (go_at_call 219;refine (KO.o).mono ?_;rintro e w9 ⟨rfl,rfl⟩))
             go_roundw
             case rel=>exact ⟨_,k+1,C,Z,U,cg,_,e2,a2,rfl,by go_num,by omega,by omega,.inr ⟨y,a6.o⟩,H7.o.unbox.err y _⟩
             case measure=>simp [intOf];omega
           . have j4:=JC _ _ u q1 hX;have kd:=Jq bj hX;rw [hX] at KU;have ed:=Hm hX;clear hX hs h1
             go_wp2_with fail
             refine (KU.o).mono ?_
             rintro e M ⟨rfl,D⟩;have y0:=D.b0.2.1 0 _ rfl;have eu:=D.b0.2.2 0;have j:=D.set0 0 (.int .i64 u);have j5:IntKind.i64.wrap (O+u)=O+u:=by rw [IntKind.wrap_i64];omega
             have z0:=j.b0.2.1 0 _ rfl;clear D KU
             by_cases du:4294967295<O+u
             . have cy:O+u > 4294967295:=du;have y:(12:Int)≠0:=by decide
               have gh:=j.c3;have kv:=j.c1
               have a6:Hid (X4 d m=.bad 12 (q1:Int)):=by
                show _=_
                rw [HM.o,ap.o]
                simp only [XY,ed.o,Rs.bind]
                rw [if_pos du]
               have gk:=Hm (Gv 12 (q1:Int) j (by decide));clear j
               go_wp2_with fail
               refine (gk.o).mono ?_
               rintro e w6 ⟨rfl,j⟩;clear gk;obtain ⟨zz,cn,a8,e3⟩:=j.c3n y;have r0:w6.cell? ⟨s,5,none⟩=some (.slice ta tl.length tc):=j.cm (i:=0) (by rw [b];rfl);have r1:w6.cell? ⟨s,6,none⟩=some (x1):=j.cm (i:=1) (by rw [b];rfl);have r2:w6.cell? ⟨s,7,none⟩=some (.slice fa fl.length fc):=j.cm (i:=2) (by rw [b];rfl);have r3:w6.cell? ⟨s,8,none⟩=some (x3):=j.cm (i:=3) (by rw [b];rfl);have r4:w6.cell? ⟨s,9,none⟩=some (x4):=j.cm (i:=4) (by rw [b];rfl);have r5:w6.cell? ⟨s,10,none⟩=some (x5):=j.cm (i:=5) (by rw [b];rfl);have r6:w6.cell? ⟨s,11,none⟩=some (x6):=j.cm (i:=6) (by rw [b];rfl);have r7:w6.cell? ⟨s,12,none⟩=some (x7):=j.cm (i:=7) (by rw [b];rfl);have r8:w6.cell? ⟨s,13,none⟩=some (x8):=j.cm (i:=8) (by rw [b];rfl);have r9:w6.cell? ⟨s,14,none⟩=some (x9):=j.cm (i:=9) (by rw [b];rfl);have a0:w6.cell? ⟨s,15,none⟩=some (.slice (some ⟨g,0,none⟩) (n+1) Y):=j.cm (i:=10) (by rw [b];rfl);have az:w6.cell? ⟨s,16,none⟩=some (ak):=j.cm (i:=11) (by rw [b];rfl);have ay:w6.cell? ⟨s,17,none⟩=some (aj):=j.cm (i:=12) (by rw [b];rfl);have av:=Hm (KP.o _ (λr hr=>j.row (by simp [hr])) x1 x3 x4 x5 x6 x7 x8 x9 (.slice (some ⟨g,0,none⟩) (n+1) Y) ak aj);have z9:=j.b0.2.1 0 _ rfl;have H6:=Hm j;clear j
               go_wp2_with fail
               refine (av.o).mono ?_
               rintro e w7 ⟨ez,rfl,ar⟩;have G:=H6.o.keep ar;clear r0 r1 r2 r3 r4 r5 r6 r7 r8 r9 a0 az ay;have y1:=G.b0.2.1 1 _ rfl;have dc:=G.b0.2.2 1;have H7:=Hm (G.set0 1 (.int .i64 0));obtain ⟨g9,e5,dq,e7⟩:=H7.o.c3n y;have KT:=Hm (λx=>Xm 20 (n:Int) 0 x G y);have KO:=Hm (oneE 124 127 G y);clear G ar av H6 e3 z9
               go_wp2_with (first
                |(go_at_call 147;refine (KT.o _).mono ?_;rintro e w8 ⟨rfl,rfl⟩)
                | (go_at_call 219;refine (KO.o).mono ?_;rintro e w9 ⟨rfl,rfl⟩))
               go_roundw
               case rel=>exact ⟨_,k+1,C,Z,U,cg,_,12,(q1:Int),rfl,by go_num,by omega,by omega,.inr ⟨y,a6.o⟩,H7.o.unbox.err y _⟩
               case measure=>simp [intOf];omega
             . have cy:¬ O+u > 4294967295:=du;have jn:decide (O+u > 4294967295)=false:=decide_eq_false cy;have gh:=j.c3;have r0:(M.setCell ⟨wr.heap.size,0,none⟩ (.int .i64 u)).cell? ⟨s,5,none⟩=some (.slice ta tl.length tc):=j.cm (i:=0) (by rw [b];rfl);have r1:(M.setCell ⟨wr.heap.size,0,none⟩ (.int .i64 u)).cell? ⟨s,6,none⟩=some (x1):=j.cm (i:=1) (by rw [b];rfl);have r2:(M.setCell ⟨wr.heap.size,0,none⟩ (.int .i64 u)).cell? ⟨s,7,none⟩=some (.slice fa fl.length fc):=j.cm (i:=2) (by rw [b];rfl);have r3:(M.setCell ⟨wr.heap.size,0,none⟩ (.int .i64 u)).cell? ⟨s,8,none⟩=some (x3):=j.cm (i:=3) (by rw [b];rfl);have r4:(M.setCell ⟨wr.heap.size,0,none⟩ (.int .i64 u)).cell? ⟨s,9,none⟩=some (x4):=j.cm (i:=4) (by rw [b];rfl);have r5:(M.setCell ⟨wr.heap.size,0,none⟩ (.int .i64 u)).cell? ⟨s,10,none⟩=some (x5):=j.cm (i:=5) (by rw [b];rfl);have r6:(M.setCell ⟨wr.heap.size,0,none⟩ (.int .i64 u)).cell? ⟨s,11,none⟩=some (x6):=j.cm (i:=6) (by rw [b];rfl);have r7:(M.setCell ⟨wr.heap.size,0,none⟩ (.int .i64 u)).cell? ⟨s,12,none⟩=some (x7):=j.cm (i:=7) (by rw [b];rfl);have r8:(M.setCell ⟨wr.heap.size,0,none⟩ (.int .i64 u)).cell? ⟨s,13,none⟩=some (x8):=j.cm (i:=8) (by rw [b];rfl);have r9:(M.setCell ⟨wr.heap.size,0,none⟩ (.int .i64 u)).cell? ⟨s,14,none⟩=some (x9):=j.cm (i:=9) (by rw [b];rfl);have a0:(M.setCell ⟨wr.heap.size,0,none⟩ (.int .i64 u)).cell? ⟨s,15,none⟩=some (.slice (some ⟨g,0,none⟩) (n+1) Y):=j.cm (i:=10) (by rw [b];rfl);have az:(M.setCell ⟨wr.heap.size,0,none⟩ (.int .i64 u)).cell? ⟨s,16,none⟩=some (ak):=j.cm (i:=11) (by rw [b];rfl);have ay:(M.setCell ⟨wr.heap.size,0,none⟩ (.int .i64 u)).cell? ⟨s,17,none⟩=some (aj):=j.cm (i:=12) (by rw [b];rfl)
               have av:=Hm (KP.o _ (λr hr=>j.row (by simp [hr])) x1 x3 x4 x5 x6 x7 x8 x9 (.slice (some ⟨g,0,none⟩) (n+1) Y) ak aj);have H6:=Hm j;clear j
               go_wp2_with fail
               refine (av.o).mono ?_
               rintro e w7 ⟨ez,rfl,ar⟩;have G:=H6.o.keep ar;clear r0 r1 r2 r3 r4 r5 r6 r7 r8 r9 a0 az ay;have K7:=Hm (λx=>Xx 20 (n:Int) 0 x G (by omega));clear G ar av H6 gh y0 eu z0
               go_wp2_with fail
               refine (K7.o _).mono ?_
               rintro e w8 ⟨rfl,dt⟩;have KO:=Hm (oneD 124 127 (by decide) (by decide) dt bj (by omega))
               rcases hY:Qz (JP 124 127) d q1 with ⟨e3,d8⟩|⟨ty,q2⟩
               . rw [hY] at KO;have y:=Gp _ _ _ e3 d8 hY
                 have a6:Hid (X4 d m=.bad e3 d8):=by
                  show _=_
                  rw [HM.o,ap.o]
                  simp only [XY,ed.o,Rs.bind]
                  rw [if_neg (by omega),ty_rng,hY]
                 clear hY dt K7
                 go_wp2_with fail
                 refine (KO.o).mono ?_
                 rintro e w9 ⟨u9,q9,rfl,⟨ty,rfl,-⟩,z⟩;have y1:=z.b0.2.1 1 _ rfl;have dc:=z.b0.2.2 1;have H9:=Hm (z.set0 1 (.int .i64 ty));obtain ⟨zz,cn,a8,e9⟩:=H9.o.c3n y;clear z KO
                 go_wp2_with fail
                 go_roundw
                 case rel=>exact ⟨_,k+1,C,Z,U,cg,_,e3,d8,rfl,by go_num,by omega,by omega,.inr ⟨y,a6.o⟩,H9.o.unbox.err y _⟩
                 case measure=>simp [intOf];omega
               . rw [hY] at KO;have j3:=X8 _ _ _ ty q2 hY
                 have jc:Hid (X4 d m=XY d (N2.toNat-(k+1)) (O+u) (C++[⟨u,ty⟩]) q2):=by
                  show _=_
                  rw [HM.o,ap.o]
                  simp only [XY,ed.o,Rs.bind]
                  rw [if_neg (by omega),ty_rng,hY]
                 clear hY dt K7
                 go_wp2_with fail
                 refine (KO.o).mono ?_
                 rintro e w9 ⟨rfl,z⟩;have y1:=z.b0.2.1 1 _ rfl;have dc:=z.b0.2.2 1;have h9:=z.set0 1 (.int .i64 ty);have e9:=h9.c3;have HS:=Hm h9;have jl:=h9.le;clear z KO h9
                 go_wp2_with fail
                 have d1:(c0++([.slice Z C.length U,.slice none 0 0]:List Value))[n*2]?=some (.slice Z C.length U):=get_app0 co;have kl:C.length<=4294967296:=by omega
                 refine Ql (λV=>Sd B w0 s ba be d q2 0 0 (4*p+1+k+1) ((wr.heap.size,[.int .i64 u,.int .i64 ty])::bx) (⟨173,2,C.length,.slice Z C.length U,cg⟩::⟨83,2,n+1,.slice (some ⟨g,0,none⟩) (n+1) Y,c0++([.slice Z C.length U,.slice none 0 0]:List Value)⟩::(os++k0)) (V)) HS.o ?_
                 intro F D
                 have m5:F.cell? ⟨s,15,none⟩=some (.slice (some ⟨g,0,none⟩) (n+1) Y):=D.cm dw
                 have a1:F.cell? ⟨g,n*2,none⟩=some (.slice Z C.length U):=by
                  have ip:=D.row (r:=⟨83,2,n+1,.slice (some ⟨g,0,none⟩) (n+1) Y,c0++([.slice Z C.length U,.slice none 0 0]:List Value)⟩) (by simp)
                  exact (World.ownsRow.cellAt (show F.ownsRow B 83 2 (.slice (some ⟨g,0,none⟩) (n+1) Y) (n+1) (c0++([.slice Z C.length U,.slice none 0 0]:List Value)) from ip) (n*2) (by omega)).trans d1
                 have ac:=D.b0.2.1 0 _ rfl;have ab:=D.b0.2.1 1 _ rfl;have H5:=Hm D;have d4:=D.hB;have dv:(n:Int)<(n:Int)+1:=by omega
                 clear D HS
                 refine Rp.Ji (N:=133) (vs:=[.pointer (some ⟨s,0,none⟩),.pointer (some ⟨s,0,none⟩),.pointer (some ⟨s,5,none⟩),.pointer (some ⟨s,15,none⟩),.slice (some ⟨g,0,none⟩) (n+1) Y,.int .i64 (n:Int),.pointer (some ⟨s,0,none⟩),.pointer (some ⟨s,0,none⟩),.pointer (some ⟨s,5,none⟩),.pointer (some ⟨s,15,none⟩),.slice (some ⟨g,0,none⟩) (n+1) Y,.int .i64 (n:Int),.pointer (some ⟨g,n*2,none⟩),.pointer (some ⟨g,n*2,none⟩),.slice Z C.length U,.agg #[.int .i64 u,.int .i64 ty],.slice (some ⟨F.heap.size,0,none⟩) 1 1,undef,.pointer (some ⟨g,n*2,none⟩),.pointer (some ⟨g,n*2,none⟩)]) (i1:=16) (i2:=17) (L:=20) (S:=λW=>W.cell? ⟨s,15,none⟩=some (.slice (some ⟨g,0,none⟩) (n+1) Y)/\W.cell? ⟨g,n*2,none⟩=some (.slice Z C.length U)/\W.cell? ⟨wr.heap.size,0,none⟩=some (.int .i64 u)/\W.cell? ⟨wr.heap.size,1,none⟩=some (.int .i64 ty)) (A:=λW v=>(∃ a3 c3,v=.slice a3 (C.length+1) c3)/\(W.cell? ⟨s,15,none⟩=some (.slice (some ⟨g,0,none⟩) (n+1) Y)/\W.cell? ⟨g,n*2,none⟩=some (.slice Z C.length U)/\W.cell? ⟨wr.heap.size,0,none⟩=some (.int .i64 u)/\W.cell? ⟨wr.heap.size,1,none⟩=some (.int .i64 ty))/\W.frozen? ⟨g,n*2,none⟩=false/\Sd B w0 s ba be d q2 0 0 (4*p+1+k+1) ((wr.heap.size,[.int .i64 u,.int .i64 ty])::bx) (⟨173,2,C.length+1,v,cg++([.int .i64 u,.int .i64 ty]:List Value)⟩::⟨83,2,n+1,.slice (some ⟨g,0,none⟩) (n+1) Y,(c0++([.slice Z C.length U,.slice none 0 0]:List Value)).set (n*2) v⟩::(os++k0)) (W.setCell ⟨g,n*2,none⟩ v)) (w2:=({ F with drawn:=F.drawn+1 }:World).alloc (.cells #[.int .i64 u,.int .i64 ty] 173)) (by kernel_rfl) (by kernel_rfl) (by kernel_rfl) rfl ?_ ?_ ?_ ?_
                 . exact ⟨m5,a1,ac,ab⟩
                 . exact ⟨Qg (w:={ F with drawn:=F.drawn+1 }) m5,Qg (w:={ F with drawn:=F.drawn+1 }) a1,Qg (w:={ F with drawn:=F.drawn+1 }) ac,Qg (w:={ F with drawn:=F.drawn+1 }) ab⟩
                 . intro W v h
                   exact h.2.1
                 . refine Rp.v0 0 (.pointer (some ⟨s,0,none⟩)) (by kernel_rfl) rfl rfl rfl (λa W _ e=>by go_simp;try rfl) ?_
                   refine Rp.v1 0 rfl (by kernel_rfl) rfl rfl rfl rfl (λa W _ e=>by go_simp;try rfl) ?_
                   refine Rp.v1 1 rfl (by kernel_rfl) rfl rfl rfl rfl (λa W _ e=>by go_simp;try rfl) ?_
                   refine Rp.v1 2 rfl (by kernel_rfl) rfl rfl rfl rfl (λa W _ e=>by go_simp;try rfl) ?_
                   refine Rp.v1 3 rfl (by kernel_rfl) rfl rfl rfl rfl (λa W hS e=>by obtain ⟨m5,a1,ac,ab⟩:=hS;go_simp;try rfl) ?_
                   refine Rp.v0 1 (.int .i64 (n:Int)) (by kernel_rfl) rfl rfl rfl (λa W _ e=>by go_simp;try rfl) ?_
                   refine Rp.v0 0 (.pointer (some ⟨s,0,none⟩)) (by kernel_rfl) rfl rfl rfl (λa W _ e=>by go_simp;try rfl) ?_
                   refine Rp.v1 6 rfl (by kernel_rfl) rfl rfl rfl rfl (λa W _ e=>by go_simp;try rfl) ?_
                   refine Rp.v1 7 rfl (by kernel_rfl) rfl rfl rfl rfl (λa W _ e=>by go_simp;try rfl) ?_
                   refine Rp.v1 8 rfl (by kernel_rfl) rfl rfl rfl rfl (λa W _ e=>by go_simp;try rfl) ?_
                   refine Rp.v1 9 rfl (by kernel_rfl) rfl rfl rfl rfl (λa W hS e=>by obtain ⟨m5,a1,ac,ab⟩:=hS;go_simp;try rfl) ?_
                   refine Rp.v0 1 (.int .i64 (n:Int)) (by kernel_rfl) rfl rfl rfl (λa W _ e=>by go_simp;try rfl) ?_
                   refine Rp.v2 10 11 rfl rfl (by kernel_rfl) rfl rfl rfl rfl rfl (λa W _ e e'=>by go_simp;try rfl) ?_
                   refine Rp.v1 12 rfl (by kernel_rfl) rfl rfl rfl rfl (λa W _ e=>by go_simp;try rfl) ?_
                   refine Rp.v1 13 rfl (by kernel_rfl) rfl rfl rfl rfl (λa W hS e=>by obtain ⟨m5,a1,ac,ab⟩:=hS;go_simp;try rfl) ?_
                   refine Rp.v0 8 (.pointer (some ⟨wr.heap.size,0,none⟩)) (by kernel_rfl) rfl rfl rfl (λa W hS e=>by obtain ⟨m5,a1,ac,ab⟩:=hS;go_simp;try rfl) ?_
                   refine Rp.l1 15 rfl (by kernel_rfl) rfl rfl rfl rfl (λa e=>by go_simp;try rfl) ?_
                   refine Rp.QX.a (by rfl) (λa Kc f hK=>?_) ?_
                   . have gg:=Rp.Jb f 3 14 122 _ (by kernel_rfl) rfl rfl;have gf:=Rp.Jb f 3 16 124 _ (by kernel_rfl) rfl rfl
                     refine Qv rfl (.tmp 122) (.tmp 124) 81 rfl B 173 g0 (.agg #[.int .i64 0,.int .i64 0]) 2 16 Tryz.underlying81 hg hu ht hp rfl (by decide) (.slice Z C.length U) (C.length) (cg) (by simp [Act.eval,gg]) ?own ⟨F.heap.size,0,none⟩ 1 1 [.int .i64 u,.int .i64 ty] (by simp [Act.eval,gf]) rfl ?lit (by simp [Value.oneCell']) (by unfold maxLen;omega) (by omega) ?hbase ?_
                     case own=>exact World.ownsRow.alloc (show World.ownsRow { F with drawn:=F.drawn+1 } B 173 2 (.slice Z C.length U) (C.length) (cg) from H5.o.row mS) _
                     case lit=>exact Jd _ _ _
                     case hbase=>simp;omega
                     intro v3 w6 J bk au
                     have hq:=app_sub (X:=[.int .i64 u,.int .i64 ty]) (jj:=n*2) (V1:=({ F with drawn:=F.drawn+1 }:World).alloc (.cells #[.int .i64 u,.int .i64 ty] 173)) H5.o ⟨rfl,rfl,rfl,by show F.heap.size<=(F.alloc (.cells #[.int .i64 u,.int .i64 ty] 173)).heap.size;simp,λk hk=>QF F _ k hk⟩ bk J au (by omega) d1
                     exact hK v3 w6 ⟨JG J,⟨hq.1.cm dw,hq.2.1,hq.1.b0.2.1 0 _ rfl,hq.1.b0.2.1 1 _ rfl⟩,hq.2.2.1,hq.2.2.2⟩
                   refine Rp.v2 4 5 rfl rfl (by kernel_rfl) rfl rfl rfl rfl rfl (λa W _ e e'=>by go_simp;try rfl) ?_
                   refine Rp.v1 18 rfl (by kernel_rfl) rfl rfl rfl rfl (λa W _ e=>by go_simp;try rfl) ?_
                   refine Rp.QX.e (by rfl) (λa W Kc f hK=>?_) Rp.QX.nil
                   . have hA:=Rp.XF f 125 (by kernel_rfl);obtain ⟨v3,ad⟩:∃ v3,a.eval (.tmp 125)=v3:=⟨_,rfl⟩;rw [ad] at hA;obtain ⟨⟨a3,c3,rfl⟩,⟨-,s5,-⟩,d0,R⟩:=hA;have gb:=(Rp.QW a 127).symm.trans (Rp.XI f 19 127 _ (by kernel_rfl) rfl);have gd:a.tmps[125]?.getD undef=(.slice a3 (C.length+1) c3):=(Rp.QW a 125).symm.trans ad;have ea:=Rp.Xs f rfl ad (by kernel_rfl) rfl
                     simp only [Rp.Oe,List.set,Nat.reduceAdd] at ea
                     refine Rp.JL (Rp.Qe rfl) (W':=W.setCell ⟨g,n*2,none⟩ (.slice a3 (C.length+1) c3)) ?hst (hK undef _ ?hen)
                     case hst =>
                      clear f hK ea
                      go_simp
                      try rfl
                     case hen =>
                      clear f hK gb gd;clear ad;subst ea;clear dv d4 m5 a1 ac ab;rw [show (c0++([.slice Z C.length U,.slice none 0 0]:List Value)).set (n*2) (.slice a3 (C.length+1) c3)=c0++[.slice a3 (C.length+1) c3,.slice none 0 0] from set_app0 co] at R;have H8:=Hm R;clear R s5 d0 H5 d1
                      go_wp2_with fail
                      go_roundw
                      case rel =>
                       refine ⟨O+u,k+1,C++[⟨u,ty⟩],a3,c3,cg++[.int .i64 u,.int .i64 ty],q2,0,0,rfl,by go_num,by omega,by simp;omega,.inl ⟨rfl,rfl,by omega,by omega,io,by omega,by omega,by have:=gv.o;simp;omega,by have:=gu.o.snoc (show RGrp ⟨u,ty⟩ _ [] from ⟨rfl,rfl⟩);simpa using this,jc.o⟩,?_⟩
                       have h9:=H8.o.unbox.more (K':=4*p+1+(k+1)) (λ_=>by omega)
                       simpa using h9
                      case measure=>simp [intOf];omega
         . have ii:decide ((k:Int)<N2)=false:=decide_eq_false dy
           have gq:Hid (X4 d m=.ok C q):=by
            show _=_
            rw [HM.o,show N2.toNat-k=0 by omega];rfl
           have fg:=hs.perm (List.Perm.swap _ _ _);have KL:=Hm (rlA fg (rlC_ok fj) (n:=n) dw rfl (show (c0++([.slice Z C.length U,.slice none 0 0]:List Value))[n*2+1]?=_ from Oh co) (by omega) (by omega) bj ih);clear hs fg
           go_wp2_with fail
           refine (KL.o).mono ?_
           rintro e w9 fq;obtain ⟨rfl,ae,la,lc,ci,cw,q9,bn,cq,fu,fb,z⟩:=rlC fq;rw [show (c0++([.slice Z C.length U,.slice none 0 0]:List Value)).set (n*2+1) (.slice la ae.length lc)=c0++[.slice Z C.length U,.slice la ae.length lc] from Od co] at z;have cv:=Hm fu;have ee:=Hm fb;clear KL fq fu fb
           by_cases e9:bn=0
           . subst e9;obtain ⟨l9,dz,f2⟩:=cv.o.zero;subst f2;obtain ⟨il,c5,ie⟩:=ee.o l9 q9 dz;subst il;have bh:be.E=(m:Int)+N:=by rw [aa.o]
             have d3:be.fs=bc.fs:=by rw [aa.o]
             have br:Hid (bodM (bs.take (m+N.toNat)) (m+N) m=.ok ⟨C,ae⟩ q9):=by
              show _=_
              rw [b6.o];unfold bodM;rw [gq.o];simp only [Rs.bind];rw [dz]
             have KE:=Hm (endC z (k:=bc.en) (by rw [aa.o]) (by rw [bh];omega));have je:=Hm c5;have j9:=z.le;clear z dz c5 cv ee
             go_wp2_with fail
             refine (KE.o).mono ?_
             rintro e dd ⟨rfl,c7⟩;have gw:=Hm c7;clear c7 KE
             go_wp2_with fail
             go_end0
             refine ⟨rfl,?_⟩
             have fp:q9<=bc.fs.length:=by
              have h1:d.length<=bc.fs.length:=by rw [<- b6.o,bq.o];simp only [List.length_take];omega
              omega
             rcases gw.o with ⟨fh,iy,i7,cz,h1,h2,R⟩|⟨ij,V,R,rfl⟩
             . rw [bh] at fh;rw [show Xw bs bc.E p=.bad (sE bs q9) (sA bs q9) from within_short cu.o br.o (by omega)];have fk:=short_bad (bc1:=bc) (bc2:=be) (bs1:=bs) (q:=q9) d3 (by rw [bh];exact fh) (by rw [bh];exact cp) bq.o fp;rw [d3] at h1 h2
               exact ⟨be,d,q9,iy,i7,_,cz,h1.trans fk.1,h2.trans fk.2,R.err cz 0⟩
             . rw [bh] at ij;rw [show Xw bs bc.E p=.ok ⟨C,ae⟩ q9 from within_ok cu.o br.o (by omega)]
               have ia:q9<=bs.length:=by
                have h1:d.length<=bs.length:=by rw [<- b6.o];simp only [List.length_take];omega
                omega
               have ib:=R.popE (bc:=bc) (bs:=bs) (E':=(m:Int)+N) (by rw [aa.o]) (by rw [aa.o]) d3 (by rw [bh];exact cp) ia bq.o iu ir jf.o jg.o
               refine ⟨a3,c3,.slice (some ⟨g,0,none⟩) (n+1) Y,c0++[.slice Z C.length U,.slice la ae.length lc],k0++(⟨173,2,C.length,.slice Z C.length U,cg⟩::(⟨170,5,ae.length,.slice la ae.length lc,ci⟩::cw)),jd.o.snoc ⟨_,_,_,_,rfl,gu.o,⟨_,_,je.o,rfl⟩,rfl⟩,?_⟩
               have h9:=ib.perm (rs':=⟨83,2,n+1,.slice (some ⟨g,0,none⟩) (n+1) Y,c0++[.slice Z C.length U,.slice la ae.length lc]⟩::(os++(k0++(⟨173,2,C.length,.slice Z C.length U,cg⟩::(⟨170,5,ae.length,.slice la ae.length lc,ci⟩::cw))))) (perm_cod _ _ _ _ _ _);have f9:=h9.more (K':=4*q9-0) (λ_=>by have:=gv.o;omega);rw [show ({ be with en:=bc.en,ends:=bc.ends,E:=bc.E }:Bd)={ bc with ea:=a3,ec:=c3,rest:=bc.rest.set 10 (.slice (some ⟨g,0,none⟩) (n+1) Y) } by rw [aa.o]] at f9;have ig:(l++[(⟨C,ae⟩:Cod)]).length=n+1:=by have:=HN.o;simp;omega
               rw [ig]
               exact f9
           . have jb:=Hm (cv.o.ne e9);have KE:=Hm (endE z e9);have H9:=Hm z;clear z cv ee
             go_wp2_with fail
             refine (KE.o).mono ?_
             rintro e dd ⟨rfl,rfl⟩
             go_wp2_with fail
             go_end0
             refine ⟨rfl,?_⟩
             have br:bodM (bs.take (m+N.toNat)) (m+N) m=.bad bn cq:=by
              rw [b6.o];unfold bodM;rw [gq.o];simp only [Rs.bind];rw [jb.o]
             rw [show Xw bs bc.E p=.bad (wE bs (m+N.toNat) bn) (wA bs (m+N.toNat) bn cq) from within_bad cu.o br (by omega)];have bw:=win_bad (bc1:=bc) (bc2:=be) (bs1:=bs) (q:=m+N.toNat) (e:=bn) (a:=cq) (by rw [aa.o]) (by rw [aa.o];show (m:Int)+N=_;omega) (by rw [aa.o];exact cp) bq.o
             exact ⟨be,d,q9,bn,cq,_,e9,bw.1,bw.2,H9.o.err e9 0⟩
       . obtain ⟨zz,cn,a8,i6⟩:=hs.c3n y;have a6:=Hm hM;have KL:=Hm (rlN (n:Int) hs y);clear hM hs
         have c6:Hid (∀ V q' K' rs',Sd B w0 s ba be d q' er a K' bx rs' V->EnD 0 (Xw bs bc.E p) Oq l 10 83 2 B w0 s ba bc bs bx os (.returned (.tuple #[])) V):=λV q' K' rs' hV=>by
          refine ⟨rfl,?_⟩
          have br:bodM (bs.take (m+N.toNat)) (m+N) m=.bad er a:=by
           rw [b6.o];unfold bodM;rw [a6.o];rfl
          rw [show Xw bs bc.E p=.bad (wE bs (m+N.toNat) er) (wA bs (m+N.toNat) er a) from within_bad cu.o br (by omega)];have bw:=win_bad (bc1:=bc) (bc2:=be) (bs1:=bs) (q:=m+N.toNat) (e:=er) (a:=a) (by rw [aa.o]) (by rw [aa.o];show (m:Int)+N=_;omega) (by rw [aa.o];exact cp) bq.o
          exact ⟨be,d,q',er,a,_,y,bw.1,bw.2,hV.err y 0⟩
         by_cases dy:(k:Int)<N2
         . go_wp2_with fail
           refine (KL.o).mono ?_
           rintro e w9 ⟨rfl,z⟩;have KE:=Hm (endE z y);have H9:=Hm z;clear z KL
           go_wp2_with fail
           refine (KE.o).mono ?_
           rintro e dd ⟨rfl,rfl⟩
           go_wp2_with fail
           go_end0
           exact c6.o _ _ _ _ H9.o
         . have ii:decide ((k:Int)<N2)=false:=decide_eq_false dy
           go_wp2_with fail
           refine (KL.o).mono ?_
           rintro e w9 ⟨rfl,z⟩;have KE:=Hm (endE z y);have H9:=Hm z;clear z KL
           go_wp2_with fail
           refine (KE.o).mono ?_
           rintro e dd ⟨rfl,rfl⟩
           go_wp2_with fail
           go_end0
           exact c6.o _ _ _ _ H9.o
end Go.Proofs.YtedcmcdbejjgcaaGreat.Ms
