import Derived.Test.YtedcmcdbejjgcaaGreatGaa
import Derived.Test.YtedcmcdbejjgcaaGreatGai
import Derived.Test.YtedcmcdbejjgcaaGreatGbp
set_option linter.all false
set_option maxHeartbeats 400000000
set_option maxRecDepth 100000
namespace Go.Proofs.YtedcmcdbejjgcaaGreat.Ms
open Go.RowKit Go.Sort
theorem info_El:(Tryz.prog.info? 79).map (λi=>(i.zero,i.size,i.bytes))=some (some (.agg #[.slice none 0 0,.slice none 0 0]),2,48):=by kernel_rfl
theorem info_I6:(Tryz.prog.info? 2).map (λi=>(i.zero,i.size,i.bytes))=some (some (.int .i64 0),1,8):=by kernel_rfl
theorem elem_c {B w0 s ba bc bs p bx w}(l:List Ele)(v0:Value)(c0:List Value)(k0 os:List Qc)(h:Sd B w0 s ba bc bs p 0 0 (4*p) bx (⟨79,2,l.length,v0,c0⟩::(os++k0)) w)(bv:LR REle l c0 k0)(hm:bc.rest[9]?=some v0)(bq:bc.sec=9)(ef:l.length<=p)(hA:Qm bs)(hl:bs.length<=4194300) :
    Calls Tryz.prog 225 #[.pointer (some ⟨s,0,none⟩),.int .i64 (l.length:Int)] w (EnD 0 (Xk bs p) REle l 9 79 2 B w0 s ba bc bs bx os):=by
 obtain ⟨va,vc,rfl⟩:∃ a c,v0=.slice a l.length c:=Qc.Ok.slice (h.row mS);have ed:=h.le;have dh:=Hm bv;have d8:bc.rest.length=13:=by obtain ⟨_,_,_,hr,_⟩:=h.ex;exact hr.rl
 clear bv;generalize hn:l.length=n at *;have HN:=Hm hn;clear hn;obtain ⟨i0,hi,cq,cp,co⟩:=info_parts info_El;obtain ⟨j0,hj,ct,cs,cr⟩:=info_parts info_I6;have K1:=Hm (oneC 0 0 (by decide) (by decide) h (Lk.ok () p) hA (by omega));clear h
 go_enter Tryz.func225,Tryz.ntmps225
 go_wp2_with fail
 refine (K1.o).mono ?_
 rintro e w1 ⟨u1,Y,bh,b5,rfl,⟨x1,rfl⟩,bw,-,D⟩;have ab:Lk (Qz (JP 0 0) bs p) Y bh b5:=bw;clear bw K1
 by_cases he:bh=0
 case neg =>
  have HX:Hid (Xk bs p=.bad bh b5):=by
   show _=_
   unfold Xk segM;rw [GR,ab.ne he];rfl
  obtain ⟨zz,cn,bp,c3⟩:=D.c3n he;have HS:=Hm D;clear D
  go_wp2_with fail
  (try simp only [Exit.inBlock,Exit.then])
  refine bodyPost_ret (results_none rfl _ _ _) rfl ?_
  rw [HX.o]
  exact ⟨rfl,FaD.of HS.o he⟩
 subst he;obtain ⟨x0,a0,rfl⟩:=ab.zero;have ee:=X8 _ _ _ x0 Y a0
 have HE:Hid (Xk bs p=(Jx bs Y).bind λl Y=>(Jj (QK bs) bs Y).bind λfs p2=>.ok ⟨l,fs⟩ p2):=by
  show _=_
  unfold Xk segM;rw [GR,a0];rfl
 have c3:=D.c3;have m5:w1.cell? ⟨s,14,none⟩=some (.slice va n vc):=D.cm hm;have dp:=D.le;have b2:=D.hB;have HS:=Hm D;clear D ab a0
 go_wp2_with (at_builtin;refine wpList_append_own_at _ rfl _ _ 29 rfl B 79 i0 (.agg #[.slice none 0 0,.slice none 0 0]) 2 48 Tryz.underlying29 hi cq cp co rfl (by decide) (.slice va n vc) n c0 rfl (World.ownsRow.alloc (show World.ownsRow w1 B 79 2 (.slice va n vc) n c0 from HS.o.row mS) _) ⟨w1.heap.size,0,none⟩ 1 1 [.slice none 0 0,.slice none 0 0] rfl rfl (Jd _ _ _) (by simp [Value.oneCell']) (by unfold maxLen;omega) (by omega) (by simp;omega) ?_;intro v3 w6 j aj cu U;have hq:=Xr (ix:=9) HS.o hm (by decide) (bF.alloc lR _) aj j U;obtain ⟨g,G,R,-⟩:=QI j (by omega);subst R;have H6:=Hm hq.2;have m6:w6.cell? ⟨s,14,none⟩=some (.slice va n vc):=hq.1.cm hm;have f6:=hq.1.fz 14;have ah:c0.length=n*2:=(by have:=j.1;simp at this;omega);clear j aj U hq cu)
 obtain ⟨bd,ac⟩:∃ bd:Bd,bd={ bc with rest:=bc.rest.set 9 (.slice (some ⟨g,0,none⟩) (n+1) G) }:=⟨_,rfl⟩;have a8:bd.rest[9]?=some (.slice (some ⟨g,0,none⟩) (n+1) G):=by rw [ac];exact List.getElem?_set_self (by omega)
 have a4:bd.sec=9:=by rw [ac];exact bq
 have cd:Hid (Sd B w0 s ba bd bs Y 0 0 (4*p) bx (⟨79,2,n+1,.slice (some ⟨g,0,none⟩) (n+1) G,c0++([.slice none 0 0,.slice none 0 0]:List Value)⟩::(os++k0)) (w6.setCell ⟨s,14,none⟩ (.slice (some ⟨g,0,none⟩) (n+1) G))):=by show Sd _ _ _ _ _ _ _ _ _ _ _ _ _;rw [ac];exact H6.o
 have cb:=Hm ac;clear H6 ac
 refine (tellC 9 _ 0 0 cd.o (λ_=>rfl) (by omega)).mono ?_
 rintro e w7 ⟨rfl,bt⟩;have KL:=Hm (rlA bt (rlE_ok a4) (n:=n) a8 rfl (show (c0++([.slice none 0 0,.slice none 0 0]:List Value))[n*2+0]?=_ from Oh ah) (by omega) (by omega) hA hl);clear bt cd m6 f6 HS m5
 go_wp2_with fail
 refine (KL.o).mono ?_
 rintro e w9 bu;obtain ⟨rfl,b,C,z,ci,d,q9,c9,es,bb,a1,a6⟩:=rlC bu;rw [show (c0++([.slice none 0 0,.slice none 0 0]:List Value)).set (n*2+0) (.slice C b.length z)=c0++[.slice C b.length z,.slice none 0 0] from Od ah] at a6;have K9:=Hm (u32C a6 bb hA (by omega))
 have c2:c9=0->b.length+Y<=q9:=λe=>by
  subst e;obtain ⟨l9,cx,_⟩:=bb.zero;obtain ⟨h1,_,h3⟩:=a1 l9 q9 cx;rw [h1];exact h3
 have b8:=Hm a1;clear a6 KL bu bb a1
 go_wp2_with fail
 refine (K9.o).mono ?_
 rintro e d0 ⟨d1,J,m,H,rfl,⟨N,rfl⟩,aa,aq,ar⟩
 have b7:Hid (m≠0->Xk bs p=.bad m H):=λhn0=>by
  rw [HE.o]
  have:=aa.ne hn0
  cases hL:Jx bs Y with
  |bad e a=>rw [hL] at this;simp only [Rs.bind] at this⊢;cases this;rfl
  |ok l9 q =>
   rw [hL] at this;have h2:QK bs q=.bad m H:=this
   show ((Jj (QK bs) bs q).bind _)=_
   unfold Jj;rw [show Qy false 32 bs q=.bad m H from h2];rfl
 have b6:Hid (m=0->H=0/\b.length+Y+1<=J/\0<=N/\LR RIn b ci d/\Xk bs p=(Q7 (QK bs) N.toNat [] J).bind λfs p2=>.ok ⟨b,fs⟩ p2):=λhn0=>by
  subst hn0;obtain ⟨N',ad,U⟩:=aa.zero;have bg:=aq N' J ad
  injection bg with _ bg
  subst bg;rw [HE.o]
  cases hL:Jx bs Y with
  |bad e a=>rw [hL] at ad;cases ad
  |ok l9 q =>
   rw [hL] at ad;have h2:QK bs q=.ok N J:=ad;obtain ⟨h3,h4,h5⟩:=b8.o l9 q hL;subst h3;have hb:=Jq hA h2;have hx:=JC _ _ N J h2
   refine ⟨U,by omega,hb.1,h4,?_⟩
   show ((Jj (QK bs) bs q).bind _)=_
   unfold Jj;rw [show Qy false 32 bs q=.ok N J from h2];rfl
 have ce:=Hm ((ar.nilRow (T:=2) (sz:=1)).perm (rs':=⟨2,1,0,.slice none 0 0,[]⟩::⟨79,2,n+1,.slice (some ⟨g,0,none⟩) (n+1) G,c0++[.slice C b.length z,.slice none 0 0]⟩::(⟨170,5,b.length,.slice C b.length z,ci⟩::(d++(os++k0)))) ((List.Perm.swap _ _ _).cons _));clear ar aa aq b8 K9 HE c2
 go_wp2_with fail
 go_loopw [5] (λiv wr=>∃ (k:Nat) (fs:List Int) (fa:Option Addr) (t q:Nat) (er a:Int),iv=.int .i64 (k:Int)/\(k=0\/(k:Int)<=N)/\k<=4294967296/\((er=0/\a=0/\fs.length=k/\0<=N/\(k:Int)<=N/\b.length+Y+1+k<=q/\LR RIn b ci d/\Xk bs p=(Q7 (QK bs) (N.toNat-k) fs q).bind λfs p2=>.ok ⟨b,fs⟩ p2)\/(er≠0/\Xk bs p=.bad er a))/\Sd B w0 s ba bd bs q er a (4*p+1+2*b.length+k) bx (⟨2,1,fs.length,.slice fa fs.length t,I fs⟩::⟨79,2,n+1,.slice (some ⟨g,0,none⟩) (n+1) G,c0++[.slice C b.length z,.slice fa fs.length t]⟩::(⟨170,5,b.length,.slice C b.length z,ci⟩::(d++(os++k0)))) wr) (λi _=>N.toNat-(intOf i).toNat)
 case atStart =>
  refine ⟨0,[],none,0,J,m,H,rfl,.inl rfl,by omega,?_,by simpa [I] using ce.o⟩
  by_cases e0:m=0
  . obtain ⟨h1,h2,h3,h4,h5⟩:=b6.o e0
    exact .inl ⟨e0,h1,rfl,h3,by omega,by omega,h4,h5⟩
  . exact .inr ⟨e0,b7.o e0⟩
 case round =>
  obtain ⟨k,fs,fa,t,q,er,a,rfl,ei,eg,hst,hs⟩:=hrel;clear b7 b6 ce
  rcases hst with ⟨rfl,rfl,bz,c4,eh,en,au,hM⟩|⟨M,hM⟩
  . have b9:=Hm au;have eb:=hs.le;have c3:=hs.c3;have ca:=Hm bz;clear au bz
    by_cases a9:(k:Int)<N
    . have KD:=Hm (u32D hs hA (by omega))
      rcases hX:QK bs q with ⟨e2,a2⟩|⟨y,q2⟩
      . rw [hX] at KD;have M:=Q9 _ _ _ _ e2 a2 hX
        have ak:Hid (Xk bs p=.bad e2 a2):=by
         show _=_
         rw [hM,show N.toNat-k=(N.toNat-(k+1))+1 by omega]
         simp only [Q7,hX,Rs.bind]
        clear hX hM hs
        go_wp2_with (first
         |(go_at_call 145;refine (KD.o).mono ?_;rintro e w2 ⟨u,q',rfl,⟨y,rfl⟩,F⟩;obtain ⟨z3,d6,dm,e3⟩:=F.c3n M;have H2:=Hm F;clear F KD)
         | (go_at_call 147;refine (Xm 11 _ _ 0 H2.o M).mono ?_;rintro e w3 ⟨rfl,rfl⟩))
        go_roundw
        case rel=>exact ⟨k+1,fs,fa,t,_,e2,a2,by go_num,.inr (by omega),by omega,.inr ⟨M,ak.o⟩,H2.o.err M _⟩
        case measure=>simp [intOf];omega
      . rw [hX] at KD;have d7:=JC _ _ y q2 hX
        have df:Hid (Xk bs p=(Q7 (QK bs) (N.toNat-(k+1)) (fs++[y]) q2).bind λfs p2=>.ok ⟨b,fs⟩ p2):=by
         show _=_
         rw [hM,show N.toNat-k=(N.toNat-(k+1))+1 by omega]
         simp only [Q7,hX,Rs.bind]
        clear hX hM hs
        go_wp2_with (go_at_call 145;refine (KD.o).mono ?_;rintro e w2 ⟨rfl,F⟩;have e3:=F.c3;have HS:=Hm F;have dn:=F.le;clear F KD)
        have bf:(c0++([.slice C b.length z,.slice fa fs.length t]:List Value))[n*2+1]?=some (.slice fa fs.length t):=Oh ah;have el:fs.length<=4294967296:=by have:=ca.o;omega
        refine Ql (λV=>Sd B w0 s ba bd bs q2 0 0 (4*p+1+2*b.length+k) (bx) (⟨2,1,fs.length,.slice fa fs.length t,I fs⟩::⟨79,2,n+1,.slice (some ⟨g,0,none⟩) (n+1) G,c0++([.slice C b.length z,.slice fa fs.length t]:List Value)⟩::(⟨170,5,b.length,.slice C b.length z,ci⟩::(d++(os++k0)))) (V)) HS.o ?_
        intro E Z
        have m5:E.cell? ⟨s,14,none⟩=some (.slice (some ⟨g,0,none⟩) (n+1) G):=Z.cm a8
        have O:E.cell? ⟨g,n*2+1,none⟩=some (.slice fa fs.length t):=by
         have c5:=Z.row (r:=⟨79,2,n+1,.slice (some ⟨g,0,none⟩) (n+1) G,c0++([.slice C b.length z,.slice fa fs.length t]:List Value)⟩) (by simp)
         exact (World.ownsRow.cellAt (show E.ownsRow B 79 2 (.slice (some ⟨g,0,none⟩) (n+1) G) (n+1) (c0++([.slice C b.length z,.slice fa fs.length t]:List Value)) from c5) (n*2+1) (by omega)).trans bf
        have H5:=Hm Z;have b2:=Z.hB;have a7:(n:Int)<(n:Int)+1:=by omega
        clear Z HS
        refine Rp.Ji (N:=77) (vs:=[.pointer (some ⟨s,0,none⟩),.pointer (some ⟨s,0,none⟩),.pointer (some ⟨s,5,none⟩),.pointer (some ⟨s,14,none⟩),.slice (some ⟨g,0,none⟩) (n+1) G,.int .i64 (n:Int),.pointer (some ⟨s,0,none⟩),.pointer (some ⟨s,0,none⟩),.pointer (some ⟨s,5,none⟩),.pointer (some ⟨s,14,none⟩),.slice (some ⟨g,0,none⟩) (n+1) G,.int .i64 (n:Int),.pointer (some ⟨g,n*2,none⟩),.pointer (some ⟨g,n*2+1,none⟩),.slice fa fs.length t,.int .i64 y,.slice (some ⟨E.heap.size,0,none⟩) 1 1,undef,.pointer (some ⟨g,n*2,none⟩),.pointer (some ⟨g,n*2+1,none⟩)]) (i1:=16) (i2:=17) (L:=20) (S:=λW=>W.cell? ⟨s,14,none⟩=some (.slice (some ⟨g,0,none⟩) (n+1) G)/\W.cell? ⟨g,n*2+1,none⟩=some (.slice fa fs.length t)) (A:=λW v=>(∃ a3 c3,v=.slice a3 (fs.length+1) c3)/\(W.cell? ⟨s,14,none⟩=some (.slice (some ⟨g,0,none⟩) (n+1) G)/\W.cell? ⟨g,n*2+1,none⟩=some (.slice fa fs.length t))/\W.frozen? ⟨g,n*2+1,none⟩=false/\Sd B w0 s ba bd bs q2 0 0 (4*p+1+2*b.length+k) (bx) (⟨2,1,fs.length+1,v,I fs++([.int .i64 y]:List Value)⟩::⟨79,2,n+1,.slice (some ⟨g,0,none⟩) (n+1) G,(c0++([.slice C b.length z,.slice fa fs.length t]:List Value)).set (n*2+1) v⟩::(⟨170,5,b.length,.slice C b.length z,ci⟩::(d++(os++k0)))) (W.setCell ⟨g,n*2+1,none⟩ v)) (w2:=({ E with drawn:=E.drawn+1 }:World).alloc (.cells #[.int .i64 y] 2)) (by kernel_rfl) (by kernel_rfl) (by kernel_rfl) rfl ?_ ?_ ?_ ?_
        . exact ⟨m5,O⟩
        . exact ⟨Qg (w:={ E with drawn:=E.drawn+1 }) m5,Qg (w:={ E with drawn:=E.drawn+1 }) O⟩
        . intro W v h
          exact h.2.1
        . refine Rp.v0 0 (.pointer (some ⟨s,0,none⟩)) (by kernel_rfl) rfl rfl rfl (λa W _ e=>by go_simp;try rfl) ?_
          refine Rp.v1 0 rfl (by kernel_rfl) rfl rfl rfl rfl (λa W _ e=>by go_simp;try rfl) ?_
          refine Rp.v1 1 rfl (by kernel_rfl) rfl rfl rfl rfl (λa W _ e=>by go_simp;try rfl) ?_
          refine Rp.v1 2 rfl (by kernel_rfl) rfl rfl rfl rfl (λa W _ e=>by go_simp;try rfl) ?_
          refine Rp.v1 3 rfl (by kernel_rfl) rfl rfl rfl rfl (λa W hS e=>by obtain ⟨m5,O⟩:=hS;go_simp;try rfl) ?_
          refine Rp.v0 1 (.int .i64 (n:Int)) (by kernel_rfl) rfl rfl rfl (λa W _ e=>by go_simp;try rfl) ?_
          refine Rp.v0 0 (.pointer (some ⟨s,0,none⟩)) (by kernel_rfl) rfl rfl rfl (λa W _ e=>by go_simp;try rfl) ?_
          refine Rp.v1 6 rfl (by kernel_rfl) rfl rfl rfl rfl (λa W _ e=>by go_simp;try rfl) ?_
          refine Rp.v1 7 rfl (by kernel_rfl) rfl rfl rfl rfl (λa W _ e=>by go_simp;try rfl) ?_
          refine Rp.v1 8 rfl (by kernel_rfl) rfl rfl rfl rfl (λa W _ e=>by go_simp;try rfl) ?_
          refine Rp.v1 9 rfl (by kernel_rfl) rfl rfl rfl rfl (λa W hS e=>by obtain ⟨m5,O⟩:=hS;go_simp;try rfl) ?_
          refine Rp.v0 1 (.int .i64 (n:Int)) (by kernel_rfl) rfl rfl rfl (λa W _ e=>by go_simp;try rfl) ?_
          refine Rp.v2 10 11 rfl rfl (by kernel_rfl) rfl rfl rfl rfl rfl (λa W _ e e'=>by go_simp;try rfl) ?_
          refine Rp.v1 12 rfl (by kernel_rfl) rfl rfl rfl rfl (λa W _ e=>by go_simp;try rfl) ?_
          refine Rp.v1 13 rfl (by kernel_rfl) rfl rfl rfl rfl (λa W hS e=>by obtain ⟨m5,O⟩:=hS;go_simp;try rfl) ?_
          refine Rp.v0 6 (.int .i64 y) (by kernel_rfl) rfl rfl rfl (λa W _ e=>by go_simp;try rfl) ?_
          refine Rp.l1 15 rfl (by kernel_rfl) rfl rfl rfl rfl (λa e=>by go_simp;try rfl) ?_
          refine Rp.QX.a (by rfl) (λa Kc f hK=>?_) ?_
          . have dd:=Rp.Jb f 3 14 67 _ (by kernel_rfl) rfl rfl;have dc:=Rp.Jb f 3 16 69 _ (by kernel_rfl) rfl rfl
            refine Qv rfl (.tmp 67) (.tmp 69) 25 rfl B 2 j0 (.int .i64 0) 1 8 Tryz.underlying25 hj ct cs cr rfl (by decide) (.slice fa fs.length t) (fs.length) (I fs) (by simp [Act.eval,dd]) ?own ⟨E.heap.size,0,none⟩ 1 1 [.int .i64 y] (by simp [Act.eval,dc]) rfl ?lit (by simp [Value.oneCell']) (by unfold maxLen;omega) (by omega) ?hbase ?_
            case own=>exact World.ownsRow.alloc (show World.ownsRow { E with drawn:=E.drawn+1 } B 2 1 (.slice fa fs.length t) (fs.length) (I fs) from H5.o.row mS) _
            case lit=>exact Jd _ _ _
            case hbase=>simp;omega
            intro v3 w6 j aj U
            have hq:=app_sub (X:=[.int .i64 y]) (jj:=n*2+1) (V1:=({ E with drawn:=E.drawn+1 }:World).alloc (.cells #[.int .i64 y] 2)) H5.o ⟨rfl,rfl,rfl,by show E.heap.size<=(E.alloc (.cells #[.int .i64 y] 2)).heap.size;simp,λk hk=>QF E _ k hk⟩ aj j U (by omega) bf
            exact hK v3 w6 ⟨JG j,⟨hq.1.cm a8,hq.2.1⟩,hq.2.2.1,hq.2.2.2⟩
          refine Rp.v2 4 5 rfl rfl (by kernel_rfl) rfl rfl rfl rfl rfl (λa W _ e e'=>by go_simp;try rfl) ?_
          refine Rp.v1 18 rfl (by kernel_rfl) rfl rfl rfl rfl (λa W _ e=>by go_simp;try rfl) ?_
          refine Rp.QX.e (by rfl) (λa W Kc f hK=>?_) Rp.QX.nil
          . have hA:=Rp.XF f 70 (by kernel_rfl);obtain ⟨v3,R⟩:∃ v3,a.eval (.tmp 70)=v3:=⟨_,rfl⟩;rw [R] at hA;obtain ⟨⟨a3,c3,rfl⟩,⟨-,s5⟩,cz,a5⟩:=hA;have da:=(Rp.QW a 72).symm.trans (Rp.XI f 19 72 _ (by kernel_rfl) rfl);have db:a.tmps[70]?.getD undef=(.slice a3 (fs.length+1) c3):=(Rp.QW a 70).symm.trans R;have ea:=Rp.Xs f rfl R (by kernel_rfl) rfl
            simp only [Rp.Oe,List.set,Nat.reduceAdd] at ea
            refine Rp.JL (Rp.Qe rfl) (W':=W.setCell ⟨g,n*2+1,none⟩ (.slice a3 (fs.length+1) c3)) ?hst (hK undef _ ?hen)
            case hst =>
             clear f hK ea
             go_simp
             try rfl
            case hen =>
             clear f hK da db;clear R;subst ea;clear a7 b2 m5 O;rw [show (c0++([.slice C b.length z,.slice fa fs.length t]:List Value)).set (n*2+1) (.slice a3 (fs.length+1) c3)=c0++[.slice C b.length z,.slice a3 (fs.length+1) c3] from Od ah] at a5;have di:=Hm a5;clear a5 s5 cz H5 bf
             go_wp2_with (go_at_call 147;refine (Xx 11 _ _ 0 di.o (by omega)).mono ?_;rintro e w8 ⟨rfl,br⟩;have H8:=Hm br;clear br)
             go_roundw
             case rel =>
              refine ⟨k+1,fs++[y],a3,c3,q2,0,0,by go_num,.inr (by omega),by omega,.inl ⟨rfl,rfl,by have:=ca.o;simp;omega,c4,by omega,by omega,b9.o,df.o⟩,?_⟩
              have h9:=H8.o.more (K':=4*p+1+2*b.length+(k+1)) (λ_=>by omega)
              simpa [I] using h9
             case measure=>simp [intOf];omega
    . have cy:decide ((k:Int)<N)=false:=decide_eq_false a9
      have dg:Hid (Xk bs p=.ok ⟨b,fs⟩ q):=by
       show _=_
       rw [hM,show N.toNat-k=0 by omega];rfl
      have H8:=Hm hs;clear hM hs
      go_wp2_with fail
      go_end0
      rw [dg.o]
      refine ⟨rfl,bc.ea,bc.ec,.slice (some ⟨g,0,none⟩) (n+1) G,c0++[.slice C b.length z,.slice fa fs.length t],k0++((⟨170,5,b.length,.slice C b.length z,ci⟩::d)++[nR (.slice fa fs.length t) fs]),dh.o.snoc ⟨_,_,_,rfl,⟨_,_,b9.o,rfl⟩,rfl⟩,?_⟩
      have h9:=H8.o.perm (rs':=⟨79,2,n+1,.slice (some ⟨g,0,none⟩) (n+1) G,c0++[.slice C b.length z,.slice fa fs.length t]⟩::(os++(k0++((⟨170,5,b.length,.slice C b.length z,ci⟩::d)++[nR (.slice fa fs.length t) fs])))) (perm_ele _ _ _ _ _ _);have b4:=h9.more (K':=4*q-0) (λ_=>by omega);rw [cb.o] at b4;have cw:(l++[(⟨b,fs⟩:Ele)]).length=n+1:=by have:=HN.o;simp;omega
      rw [cw]
      exact b4
  . obtain ⟨zz,cn,bp,c3⟩:=hs.c3n M;have ak:=Hm hM;have H8:=Hm hs;clear hM hs
    have av:FaD er a B w0 s ba bc bx wr:=by
     have:=FaD.of H8.o M
     rw [cb.o] at this
     exact this.rest
    have HF:=Hm av;clear av
    by_cases a9:(k:Int)<N
    . go_wp2_with fail
      go_end0
      rw [ak.o]
      exact ⟨rfl,HF.o⟩
    . have cy:decide ((k:Int)<N)=false:=decide_eq_false a9
      go_wp2_with fail
      go_end0
      rw [ak.o]
      exact ⟨rfl,HF.o⟩
theorem info_Da:(Tryz.prog.info? 85).map (λi=>(i.zero,i.size,i.bytes))=some (some (.agg #[.slice none 0 0,.slice none 0 0]),2,48):=by kernel_rfl
theorem info_U8:(Tryz.prog.info? 5).map (λi=>(i.zero,i.size,i.bytes))=some (some (.int .u8 0),1,1):=by kernel_rfl
theorem data_c {B w0 s ba bc bs p bx w}(l:List Dat)(v0:Value)(c0:List Value)(k0 os:List Qc)(h:Sd B w0 s ba bc bs p 0 0 (4*p) bx (⟨85,2,l.length,v0,c0⟩::(os++k0)) w)(b5:LR RDat l c0 k0)(hm:bc.rest[11]?=some v0)(bv:bc.sec=11)(hen:bc.en≠0)(em:l.length<=p)(hA:Qm bs)(hl:bs.length<=4194300) :
    Calls Tryz.prog 227 #[.pointer (some ⟨s,0,none⟩),.int .i64 (l.length:Int)] w (EnD 0 (Xq bs bc.E p) RDat l 11 85 2 B w0 s ba bc bs bx os):=by
 obtain ⟨va,vc,rfl⟩:∃ a c,v0=.slice a l.length c:=Qc.Ok.slice (h.row mS);have ek:=h.le;have dq:=Hm b5;have eg:bc.rest.length=13:=by obtain ⟨_,_,_,hr,_⟩:=h.ex;exact hr.rl
 clear b5;generalize hn:l.length=n at *;have HN:=Hm hn;clear hn;obtain ⟨i0,hi,c4,c2,cz⟩:=info_parts info_Da;obtain ⟨j0,hj,c8,c7,c6⟩:=info_parts info_U8;have K1:=Hm (oneC 0 0 (by decide) (by decide) h (Lk.ok () p) hA (by omega));clear h
 go_enter Tryz.func227,Tryz.ntmps227
 go_wp2_with fail
 refine (K1.o).mono ?_
 rintro e w1 ⟨u1,p1,bk,cg,rfl,⟨x1,rfl⟩,b8,-,H⟩;have ae:Lk (Qz (JP 0 0) bs p) p1 bk cg:=b8;clear b8 K1
 by_cases he:bk=0
 case neg =>
  have HX:Hid (Xq bs bc.E p=.bad bk cg):=by
   show _=_
   unfold Xq segM;rw [GR,ae.ne he];rfl
  obtain ⟨zz,cy,bq,c3⟩:=H.c3n he;have HS:=Hm H;clear H
  go_wp2_with fail
  (try simp only [Exit.inBlock,Exit.then])
  refine bodyPost_ret (results_none rfl _ _ _) rfl ?_
  rw [HX.o]
  exact ⟨rfl,FaD.of HS.o he⟩
 subst he;obtain ⟨x0,a4,rfl⟩:=ae.zero;have el:=X8 _ _ _ x0 p1 a4
 have HE:Hid (Xq bs bc.E p=(Jx bs p1).bind λl p1=>(Jl bs bc.E p1).bind λn p2=>(JF bs n.toNat p2).bind λb p3=>.ok ⟨l,b⟩ p3):=by
  show _=_
  unfold Xq segM;rw [GR,a4];rfl
 have c3:=H.c3;have m5:w1.cell? ⟨s,16,none⟩=some (.slice va n vc):=H.cm hm;have ce:=H.hB;have HS:=Hm H;clear H ae a4
 go_wp2_with (at_builtin;refine wpList_append_own_at _ rfl _ _ 31 rfl B 85 i0 (.agg #[.slice none 0 0,.slice none 0 0]) 2 48 Tryz.underlying31 hi c4 c2 cz rfl (by decide) (.slice va n vc) n c0 rfl (World.ownsRow.alloc (show World.ownsRow w1 B 85 2 (.slice va n vc) n c0 from HS.o.row mS) _) ⟨w1.heap.size,0,none⟩ 1 1 [.slice none 0 0,.slice none 0 0] rfl rfl (Jd _ _ _) (by simp [Value.oneCell']) (by unfold maxLen;omega) (by omega) (by simp;omega) ?_;intro v3 w6 u aq c9 I;have hq:=Xr (ix:=11) HS.o hm (by decide) (bF.alloc lR _) aq u I;obtain ⟨g,J,aa,-⟩:=QI u (by omega);subst aa;have H6:=Hm hq.2;have m6:w6.cell? ⟨s,16,none⟩=some (.slice va n vc):=hq.1.cm hm;have f6:=hq.1.fz 16;have ap:c0.length=n*2:=(by have:=u.1;simp at this;omega);clear u aq I hq c9)
 obtain ⟨bd,O⟩:∃ bd:Bd,bd={ bc with rest:=bc.rest.set 11 (.slice (some ⟨g,0,none⟩) (n+1) J) }:=⟨_,rfl⟩;have a9:bd.rest[11]?=some (.slice (some ⟨g,0,none⟩) (n+1) J):=by rw [O];exact List.getElem?_set_self (by omega)
 have a5:bd.sec=11:=by rw [O];exact bv
 have cb:bd.en≠0:=by rw [O];exact hen
 have cd:bd.E=bc.E:=by rw [O]
 have cs:Hid (Sd B w0 s ba bd bs p1 0 0 (4*p) bx (⟨85,2,n+1,.slice (some ⟨g,0,none⟩) (n+1) J,c0++([.slice none 0 0,.slice none 0 0]:List Value)⟩::(os++k0)) (w6.setCell ⟨s,16,none⟩ (.slice (some ⟨g,0,none⟩) (n+1) J))):=by show Sd _ _ _ _ _ _ _ _ _ _ _ _ _;rw [O];exact H6.o
 have cq:=Hm O;have ds:=Hm cd;clear H6 O cd
 refine (tellC 12 _ 0 0 cs.o (λ_=>rfl) (by omega)).mono ?_
 rintro e w7 ⟨rfl,bw⟩;have KL:=Hm (rlA bw (rlD_ok a5) (n:=n) a9 rfl (show (c0++([.slice none 0 0,.slice none 0 0]:List Value))[n*2+0]?=_ from Oh ap) (by omega) (by omega) hA hl);clear bw cs m6 f6 HS m5
 go_wp2_with fail
 refine (KL.o).mono ?_
 rintro e w9 b4;obtain ⟨rfl,d,F,D,ci,m,q9,e3,e4,b7,bt,a7⟩:=rlC b4;rw [show (c0++([.slice none 0 0,.slice none 0 0]:List Value)).set (n*2+0) (.slice F d.length D)=c0++[.slice F d.length D,.slice none 0 0] from Od ap] at a7;have K9:=Hm (sizeC a7 b7 cb hA (by omega));have ck:=Hm bt;clear a7 KL b4 b7 bt
 go_wp2_with fail
 refine (K9.o).mono ?_
 rintro e d8 ⟨d9,t,C,Y,rfl,⟨N,rfl⟩,R,ab,aw⟩;rw [ds.o] at R ab
 have cj:Hid (C≠0->Xq bs bc.E p=.bad C Y):=λhn0=>by
  rw [HE.o]
  have:=R.ne hn0
  cases hL:Jx bs p1 with
  |bad e a=>rw [hL] at this;simp only [Rs.bind] at this⊢;cases this;rfl
  |ok l9 q =>
   rw [hL] at this;have h2:Jl bs bc.E q=.bad C Y:=this
   show ((Jl bs bc.E q).bind _)=_
   rw [h2];rfl
 have ch:Hid (C=0->Y=0/\d.length+p1+1<=t/\0<=N/\N<=4294967295/\LR RIn d ci m/\Xq bs bc.E p=(JF bs N.toNat t).bind λb p3=>.ok ⟨d,b⟩ p3):=λhn0=>by
  subst hn0;obtain ⟨N',af,I⟩:=R.zero;have bg:=ab N' t af
  injection bg with _ bg
  subst bg;rw [HE.o]
  cases hL:Jx bs p1 with
  |bad e a=>rw [hL] at af;cases af
  |ok l9 q =>
   rw [hL] at af;have h2:Jl bs bc.E q=.ok N t:=af;obtain ⟨h3,h4,h5⟩:=ck.o l9 q hL;subst h3;have hx:=Of _ _ _ N t h2;have hb:=GH hA h2
   refine ⟨I,by omega,hb.1,hb.2,h4,?_⟩
   show ((Jl bs bc.E q).bind _)=_
   rw [h2];rfl
 have ct:=Hm ((aw.nilRow (T:=5) (sz:=1)).perm (rs':=⟨5,1,0,.slice none 0 0,[]⟩::⟨85,2,n+1,.slice (some ⟨g,0,none⟩) (n+1) J,c0++[.slice F d.length D,.slice none 0 0]⟩::(⟨170,5,d.length,.slice F d.length D,ci⟩::(m++(os++k0)))) ((List.Perm.swap _ _ _).cons _));clear aw R ab ck K9 HE
 go_wp2_with fail
 go_loopw [5] (λiv wr=>∃ (k:Nat) (j:List Int) (fa:Option Addr) (z q:Nat) (er a:Int),iv=.int .i64 (k:Int)/\(k=0\/(k:Int)<=N)/\j.length=k/\k<=bs.length+1/\((er=0/\a=0/\0<=N/\(k:Int)<=N/\d.length+p1+1<=t/\q=t+k/\j=(bs.drop t).take k/\LR RIn d ci m/\Xq bs bc.E p=(JF bs N.toNat t).bind λb p3=>.ok ⟨d,b⟩ p3)\/(er≠0/\Xq bs bc.E p=.bad er a))/\Sd B w0 s ba bd bs q er a (4*p+1+2*d.length) bx (⟨5,1,j.length,.slice fa j.length z,U j⟩::⟨85,2,n+1,.slice (some ⟨g,0,none⟩) (n+1) J,c0++[.slice F d.length D,.slice fa j.length z]⟩::(⟨170,5,d.length,.slice F d.length D,ci⟩::(m++(os++k0)))) wr) (λi _=>N.toNat-(intOf i).toNat)
 case atStart =>
  refine ⟨0,[],none,0,t,C,Y,rfl,.inl rfl,rfl,by omega,?_,by simpa [U] using ct.o⟩
  by_cases e0:C=0
  . obtain ⟨h1,h2,h3,_,h4,h5⟩:=ch.o e0
    exact .inl ⟨e0,h1,h3,by omega,h2,rfl,by simp,h4,h5⟩
  . exact .inr ⟨e0,cj.o e0⟩
 case round =>
  obtain ⟨k,j,fa,z,q,er,a,rfl,et,ca,ep,hst,hs⟩:=hrel;clear cj ch ct
  rcases hst with ⟨rfl,rfl,df,es,de,b2,b9,ax,hM⟩|⟨b3,hM⟩
  . have cn:=Hm ax;have ei:=hs.le;have c3:=hs.c3;have cp:=Hm ca;have co:=Hm b9;have bn:=Hm hM;clear ax ca b9 hM
    by_cases bb:(k:Int)<N
    . have KD:=Hm (byteC hs (Lk.ok () q) (by omega));have eo:k<=bs.length:=by omega
      clear hs
      go_wp2_with (go_at_call 73;refine (KD.o).mono ?_;rintro e w2 ⟨u2,q2,ag,ar,rfl,⟨y,rfl⟩,ad,bu,bz⟩;have HS:=Hm bz;have dr:=Hm ad;have dn:=Hm bu;clear bz KD ad bu)
      have bf:(c0++([.slice F d.length D,.slice fa j.length z]:List Value))[n*2+1]?=some (.slice fa j.length z):=Oh ap;have ew:j.length<=4294967296:=by have:=cp.o;omega
      refine Ql (λV=>Sd B w0 s ba bd bs q2 ag ar (4*p+1+2*d.length) (bx) (⟨5,1,j.length,.slice fa j.length z,U j⟩::⟨85,2,n+1,.slice (some ⟨g,0,none⟩) (n+1) J,c0++([.slice F d.length D,.slice fa j.length z]:List Value)⟩::(⟨170,5,d.length,.slice F d.length D,ci⟩::(m++(os++k0)))) (V)) HS.o ?_
      intro G ac
      have m5:G.cell? ⟨s,16,none⟩=some (.slice (some ⟨g,0,none⟩) (n+1) J):=ac.cm a9
      have Z:G.cell? ⟨g,n*2+1,none⟩=some (.slice fa j.length z):=by
       have dg:=ac.row (r:=⟨85,2,n+1,.slice (some ⟨g,0,none⟩) (n+1) J,c0++([.slice F d.length D,.slice fa j.length z]:List Value)⟩) (by simp)
       exact (World.ownsRow.cellAt (show G.ownsRow B 85 2 (.slice (some ⟨g,0,none⟩) (n+1) J) (n+1) (c0++([.slice F d.length D,.slice fa j.length z]:List Value)) from dg) (n*2+1) (by omega)).trans bf
      have H5:=Hm ac;have ce:=ac.hB;have a8:(n:Int)<(n:Int)+1:=by omega
      clear ac HS
      refine Rp.Ji (N:=68) (vs:=[.pointer (some ⟨s,0,none⟩),.pointer (some ⟨s,0,none⟩),.pointer (some ⟨s,5,none⟩),.pointer (some ⟨s,16,none⟩),.slice (some ⟨g,0,none⟩) (n+1) J,.int .i64 (n:Int),.pointer (some ⟨s,0,none⟩),.pointer (some ⟨s,0,none⟩),.pointer (some ⟨s,5,none⟩),.pointer (some ⟨s,16,none⟩),.slice (some ⟨g,0,none⟩) (n+1) J,.int .i64 (n:Int),.pointer (some ⟨g,n*2,none⟩),.pointer (some ⟨g,n*2+1,none⟩),.slice fa j.length z,.int .u8 y,.slice (some ⟨G.heap.size,0,none⟩) 1 1,undef,.pointer (some ⟨g,n*2,none⟩),.pointer (some ⟨g,n*2+1,none⟩)]) (i1:=16) (i2:=17) (L:=20) (S:=λW=>W.cell? ⟨s,16,none⟩=some (.slice (some ⟨g,0,none⟩) (n+1) J)/\W.cell? ⟨g,n*2+1,none⟩=some (.slice fa j.length z)) (A:=λW v=>(∃ a3 c3,v=.slice a3 (j.length+1) c3)/\(W.cell? ⟨s,16,none⟩=some (.slice (some ⟨g,0,none⟩) (n+1) J)/\W.cell? ⟨g,n*2+1,none⟩=some (.slice fa j.length z))/\W.frozen? ⟨g,n*2+1,none⟩=false/\Sd B w0 s ba bd bs q2 ag ar (4*p+1+2*d.length) (bx) (⟨5,1,j.length+1,v,U j++([.int .u8 y]:List Value)⟩::⟨85,2,n+1,.slice (some ⟨g,0,none⟩) (n+1) J,(c0++([.slice F d.length D,.slice fa j.length z]:List Value)).set (n*2+1) v⟩::(⟨170,5,d.length,.slice F d.length D,ci⟩::(m++(os++k0)))) (W.setCell ⟨g,n*2+1,none⟩ v)) (w2:=({ G with drawn:=G.drawn+1 }:World).alloc (.cells #[.int .u8 y] 5)) (by kernel_rfl) (by kernel_rfl) (by kernel_rfl) rfl ?_ ?_ ?_ ?_
      . exact ⟨m5,Z⟩
      . exact ⟨Qg (w:={ G with drawn:=G.drawn+1 }) m5,Qg (w:={ G with drawn:=G.drawn+1 }) Z⟩
      . intro W v h
        exact h.2.1
      . refine Rp.v0 0 (.pointer (some ⟨s,0,none⟩)) (by kernel_rfl) rfl rfl rfl (λa W _ e=>by go_simp;try rfl) ?_
        refine Rp.v1 0 rfl (by kernel_rfl) rfl rfl rfl rfl (λa W _ e=>by go_simp;try rfl) ?_
        refine Rp.v1 1 rfl (by kernel_rfl) rfl rfl rfl rfl (λa W _ e=>by go_simp;try rfl) ?_
        refine Rp.v1 2 rfl (by kernel_rfl) rfl rfl rfl rfl (λa W _ e=>by go_simp;try rfl) ?_
        refine Rp.v1 3 rfl (by kernel_rfl) rfl rfl rfl rfl (λa W hS e=>by obtain ⟨m5,Z⟩:=hS;go_simp;try rfl) ?_
        refine Rp.v0 1 (.int .i64 (n:Int)) (by kernel_rfl) rfl rfl rfl (λa W _ e=>by go_simp;try rfl) ?_
        refine Rp.v0 0 (.pointer (some ⟨s,0,none⟩)) (by kernel_rfl) rfl rfl rfl (λa W _ e=>by go_simp;try rfl) ?_
        refine Rp.v1 6 rfl (by kernel_rfl) rfl rfl rfl rfl (λa W _ e=>by go_simp;try rfl) ?_
        refine Rp.v1 7 rfl (by kernel_rfl) rfl rfl rfl rfl (λa W _ e=>by go_simp;try rfl) ?_
        refine Rp.v1 8 rfl (by kernel_rfl) rfl rfl rfl rfl (λa W _ e=>by go_simp;try rfl) ?_
        refine Rp.v1 9 rfl (by kernel_rfl) rfl rfl rfl rfl (λa W hS e=>by obtain ⟨m5,Z⟩:=hS;go_simp;try rfl) ?_
        refine Rp.v0 1 (.int .i64 (n:Int)) (by kernel_rfl) rfl rfl rfl (λa W _ e=>by go_simp;try rfl) ?_
        refine Rp.v2 10 11 rfl rfl (by kernel_rfl) rfl rfl rfl rfl rfl (λa W _ e e'=>by go_simp;try rfl) ?_
        refine Rp.v1 12 rfl (by kernel_rfl) rfl rfl rfl rfl (λa W _ e=>by go_simp;try rfl) ?_
        refine Rp.v1 13 rfl (by kernel_rfl) rfl rfl rfl rfl (λa W hS e=>by obtain ⟨m5,Z⟩:=hS;go_simp;try rfl) ?_
        refine Rp.v0 6 (.int .u8 y) (by kernel_rfl) rfl rfl rfl (λa W _ e=>by go_simp;try rfl) ?_
        refine Rp.l1 15 rfl (by kernel_rfl) rfl rfl rfl rfl (λa e=>by go_simp;try rfl) ?_
        refine Rp.QX.a (by rfl) (λa Kc f hK=>?_) ?_
        . have dm:=Rp.Jb f 3 14 62 _ (by kernel_rfl) rfl rfl;have dl:=Rp.Jb f 3 16 64 _ (by kernel_rfl) rfl rfl
          refine Qv rfl (.tmp 62) (.tmp 64) 22 rfl B 5 j0 (.int .u8 0) 1 1 Tryz.underlying22 hj c8 c7 c6 rfl (by decide) (.slice fa j.length z) (j.length) (U j) (by simp [Act.eval,dm]) ?own ⟨G.heap.size,0,none⟩ 1 1 [.int .u8 y] (by simp [Act.eval,dl]) rfl ?lit (by simp [Value.oneCell']) (by unfold maxLen;omega) (by omega) ?hbase ?_
          case own=>exact World.ownsRow.alloc (show World.ownsRow { G with drawn:=G.drawn+1 } B 5 1 (.slice fa j.length z) (j.length) (U j) from H5.o.row mS) _
          case lit=>exact Jd _ _ _
          case hbase=>simp;omega
          intro v3 w6 u aq I
          have hq:=app_sub (X:=[.int .u8 y]) (jj:=n*2+1) (V1:=({ G with drawn:=G.drawn+1 }:World).alloc (.cells #[.int .u8 y] 5)) H5.o ⟨rfl,rfl,rfl,by show G.heap.size<=(G.alloc (.cells #[.int .u8 y] 5)).heap.size;simp,λk hk=>QF G _ k hk⟩ aq u I (by omega) bf
          exact hK v3 w6 ⟨JG u,⟨hq.1.cm a9,hq.2.1⟩,hq.2.2.1,hq.2.2.2⟩
        refine Rp.v2 4 5 rfl rfl (by kernel_rfl) rfl rfl rfl rfl rfl (λa W _ e e'=>by go_simp;try rfl) ?_
        refine Rp.v1 18 rfl (by kernel_rfl) rfl rfl rfl rfl (λa W _ e=>by go_simp;try rfl) ?_
        refine Rp.QX.e (by rfl) (λa W Kc f hK=>?_) Rp.QX.nil
        . have hA:=Rp.XF f 65 (by kernel_rfl);obtain ⟨v3,aa⟩:∃ v3,a.eval (.tmp 65)=v3:=⟨_,rfl⟩;rw [aa] at hA;obtain ⟨⟨a3,c3,rfl⟩,⟨-,s5⟩,dd,a6⟩:=hA;have dj:=(Rp.QW a 67).symm.trans (Rp.XI f 19 67 _ (by kernel_rfl) rfl);have dk:a.tmps[65]?.getD undef=(.slice a3 (j.length+1) c3):=(Rp.QW a 65).symm.trans aa;have ea:=Rp.Xs f rfl aa (by kernel_rfl) rfl
          simp only [Rp.Oe,List.set,Nat.reduceAdd] at ea
          refine Rp.JL (Rp.Qe rfl) (W':=W.setCell ⟨g,n*2+1,none⟩ (.slice a3 (j.length+1) c3)) ?hst (hK undef _ ?hen)
          case hst =>
           clear f hK ea
           go_simp
           try rfl
          case hen =>
           clear f hK dj dk;clear aa;subst ea;clear a8 ce m5 Z;rw [show (c0++([.slice F d.length D,.slice fa j.length z]:List Value)).set (n*2+1) (.slice a3 (j.length+1) c3)=c0++[.slice F d.length D,.slice a3 (j.length+1) c3] from Od ap] at a6;have H8:=Hm a6;clear a6 s5 dd H5 bf
           go_wp2_with fail
           go_roundw
           case rel =>
            refine ⟨k+1,j++[y],a3,c3,q2,ag,ar,by go_num,.inr (by omega),by have:=cp.o;simp;omega,by omega,?_,by have:=H8.o;simpa [U] using this⟩
            have ad:Lk (Qx bs q) q2 ag ar:=dr.o
            by_cases e0:ag=0
            . subst e0;obtain ⟨y',M,I⟩:=ad.zero;have a2:=dn.o y' q2 M
              injection a2 with _ a2
              subst a2;have ej:=XJ M;have dv:=takeM_le M
              have c5:y=bs.getD q 0:=by
               unfold Qx at M
               split at M
               · cases M
               . cases M;rfl
              refine .inl ⟨rfl,I,df,by omega,de,by omega,?_,cn.o,bn.o⟩
              rw [co.o,c5,b2]
              exact take_snoc bs t k (by omega)
            . refine .inr ⟨e0,?_⟩
              have hx:=ad.ne e0;unfold Qx at hx
              split at hx
              · cases hx
                rw [bn.o];unfold JF;rw [if_neg (by omega)];rfl
              . cases hx
           case measure=>simp [intOf];omega
    . have dc:decide ((k:Int)<N)=false:=decide_eq_false bb;have b6:N.toNat=k:=by omega
      have dp:Hid (Xq bs bc.E p=.ok ⟨d,j⟩ q):=by
       show _=_
       rw [bn.o,b6];unfold JF;rw [if_pos (by omega),co.o,b2];rfl
      have H8:=Hm hs;clear hs
      go_wp2_with fail
      go_end0
      rw [dp.o]
      refine ⟨rfl,bc.ea,bc.ec,.slice (some ⟨g,0,none⟩) (n+1) J,c0++[.slice F d.length D,.slice fa j.length z],k0++((⟨170,5,d.length,.slice F d.length D,ci⟩::m)++[bR (.slice fa j.length z) j]),dq.o.snoc ⟨_,_,_,rfl,⟨_,_,cn.o,rfl⟩,rfl⟩,?_⟩
      have h9:=H8.o.perm (rs':=⟨85,2,n+1,.slice (some ⟨g,0,none⟩) (n+1) J,c0++[.slice F d.length D,.slice fa j.length z]⟩::(os++(k0++((⟨170,5,d.length,.slice F d.length D,ci⟩::m)++[bR (.slice fa j.length z) j])))) (perm_ele _ _ _ _ _ _);have cf:=h9.more (K':=4*q-0) (λ_=>by omega);rw [cq.o] at cf;have db:(l++[(⟨d,j⟩:Dat)]).length=n+1:=by have:=HN.o;simp;omega
      rw [db]
      exact cf
  . obtain ⟨zz,cy,bq,c3⟩:=hs.c3n b3;have cl:=Hm hM;have H8:=Hm hs;clear hM hs
    have ay:FaD er a B w0 s ba bc bx wr:=by
     have:=FaD.of H8.o b3
     rw [cq.o] at this
     exact this.rest
    have HF:=Hm ay;clear ay
    by_cases bb:(k:Int)<N
    . go_wp2_with fail
      go_end0
      rw [cl.o]
      exact ⟨rfl,HF.o⟩
    . have dc:decide ((k:Int)<N)=false:=decide_eq_false bb
      go_wp2_with fail
      go_end0
      rw [cl.o]
      exact ⟨rfl,HF.o⟩
end Go.Proofs.YtedcmcdbejjgcaaGreat.Ms
