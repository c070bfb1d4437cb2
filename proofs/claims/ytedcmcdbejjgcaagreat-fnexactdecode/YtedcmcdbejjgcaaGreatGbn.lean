import Derived.Test.YtedcmcdbejjgcaaGreatGaa
import Derived.Test.YtedcmcdbejjgcaaGreatGai
import Derived.Test.YtedcmcdbejjgcaaGreatGbk
set_option linter.all false
set_option maxHeartbeats 400000000
set_option maxRecDepth 100000
namespace Go.Proofs.YtedcmcdbejjgcaaGreat.Ms
open Go.RowKit Go.Sort
theorem info_Li:(Tryz.prog.info? 96).map (λi=>(i.zero,i.size,i.bytes))=some (some (.agg #[.int .i64 0,.int .i64 0,.bool false]),3,24):=by kernel_rfl
theorem ent45:(∀ (i:Int) ⦃B:Nat⦄ ⦃U:World⦄ ⦃s:Nat⦄ ⦃ba:Option Addr⦄ ⦃bc:Bd⦄ ⦃bs:List Int⦄ ⦃p:Nat⦄ ⦃bx:List (Nat × List Value)⦄ ⦃w:World⦄ (l:List Qq) (v0:Value) (c0:List Value) (R X:List Qc) (h:Sd B U s ba bc bs p 0 0 (4*p) bx (⟨96,3,l.length,v0,c0⟩::(X++R)) w) (Y:LR Gz l c0 R) (hm:bc.rest[3]?=some v0) (H:bc.sec=4) (av:l.length<=p) (Z:Qm bs) (hl:bs.length<=4194300),Calls Tryz.prog 148 #[.pointer (some ⟨s,0,none⟩),.int .i64 i] w (EnD 0 (GC bs p) Gz l 3 96 3 B U s ba bc bs bx X))/\(∀ (i:Int) ⦃B:Nat⦄ ⦃U:World⦄ ⦃s:Nat⦄ ⦃ba:Option Addr⦄ ⦃bc:Bd⦄ ⦃bs:List Int⦄ ⦃p:Nat⦄ ⦃bx:List (Nat × List Value)⦄ ⦃w:World⦄ (l:List Qq) (v0:Value) (c0:List Value) (R X:List Qc) (h:Sd B U s ba bc bs p 0 0 (4*p) bx (⟨96,3,l.length,v0,c0⟩::(X++R)) w) (Y:LR Gz l c0 R) (hm:bc.rest[4]?=some v0) (H:bc.sec=5) (av:l.length<=p) (Z:Qm bs) (hl:bs.length<=4194300),Calls Tryz.prog 148 #[.pointer (some ⟨s,0,none⟩),.int .i64 i] w (EnD 0 (XR bs p) Gz l 4 96 3 B U s ba bc bs bx X)):=by
 refine ⟨?c0,?c1⟩
 case' c0=>have b:=0
 case' c1=>have t1:=0
 all_goals
  intro i B U s ba bc bs p bx w l v0 c0 R X h Y hm H av Z hl
  obtain ⟨va,F,rfl⟩:∃ a c,v0=.slice a l.length c:=Qc.Ok.slice (h.row mS);have c19:=h.c19;rw [H] at c19;have bp:=h.le;have bf:=Hm Y;clear Y;obtain ⟨i0,hi,ao,ak,aj⟩:=info_parts info_Li
  first|(replace b:=b;have K1:=Hm (oneC 112 112 (by decide) (by decide) h (Lk.ok () p) Z (by omega)))|(have K2:=Hm (limC h (Lk.ok () p) Z (by omega)))
  clear h
  go_enter Tryz.func148,Tryz.ntmps148
  first
  | (replace b:=b
     go_wp2_with fail)
  |skip
  first
  | (replace b:=b
     refine (K1.o).mono ?_)
  |skip
  first
  | (replace b:=b
     rintro e w1 ⟨u1,p1,bt,bv,rfl,⟨x1,rfl⟩,aw,-,au⟩)
  |skip
  first
  | (replace b:=b
     have K2:=Hm (limC au aw Z (by omega)))
  |skip
  first
  | (replace b:=b
     clear K1 au c19 aw)
  |skip
  go_wp2_with fail
  refine (K2.o).mono ?_
  rintro e w2 ⟨u2,p2,I,J,rfl,⟨m,j,g,rfl⟩,ai,af,ar⟩;have HS:=Hm (ar.box (t:=96) (xs:=[.int .i64 m,.int .i64 j,.bool g]))
  first|(replace b:=b;have M:Hid (Lk (GC bs p) p2 I J):=by show Lk _ _ _ _;rw [tab_eq];exact ai)|(have M:Hid (Lk (XR bs p) p2 I J):=ai)
  first|(replace b:=b;have a4:Hid (∀ x q,GC bs p=.ok x q->(.agg #[.int .i64 m,.int .i64 j,.bool g]:Value)=.agg #[.int .i64 x.min,.int .i64 x.max,.bool x.has]):=by show ∀ x q,_;rw [tab_eq];exact af)|(have a4:Hid (∀ x q,XR bs p=.ok x q->(.agg #[.int .i64 m,.int .i64 j,.bool g]:Value)=.agg #[.int .i64 x.min,.int .i64 x.max,.bool x.has]):=af)
  clear ai af ar K2
  first|(replace b:=b;go_upto_region 19 with fail)|(go_upto_region 23 with fail)
  refine Ql (λV=>Sd B U s ba bc bs p2 I J (4*p) ((w2.heap.size,[.int .i64 m,.int .i64 j,.bool g])::bx) (⟨96,3,l.length,.slice va l.length F,c0⟩::(X++R)) V) HS.o ?_
  intro d n
  first|(replace b:=b;have O:d.cell? ⟨s,8,none⟩=some (.slice va l.length F):=n.cm hm)|(have O:d.cell? ⟨s,9,none⟩=some (.slice va l.length F):=n.cm hm)
  first|(replace b:=b;have D:d.cell? ⟨w2.heap.size,0,none⟩=some (.int .i64 m):=n.b0.2.1 0 _ rfl)|(have y:d.cell? ⟨w2.heap.size,0,none⟩=some (.int .i64 m):=n.b0.2.1 0 _ rfl)
  first|(replace b:=b;have C:d.cell? ⟨w2.heap.size,1,none⟩=some (.int .i64 j):=n.b0.2.1 1 _ rfl)|(have u:d.cell? ⟨w2.heap.size,1,none⟩=some (.int .i64 j):=n.b0.2.1 1 _ rfl)
  first|(replace b:=b;have z:d.cell? ⟨w2.heap.size,2,none⟩=some (.bool g):=n.b0.2.1 2 _ rfl)|(have r:d.cell? ⟨w2.heap.size,2,none⟩=some (.bool g):=n.b0.2.1 2 _ rfl)
  have H5:=Hm n;have bq:=n.hB;clear n HS
  first|(replace b:=b;refine Rp.Ji (N:=176) (vs:=[.pointer (some ⟨s,0,none⟩),.pointer (some ⟨s,0,none⟩),.pointer (some ⟨s,0,none⟩),.pointer (some ⟨s,5,none⟩),.pointer (some ⟨s,8,none⟩),.slice va l.length F,.agg #[.int .i64 m,.int .i64 j,.bool g],.slice (some ⟨d.heap.size,0,none⟩) 1 1,undef,.pointer (some ⟨s,0,none⟩),.pointer (some ⟨s,5,none⟩),.pointer (some ⟨s,8,none⟩)]) (i1:=7) (i2:=8) (L:=12) (S:=λW=>W.cell? ⟨s,8,none⟩=some (.slice va l.length F)/\W.cell? ⟨w2.heap.size,0,none⟩=some (.int .i64 m)/\W.cell? ⟨w2.heap.size,1,none⟩=some (.int .i64 j)/\W.cell? ⟨w2.heap.size,2,none⟩=some (.bool g)) (A:=λW v=>(∃ a3 c3,v=.slice a3 (l.length+1) c3)/\(W.cell? ⟨s,8,none⟩=some (.slice va l.length F)/\W.cell? ⟨w2.heap.size,0,none⟩=some (.int .i64 m)/\W.cell? ⟨w2.heap.size,1,none⟩=some (.int .i64 j)/\W.cell? ⟨w2.heap.size,2,none⟩=some (.bool g))/\W.frozen? ⟨s,8,none⟩=false/\Sd B U s ba { bc with rest:=bc.rest.set 3 v } bs p2 I J (4*p) ((w2.heap.size,[.int .i64 m,.int .i64 j,.bool g])::bx) (⟨96,3,l.length+1,v,c0++([.int .i64 m,.int .i64 j,.bool g]:List Value)⟩::(X++R)) (W.setCell ⟨s,8,none⟩ v)) (w2:=({ d with drawn:=d.drawn+1 }:World).alloc (.cells #[.int .i64 m,.int .i64 j,.bool g] 96)) (by kernel_rfl) (by kernel_rfl) (by kernel_rfl) rfl ?_ ?_ ?_ ?_)|(refine Rp.Ji (N:=176) (vs:=[.pointer (some ⟨s,0,none⟩),.pointer (some ⟨s,0,none⟩),.pointer (some ⟨s,0,none⟩),.pointer (some ⟨s,5,none⟩),.pointer (some ⟨s,9,none⟩),.slice va l.length F,.agg #[.int .i64 m,.int .i64 j,.bool g],.slice (some ⟨d.heap.size,0,none⟩) 1 1,undef,.pointer (some ⟨s,0,none⟩),.pointer (some ⟨s,5,none⟩),.pointer (some ⟨s,9,none⟩)]) (i1:=7) (i2:=8) (L:=12) (S:=λW=>W.cell? ⟨s,9,none⟩=some (.slice va l.length F)/\W.cell? ⟨w2.heap.size,0,none⟩=some (.int .i64 m)/\W.cell? ⟨w2.heap.size,1,none⟩=some (.int .i64 j)/\W.cell? ⟨w2.heap.size,2,none⟩=some (.bool g)) (A:=λW v=>(∃ a3 c3,v=.slice a3 (l.length+1) c3)/\(W.cell? ⟨s,9,none⟩=some (.slice va l.length F)/\W.cell? ⟨w2.heap.size,0,none⟩=some (.int .i64 m)/\W.cell? ⟨w2.heap.size,1,none⟩=some (.int .i64 j)/\W.cell? ⟨w2.heap.size,2,none⟩=some (.bool g))/\W.frozen? ⟨s,9,none⟩=false/\Sd B U s ba { bc with rest:=bc.rest.set 4 v } bs p2 I J (4*p) ((w2.heap.size,[.int .i64 m,.int .i64 j,.bool g])::bx) (⟨96,3,l.length+1,v,c0++([.int .i64 m,.int .i64 j,.bool g]:List Value)⟩::(X++R)) (W.setCell ⟨s,9,none⟩ v)) (w2:=({ d with drawn:=d.drawn+1 }:World).alloc (.cells #[.int .i64 m,.int .i64 j,.bool g] 96)) (by kernel_rfl) (by kernel_rfl) (by kernel_rfl) rfl ?_ ?_ ?_ ?_)
  . first|(replace b:=b;exact ⟨O,D,C,z⟩)|(exact ⟨O,y,u,r⟩)
  . first|(replace b:=b;  exact ⟨Qg (w:={ d with drawn:=d.drawn+1 }) O,Qg (w:={ d with drawn:=d.drawn+1 }) D,Qg (w:={ d with drawn:=d.drawn+1 }) C,Qg (w:={ d with drawn:=d.drawn+1 }) z⟩)|(  exact ⟨Qg (w:={ d with drawn:=d.drawn+1 }) O,Qg (w:={ d with drawn:=d.drawn+1 }) y,Qg (w:={ d with drawn:=d.drawn+1 }) u,Qg (w:={ d with drawn:=d.drawn+1 }) r⟩)
  . intro W v h
    exact h.2.1
  . refine Rp.v0 0 (.pointer (some ⟨s,0,none⟩)) (by kernel_rfl) rfl rfl rfl (λa W _ e=>by go_simp;try rfl) ?_
    refine Rp.v0 0 (.pointer (some ⟨s,0,none⟩)) (by kernel_rfl) rfl rfl rfl (λa W _ e=>by go_simp;try rfl) ?_
    refine Rp.v1 1 rfl (by kernel_rfl) rfl rfl rfl rfl (λa W _ e=>by go_simp;try rfl) ?_
    refine Rp.v1 2 rfl (by kernel_rfl) rfl rfl rfl rfl (λa W _ e=>by go_simp;try rfl) ?_
    refine Rp.v1 3 rfl (by kernel_rfl) rfl rfl rfl rfl (λa W _ e=>by go_simp;try rfl) ?_
    first|(replace b:=b;refine Rp.v1 4 rfl (by kernel_rfl) rfl rfl rfl rfl (λa W hS e=>by obtain ⟨O,D,C,z⟩:=hS;go_simp;try rfl) ?_)|(refine Rp.v1 4 rfl (by kernel_rfl) rfl rfl rfl rfl (λa W hS e=>by obtain ⟨O,y,u,r⟩:=hS;go_simp;try rfl) ?_)
    first|(replace b:=b;refine Rp.v0 6 (.pointer (some ⟨w2.heap.size,0,none⟩)) (by kernel_rfl) rfl rfl rfl (λa W hS e=>by obtain ⟨O,D,C,z⟩:=hS;go_simp;try rfl) ?_)|(refine Rp.v0 7 (.pointer (some ⟨w2.heap.size,0,none⟩)) (by kernel_rfl) rfl rfl rfl (λa W hS e=>by obtain ⟨O,y,u,r⟩:=hS;go_simp;try rfl) ?_)
    refine Rp.l1 6 rfl (by kernel_rfl) rfl rfl rfl rfl (λa e=>by go_simp;try rfl) ?_
    refine Rp.QX.a (by rfl) (λa Kc f hK=>?_) ?_
    . first|(replace b:=b;have bd:=Rp.Jb f 3 5 82 _ (by kernel_rfl) rfl rfl)|(have a2:=Rp.Jb f 3 5 101 _ (by kernel_rfl) rfl rfl)
      first|(replace b:=b;have bb:=Rp.Jb f 3 7 84 _ (by kernel_rfl) rfl rfl)|(have a1:=Rp.Jb f 3 7 103 _ (by kernel_rfl) rfl rfl)
      first|(replace b:=b;refine Qv rfl (.tmp 82) (.tmp 84) 26 rfl B 96 i0 (.agg #[.int .i64 0,.int .i64 0,.bool false]) 3 24 Tryz.underlying26 hi ao ak aj rfl (by decide) (.slice va l.length F) l.length c0 (by simp [Act.eval,bd]) ?own ⟨d.heap.size,0,none⟩ 1 1 [.int .i64 m,.int .i64 j,.bool g] (by simp [Act.eval,bb]) rfl ?lit (by simp [Value.oneCell']) (by unfold maxLen;omega) (by omega) ?hbase ?_)|(refine Qv rfl (.tmp 101) (.tmp 103) 26 rfl B 96 i0 (.agg #[.int .i64 0,.int .i64 0,.bool false]) 3 24 Tryz.underlying26 hi ao ak aj rfl (by decide) (.slice va l.length F) l.length c0 (by simp [Act.eval,a2]) ?own ⟨d.heap.size,0,none⟩ 1 1 [.int .i64 m,.int .i64 j,.bool g] (by simp [Act.eval,a1]) rfl ?lit (by simp [Value.oneCell']) (by unfold maxLen;omega) (by omega) ?hbase ?_)
      case own=>exact World.ownsRow.alloc (show World.ownsRow { d with drawn:=d.drawn+1 } B 96 3 (.slice va l.length F) l.length c0 from H5.o.row mS) _
      case lit=>exact Jd _ _ _
      case hbase=>simp;omega
      intro v3 w6 G ay ax
      first|(replace b:=b;have hq:=Xr (ix:=3) (V1:=({ d with drawn:=d.drawn+1 }:World).alloc (.cells #[.int .i64 m,.int .i64 j,.bool g] 96)) H5.o hm (by decide) ⟨rfl,rfl,rfl,by show d.heap.size<=(d.alloc (.cells #[.int .i64 m,.int .i64 j,.bool g] 96)).heap.size;simp,λk hk=>QF d _ k hk⟩ ay G ax)|(have hq:=Xr (ix:=4) (V1:=({ d with drawn:=d.drawn+1 }:World).alloc (.cells #[.int .i64 m,.int .i64 j,.bool g] 96)) H5.o hm (by decide) ⟨rfl,rfl,rfl,by show d.heap.size<=(d.alloc (.cells #[.int .i64 m,.int .i64 j,.bool g] 96)).heap.size;simp,λk hk=>QF d _ k hk⟩ ay G ax)
      exact hK v3 w6 ⟨JG G,⟨hq.1.cm hm,hq.1.b0.2.1 0 _ rfl,hq.1.b0.2.1 1 _ rfl,hq.1.b0.2.1 2 _ rfl⟩,hq.1.fz _,hq.2⟩
    refine Rp.v1 0 rfl (by kernel_rfl) rfl rfl rfl rfl (λa W _ e=>by go_simp;try rfl) ?_
    refine Rp.v1 9 rfl (by kernel_rfl) rfl rfl rfl rfl (λa W _ e=>by go_simp;try rfl) ?_
    refine Rp.v1 10 rfl (by kernel_rfl) rfl rfl rfl rfl (λa W _ e=>by go_simp;try rfl) ?_
    refine Rp.QX.e (by rfl) (λa W Kc f hK=>?_) Rp.QX.nil
    . first|(replace b:=b;have Z:=Rp.XF f 85 (by kernel_rfl))|(have Z:=Rp.XF f 104 (by kernel_rfl))
      first|(replace b:=b;obtain ⟨v3,E⟩:∃ v3,a.eval (.tmp 85)=v3:=⟨_,rfl⟩)|(obtain ⟨v3,E⟩:∃ v3,a.eval (.tmp 104)=v3:=⟨_,rfl⟩)
      rw [E] at Z;obtain ⟨⟨a3,c3,rfl⟩,⟨s5,-⟩,a7,ap⟩:=Z
      first|(replace b:=b;have a8:=(Rp.QW a 88).symm.trans (Rp.XI f 11 88 _ (by kernel_rfl) rfl))|(have az:=(Rp.QW a 107).symm.trans (Rp.XI f 11 107 _ (by kernel_rfl) rfl))
      first|(replace b:=b;have a9:a.tmps[85]?.getD undef=(.slice a3 (l.length+1) c3):=(Rp.QW a 85).symm.trans E)|(have a0:a.tmps[104]?.getD undef=(.slice a3 (l.length+1) c3):=(Rp.QW a 104).symm.trans E)
      have ea:=Rp.Xs f rfl E (by kernel_rfl) rfl
      simp only [Rp.Oe,List.set,Nat.reduceAdd] at ea
      first|(replace b:=b;refine Rp.JL (Rp.Qe rfl) (W':=W.setCell ⟨s,8,none⟩ (.slice a3 (l.length+1) c3)) ?hst (hK undef _ ?hen))|(refine Rp.JL (Rp.Qe rfl) (W':=W.setCell ⟨s,9,none⟩ (.slice a3 (l.length+1) c3)) ?hst (hK undef _ ?hen))
      case hst =>
       clear f hK ea
       go_simp
       try rfl
      case hen =>
       first|(replace b:=b;clear f hK a8 a9)|(clear f hK az a0)
       clear E;subst ea;have H6:=Hm ap;clear ap s5 a7 H5 O
       go_wp2_with fail
       first|(replace b:=b;refine (tellC 4 i 0 0 H6.o M.o.at0 (by omega)).mono ?_)|(refine (tellC 5 i 0 0 H6.o M.o.at0 (by omega)).mono ?_)
       rintro e w8 ⟨rfl,aq⟩;have H8:=Hm aq;clear aq H6
       go_wp2_with fail
       go_end0
       refine EnD.fin (k:=R) M.o H8.o.unbox ?_ ?_
       . intro x q hx
         have:=a4.o x q hx
         injection this with this
         simp at this
         obtain ⟨rfl,rfl,rfl⟩:=this;have h9:=bf.o.snoc (x:=x) (show Gz x _ [] from ⟨rfl,rfl⟩)
         simpa using h9
       . intro e0
         subst e0;obtain ⟨x,hx,_⟩:=M.o.zero
         first|(replace b:=b;have:=nx_tab _ _ x p2 hx)|(have:=nx_lim _ _ x p2 hx)
         omega
def ent4:=ent45.1
def ent5:=ent45.2
theorem info_Ex:(Tryz.prog.info? 111).map (λi=>(i.zero,i.size,i.bytes))=some (some (.agg #[.string ByteArray.empty,.int .i64 0,.int .i64 0]),3,32):=by kernel_rfl
theorem ent7 (i:Int){B w0 s ba bc bs p bx w}(l:List Exp)(v0:Value)(c0:List Value)(Z os:List Qc)(h:Sd B w0 s ba bc bs p 0 0 (4*p) bx (⟨111,3,l.length,v0,c0⟩::(os++Z)) w)(ad:LR RExp l c0 Z)(hm:bc.rest[6]?=some v0)(aa:bc.sec=7)(hen:bc.en≠0)(b7:l.length<=p)(X:Qm bs)(hl:bs.length<=4194300) :
    Calls Tryz.prog 148 #[.pointer (some ⟨s,0,none⟩),.int .i64 i] w (EnD 0 (expM bs bc.E p) RExp l 6 111 3 B w0 s ba bc bs bx os):=by
 obtain ⟨va,M,rfl⟩:∃ a c,v0=.slice a l.length c:=Qc.Ok.slice (h.row mS);have c19:=h.c19;rw [aa] at c19;have b6:=h.le;have a9:=Hm ad;clear ad;obtain ⟨i0,hi,a2,a1,a0⟩:=info_parts info_Ex;have h1:=h.box (t:=111) (xs:=[.string ByteArray.empty,.int .i64 0,.int .i64 0]);have K1:=Hm (nameC h1 (Lk.ok () p) hen (by omega) X (by omega));clear h h1
 go_enter Tryz.func148,Tryz.ntmps148
 go_wp2_with fail
 refine (K1.o).mono ?_
 rintro e w1 ⟨u1,p1,cc,cf,rfl,⟨u,rfl⟩,af,D,I⟩;have y0:=I.b0.2.1 0 _ rfl;have az:=I.b0.2.2 0;have h2:=I.set0 0 (.string u);have K2:=Hm (oneC 0 3 (by decide) (by decide) h2 af X (by omega));have ao:=Hm D;clear K1 I h2 af D c19
 go_wp2_with fail
 refine (K2.o).mono ?_
 rintro e w2 ⟨u2,p2,cb,ce,rfl,⟨y,rfl⟩,ae,C,H⟩;have z0:=H.b0.2.1 1 _ rfl;have ay:=H.b0.2.2 1;have h3:=H.set0 1 (.int .i64 y);have K3:=Hm (u32C h3 ae X (by omega));have ak:=Hm C;clear K2 H h3 ae C y0 az
 go_wp2_with fail
 refine (K3.o).mono ?_
 rintro e w3 ⟨u3,p3,O,R,rfl,⟨b,rfl⟩,g,z,G⟩;have x0:=G.b0.2.1 2 _ rfl;have br:=G.b0.2.2 2;have HS:=Hm (G.set0 2 (.int .i64 b))
 have HQ:Hid (Lk (expM bs bc.E p) p3 O R/\(∀ x q,expM bs bc.E p=.ok x q->x=⟨u,y,b⟩)):=by
  have D:=ao.o;have C:=ak.o;unfold expM;rw [kd_rng]
  rcases g1:Xa bs bc.E p with ⟨e1,b1⟩|⟨x1,q1⟩
  . simp only [g1,Rs.bind] at g⊢
    exact ⟨g,λx q e=>(by cases e)⟩
  . rcases g2:Qz (JP 0 3) bs q1 with ⟨e2,b2⟩|⟨x2,q2⟩
    . simp only [g1,g2,Rs.bind] at g⊢
      exact ⟨g,λx q e=>(by cases e)⟩
    . rcases g3:QK bs q2 with ⟨e3,b3⟩|⟨x3,q3⟩
      . simp only [g1,g2,g3,Rs.bind] at g⊢
        exact ⟨g,λx q e=>(by cases e)⟩
      . simp only [g1,g2,g3,Rs.bind] at g D C z⊢
        refine ⟨g,λx q e=>?_⟩
        cases e
        have e1:=D x1 q1 rfl;have e2:=C x2 q2 rfl;have e3:=z x3 q3 rfl
        injection e1 with e1
        injection e2 with _ e2
        injection e3 with _ e3
        rw [e1,e2,e3]
 clear ao ak g z G K3 z0 ay
 go_upto_region 35 with fail
 refine Ql (λV=>Sd B w0 s ba bc bs p3 O R (4*p+1) ((w.heap.size,[.string u,.int .i64 y,.int .i64 b])::bx) (⟨111,3,l.length,.slice va l.length M,c0⟩::(os++Z)) V) HS.o ?_
 intro d j
 have Y:d.cell? ⟨s,11,none⟩=some (.slice va l.length M):=j.cm hm;have r:=j.b0.2.1 0 _ rfl;have n:=j.b0.2.1 1 _ rfl;have m:=j.b0.2.1 2 _ rfl;have H5:=Hm j;have b9:=j.hB;clear j HS
 refine Rp.Ji (N:=176) (vs:=[.pointer (some ⟨s,0,none⟩),.pointer (some ⟨s,0,none⟩),.pointer (some ⟨s,0,none⟩),.pointer (some ⟨s,5,none⟩),.pointer (some ⟨s,11,none⟩),.slice va l.length M,.agg #[.string u,.int .i64 y,.int .i64 b],.slice (some ⟨d.heap.size,0,none⟩) 1 1,undef,.pointer (some ⟨s,0,none⟩),.pointer (some ⟨s,5,none⟩),.pointer (some ⟨s,11,none⟩)]) (i1:=7) (i2:=8) (L:=12) (S:=λW=>W.cell? ⟨s,11,none⟩=some (.slice va l.length M)/\W.cell? ⟨w.heap.size,0,none⟩=some (.string u)/\W.cell? ⟨w.heap.size,1,none⟩=some (.int .i64 y)/\W.cell? ⟨w.heap.size,2,none⟩=some (.int .i64 b)) (A:=λW v=>(∃ a3 c3,v=.slice a3 (l.length+1) c3)/\(W.cell? ⟨s,11,none⟩=some (.slice va l.length M)/\W.cell? ⟨w.heap.size,0,none⟩=some (.string u)/\W.cell? ⟨w.heap.size,1,none⟩=some (.int .i64 y)/\W.cell? ⟨w.heap.size,2,none⟩=some (.int .i64 b))/\W.frozen? ⟨s,11,none⟩=false/\Sd B w0 s ba { bc with rest:=bc.rest.set 6 v } bs p3 O R (4*p+1) ((w.heap.size,[.string u,.int .i64 y,.int .i64 b])::bx) (⟨111,3,l.length+1,v,c0++([.string u,.int .i64 y,.int .i64 b]:List Value)⟩::(os++Z)) (W.setCell ⟨s,11,none⟩ v)) (w2:=({ d with drawn:=d.drawn+1 }:World).alloc (.cells #[.string u,.int .i64 y,.int .i64 b] 111)) (by kernel_rfl) (by kernel_rfl) (by kernel_rfl) rfl ?_ ?_ ?_ ?_
 . exact ⟨Y,r,n,m⟩
 .   exact ⟨Qg (w:={ d with drawn:=d.drawn+1 }) Y,Qg (w:={ d with drawn:=d.drawn+1 }) r,Qg (w:={ d with drawn:=d.drawn+1 }) n,Qg (w:={ d with drawn:=d.drawn+1 }) m⟩
 . intro W v h
   exact h.2.1
 . refine Rp.v0 0 (.pointer (some ⟨s,0,none⟩)) (by kernel_rfl) rfl rfl rfl (λa W _ e=>by go_simp;try rfl) ?_
   refine Rp.v0 0 (.pointer (some ⟨s,0,none⟩)) (by kernel_rfl) rfl rfl rfl (λa W _ e=>by go_simp;try rfl) ?_
   refine Rp.v1 1 rfl (by kernel_rfl) rfl rfl rfl rfl (λa W _ e=>by go_simp;try rfl) ?_
   refine Rp.v1 2 rfl (by kernel_rfl) rfl rfl rfl rfl (λa W _ e=>by go_simp;try rfl) ?_
   refine Rp.v1 3 rfl (by kernel_rfl) rfl rfl rfl rfl (λa W _ e=>by go_simp;try rfl) ?_
   refine Rp.v1 4 rfl (by kernel_rfl) rfl rfl rfl rfl (λa W hS e=>by obtain ⟨Y,r,n,m⟩:=hS;go_simp;try rfl) ?_
   refine Rp.v0 9 (.pointer (some ⟨w.heap.size,0,none⟩)) (by kernel_rfl) rfl rfl rfl (λa W hS e=>by obtain ⟨Y,r,n,m⟩:=hS;go_simp;try rfl) ?_
   refine Rp.l1 6 rfl (by kernel_rfl) rfl rfl rfl rfl (λa e=>by go_simp;try rfl) ?_
   refine Rp.QX.a (by rfl) (λa Kc f hK=>?_) ?_
   . have aj:=Rp.Jb f 3 5 151 _ (by kernel_rfl) rfl rfl;have ai:=Rp.Jb f 3 7 153 _ (by kernel_rfl) rfl rfl
     refine Qv rfl (.tmp 151) (.tmp 153) 28 rfl B 111 i0 (.agg #[.string ByteArray.empty,.int .i64 0,.int .i64 0]) 3 32 Tryz.underlying28 hi a2 a1 a0 rfl (by decide) (.slice va l.length M) l.length c0 (by simp [Act.eval,aj]) ?own ⟨d.heap.size,0,none⟩ 1 1 [.string u,.int .i64 y,.int .i64 b] (by simp [Act.eval,ai]) rfl ?lit (by simp [Value.oneCell']) (by unfold maxLen;omega) (by omega) ?hbase ?_
     case own=>exact World.ownsRow.alloc (show World.ownsRow { d with drawn:=d.drawn+1 } B 111 3 (.slice va l.length M) l.length c0 from H5.o.row mS) _
     case lit=>exact Jd _ _ _
     case hbase=>simp;omega
     intro v3 w6 J a8 a7
     have U:=Xr (ix:=6) (V1:=({ d with drawn:=d.drawn+1 }:World).alloc (.cells #[.string u,.int .i64 y,.int .i64 b] 111)) H5.o hm (by decide) ⟨rfl,rfl,rfl,by show d.heap.size<=(d.alloc (.cells #[.string u,.int .i64 y,.int .i64 b] 111)).heap.size;simp,λk hk=>QF d _ k hk⟩ a8 J a7
     exact hK v3 w6 ⟨JG J,⟨U.1.cm hm,U.1.b0.2.1 0 _ rfl,U.1.b0.2.1 1 _ rfl,U.1.b0.2.1 2 _ rfl⟩,U.1.fz _,U.2⟩
   refine Rp.v1 0 rfl (by kernel_rfl) rfl rfl rfl rfl (λa W _ e=>by go_simp;try rfl) ?_
   refine Rp.v1 9 rfl (by kernel_rfl) rfl rfl rfl rfl (λa W _ e=>by go_simp;try rfl) ?_
   refine Rp.v1 10 rfl (by kernel_rfl) rfl rfl rfl rfl (λa W _ e=>by go_simp;try rfl) ?_
   refine Rp.QX.e (by rfl) (λa W Kc f hK=>?_) Rp.QX.nil
   . have X:=Rp.XF f 154 (by kernel_rfl);obtain ⟨v3,F⟩:∃ v3,a.eval (.tmp 154)=v3:=⟨_,rfl⟩;rw [F] at X;obtain ⟨⟨a3,c3,rfl⟩,⟨s5,-⟩,a6,ab⟩:=X;have ag:=(Rp.QW a 157).symm.trans (Rp.XI f 11 157 _ (by kernel_rfl) rfl);have ah:a.tmps[154]?.getD undef=(.slice a3 (l.length+1) c3):=(Rp.QW a 154).symm.trans F;have ea:=Rp.Xs f rfl F (by kernel_rfl) rfl
     simp only [Rp.Oe,List.set,Nat.reduceAdd] at ea
     refine Rp.JL (Rp.Qe rfl) (W':=W.setCell ⟨s,11,none⟩ (.slice a3 (l.length+1) c3)) ?hst (hK undef _ ?hen)
     case hst =>
      clear f hK ea
      go_simp
      try rfl
     case hen =>
      clear f hK ag ah;clear F;subst ea;have H6:=Hm ab;clear ab s5 a6 H5 Y
      go_wp2_with fail
      refine (tellC 7 i 0 0 H6.o HQ.o.1.at0 (by omega)).mono ?_
      rintro e w8 ⟨rfl,ac⟩;have H8:=Hm ac;clear ac H6
      go_wp2_with fail
      go_end0
      refine EnD.fin (k:=Z) HQ.o.1 H8.o.unbox ?_ ?_
      . intro x q hx
        have:=HQ.o.2 x q hx
        subst this;have h9:=a9.o.snoc (show RExp ⟨u,y,b⟩ _ [] from ⟨rfl,rfl⟩)
        simpa using h9
      . intro e0
        subst e0;obtain ⟨x,hx,_⟩:=HQ.o.1.zero
        have:=nx_exp _ _ _ x p3 hx
        omega
end Go.Proofs.YtedcmcdbejjgcaaGreat.Ms
