import Derived.Test.YtedcmcdbejjgcaaGreatGaa
import Derived.Test.YtedcmcdbejjgcaaGreatGai
import Derived.Test.YtedcmcdbejjgcaaGreatGbp
import Derived.Test.YtedcmcdbejjgcaaGreatGbr
import Derived.Test.YtedcmcdbejjgcaaGreatGbq
import Derived.Test.YtedcmcdbejjgcaaGreatGbk
import Derived.Test.YtedcmcdbejjgcaaGreatGbl
import Derived.Test.YtedcmcdbejjgcaaGreatGbm
import Derived.Test.YtedcmcdbejjgcaaGreatGbn
import Derived.Test.YtedcmcdbejjgcaaGreatGax
import Derived.Deep.CutBlock
set_option linter.all false
set_option maxHeartbeats 400000000
set_option maxRecDepth 100000
namespace Go.Proofs.YtedcmcdbejjgcaaGreat.Ms
open Go.RowKit Go.Sort
theorem info_Gl:(Tryz.prog.info? 107).map (λi=>(i.zero,i.size,i.bytes))=some (some (.agg #[.int .i64 0,.bool false,.slice none 0 0]),3,40):=by kernel_rfl
theorem ent6 {B w0 s ba bc bs p bx w}(l:List Jv)(v0:Value)(c0:List Value)(R X:List Qc)(h:Sd B w0 s ba bc bs p 0 0 (4*p) bx (⟨107,3,l.length,v0,c0⟩::(X++R)) w)(az:LR X5 l c0 R)(hm:bc.rest[5]?=some v0)(ah:bc.sec=6)(cp:l.length<=p)(hA:Qm bs)(hl:bs.length<=4194300) :
    Calls Tryz.prog 148 #[.pointer (some ⟨s,0,none⟩),.int .i64 (l.length:Int)] w (EnD 0 (XH bs p) X5 l 5 107 3 B w0 s ba bc bs bx X):=by
 obtain ⟨va,vc,rfl⟩:∃ a c,v0=.slice a l.length c:=Qc.Ok.slice (h.row mS);have c19:=h.c19;rw [ah] at c19;have cn:=h.le;have b9:=Hm az;clear az;obtain ⟨i0,hi,bu,bt,br⟩:=info_parts info_Gl;have ck:bc.rest.length=13:=by obtain ⟨_,_,_,hr,_⟩:=h.ex;exact hr.rl
 have K2:=Hm (gtyC h (Lk.ok () p) hA (by omega));clear h
 go_enter Tryz.func148,Tryz.ntmps148
 go_wp2_with fail
 refine (K2.o).mono ?_
 rintro e w2 ⟨u2,J,I,ad,rfl,⟨z,C,rfl⟩,a1,ar,aw⟩;have HS:=Hm (aw.box (t:=98) (xs:=[.int .i64 z,.bool C]));have ae:Hid (Lk (gtyM bs p) J I ad):=a1;have ao:Hid (∀ x q,gtyM bs p=.ok x q->(.agg #[.int .i64 z,.bool C]:Value)=.agg #[.int .i64 x.ty,.bool x.mu]):=ar;clear a1 ar aw K2
 go_upto_region 27 with fail
 refine Ql (λV=>Sd B w0 s ba bc bs J I ad (4*p) ((w2.heap.size,[.int .i64 z,.bool C])::bx) (⟨107,3,l.length,.slice va l.length vc,c0⟩::(X++R)) V) HS.o ?_
 intro m E
 have m5:m.cell? ⟨s,10,none⟩=some (.slice va l.length vc):=E.cm hm;have y:=E.b0.2.1 0 _ rfl;have u:=E.b0.2.1 1 _ rfl;have H5:=Hm E;have cr:=E.hB;clear E HS
 refine Rp.Ji (N:=176) (vs:=[.pointer (some ⟨s,0,none⟩),.pointer (some ⟨s,0,none⟩),.pointer (some ⟨s,0,none⟩),.pointer (some ⟨s,5,none⟩),.pointer (some ⟨s,10,none⟩),.slice va l.length vc,.agg #[.int .i64 z,.bool C],.agg #[.int .i64 z,.bool C,.slice none 0 0],.slice (some ⟨m.heap.size,0,none⟩) 1 1,undef,.pointer (some ⟨s,0,none⟩),.pointer (some ⟨s,5,none⟩),.pointer (some ⟨s,10,none⟩)]) (i1:=8) (i2:=9) (L:=13) (S:=λW=>W.cell? ⟨s,10,none⟩=some (.slice va l.length vc)/\W.cell? ⟨w2.heap.size,0,none⟩=some (.int .i64 z)/\W.cell? ⟨w2.heap.size,1,none⟩=some (.bool C)) (A:=λW v=>(∃ a3 c3,v=.slice a3 (l.length+1) c3)/\(W.cell? ⟨s,10,none⟩=some (.slice va l.length vc)/\W.cell? ⟨w2.heap.size,0,none⟩=some (.int .i64 z)/\W.cell? ⟨w2.heap.size,1,none⟩=some (.bool C))/\W.frozen? ⟨s,10,none⟩=false/\Sd B w0 s ba { bc with rest:=bc.rest.set 5 v } bs J I ad (4*p) ((w2.heap.size,[.int .i64 z,.bool C])::bx) (⟨107,3,l.length+1,v,c0++([.int .i64 z,.bool C,.slice none 0 0]:List Value)⟩::(X++R)) (W.setCell ⟨s,10,none⟩ v)) (w2:=({ m with drawn:=m.drawn+1 }:World).alloc (.cells #[.int .i64 z,.bool C,.slice none 0 0] 107)) (by kernel_rfl) (by kernel_rfl) (by kernel_rfl) rfl ?_ ?_ ?_ ?_
 . exact ⟨m5,y,u⟩
 .   exact ⟨Qg (w:={ m with drawn:=m.drawn+1 }) m5,Qg (w:={ m with drawn:=m.drawn+1 }) y,Qg (w:={ m with drawn:=m.drawn+1 }) u⟩
 . intro W v h
   exact h.2.1
 . refine Rp.v0 0 (.pointer (some ⟨s,0,none⟩)) (by kernel_rfl) rfl rfl rfl (λa W _ e=>by go_simp;try rfl) ?_
   refine Rp.v0 0 (.pointer (some ⟨s,0,none⟩)) (by kernel_rfl) rfl rfl rfl (λa W _ e=>by go_simp;try rfl) ?_
   refine Rp.v1 1 rfl (by kernel_rfl) rfl rfl rfl rfl (λa W _ e=>by go_simp;try rfl) ?_
   refine Rp.v1 2 rfl (by kernel_rfl) rfl rfl rfl rfl (λa W _ e=>by go_simp;try rfl) ?_
   refine Rp.v1 3 rfl (by kernel_rfl) rfl rfl rfl rfl (λa W _ e=>by go_simp;try rfl) ?_
   refine Rp.v1 4 rfl (by kernel_rfl) rfl rfl rfl rfl (λa W hS e=>by obtain ⟨m5,y,u⟩:=hS;go_simp;try rfl) ?_
   refine Rp.v0 8 (.pointer (some ⟨w2.heap.size,0,none⟩)) (by kernel_rfl) rfl rfl rfl (λa W hS e=>by obtain ⟨m5,y,u⟩:=hS;go_simp;try rfl) ?_
   refine Rp.v1 6 rfl (by kernel_rfl) rfl rfl rfl rfl (λa W _ e=>by go_simp;try rfl) ?_
   refine Rp.l1 7 rfl (by kernel_rfl) rfl rfl rfl rfl (λa e=>by go_simp;try rfl) ?_
   refine Rp.QX.a (by rfl) (λa Kc f hK=>?_) ?_
   . have bf:=Rp.Jb f 3 5 120 _ (by kernel_rfl) rfl rfl;have bb:=Rp.Jb f 3 8 123 _ (by kernel_rfl) rfl rfl
     refine Qv rfl (.tmp 120) (.tmp 123) 27 rfl B 107 i0 (.agg #[.int .i64 0,.bool false,.slice none 0 0]) 3 40 Tryz.underlying27 hi bu bt br rfl (by decide) (.slice va l.length vc) l.length c0 (by simp [Act.eval,bf]) ?own ⟨m.heap.size,0,none⟩ 1 1 [.int .i64 z,.bool C,.slice none 0 0] (by simp [Act.eval,bb]) rfl ?lit (by simp [Value.oneCell']) (by unfold maxLen;omega) (by omega) ?hbase ?_
     case own=>exact World.ownsRow.alloc (show World.ownsRow { m with drawn:=m.drawn+1 } B 107 3 (.slice va l.length vc) l.length c0 from H5.o.row mS) _
     case lit=>exact Jd _ _ _
     case hbase=>simp;omega
     intro v3 w6 af b5 b3
     have hq:=Xr (ix:=5) (V1:=({ m with drawn:=m.drawn+1 }:World).alloc (.cells #[.int .i64 z,.bool C,.slice none 0 0] 107)) H5.o hm (by decide) ⟨rfl,rfl,rfl,by show m.heap.size<=(m.alloc (.cells #[.int .i64 z,.bool C,.slice none 0 0] 107)).heap.size;simp,λk hk=>QF m _ k hk⟩ b5 af b3
     exact hK v3 w6 ⟨JG af,⟨hq.1.cm hm,hq.1.b0.2.1 0 _ rfl,hq.1.b0.2.1 1 _ rfl⟩,hq.1.fz _,hq.2⟩
   refine Rp.v1 0 rfl (by kernel_rfl) rfl rfl rfl rfl (λa W _ e=>by go_simp;try rfl) ?_
   refine Rp.v1 10 rfl (by kernel_rfl) rfl rfl rfl rfl (λa W _ e=>by go_simp;try rfl) ?_
   refine Rp.v1 11 rfl (by kernel_rfl) rfl rfl rfl rfl (λa W _ e=>by go_simp;try rfl) ?_
   refine Rp.QX.e (by rfl) (λa W Kc f hK=>?_) Rp.QX.nil
   . have hA:=Rp.XF f 124 (by kernel_rfl);obtain ⟨v3,r⟩:∃ v3,a.eval (.tmp 124)=v3:=⟨_,rfl⟩;rw [r] at hA;obtain ⟨⟨a3,c3,rfl⟩,⟨s5,-⟩,b2,ab⟩:=hA;have a8:=(Rp.QW a 127).symm.trans (Rp.XI f 12 127 _ (by kernel_rfl) rfl);have a9:a.tmps[124]?.getD undef=(.slice a3 (l.length+1) c3):=(Rp.QW a 124).symm.trans r;have ea:=Rp.Xs f rfl r (by kernel_rfl) rfl
     simp only [Rp.Oe,List.set,Nat.reduceAdd] at ea
     refine Rp.JL (Rp.Qe rfl) (W':=W.setCell ⟨s,10,none⟩ (.slice a3 (l.length+1) c3)) ?hst (hK undef _ ?hen)
     case hst =>
      clear f hK ea
      go_simp
      try rfl
     case hen =>
      clear f hK a8 a9;clear r;subst ea;have F:=ab.row mS;obtain ⟨g,gc,r,-⟩:=QI (show World.ownsRow _ B 107 3 (.slice a3 (l.length+1) c3) (l.length+1) (c0++([.int .i64 z,.bool C,.slice none 0 0]:List Value)) from F) (by omega)
      injection r with r _ hv4
      subst r hv4;have a0:c0.length=l.length*3:=by have:=F.1;simp at this;omega
      obtain ⟨bd,G⟩:∃ bd:Bd,bd={ bc with rest:=bc.rest.set 5 (.slice (some ⟨g,0,none⟩) (l.length+1) c3) }:=⟨_,rfl⟩;have bv:bd.rest[5]?=some (.slice (some ⟨g,0,none⟩) (l.length+1) c3):=by rw [G];exact List.getElem?_set_self (by omega)
      have au:bd.sec=6:=by rw [G];exact ah
      rw [<- G] at ab;have aa:=ab.unbox;have bm:=Hm G;clear ab F s5 b2 H5 m5 G
      by_cases he:I=0
      . subst he;obtain ⟨D,Z,a4⟩:=ae.o.zero;subst a4;have co:=nx_gty _ _ D J Z;have Y:=ao.o D J Z
        injection Y with Y
        simp at Y
        obtain ⟨rfl,rfl⟩:=Y;have KL:=Hm (rlA aa (rlG_ok au) (n:=l.length) bv rfl (show (c0++([.int .i64 D.ty,.bool D.mu,.slice none 0 0]:List Value))[l.length*3+2]?=_ from Oh a0) (by omega) (by omega) hA hl);have HE:Hid (XH bs p=(Jx bs J).bind λl J=>.ok ⟨D,l⟩ J):=by show _=_;unfold XH;rw [Z];rfl
        clear aa Z ae ao
        go_wp2_with fail
        refine (KL.o).mono ?_
        rintro e w9 ay;obtain ⟨rfl,b,O,M,ci,j,q9,H,bh,ac,aj,d⟩:=rlC ay;rw [show (c0++([.int .i64 D.ty,.bool D.mu,.slice none 0 0]:List Value)).set (l.length*3+2) (.slice O b.length M)=c0++[.int .i64 D.ty,.bool D.mu,.slice O b.length M] from Od a0] at d
        have ak:H=0->b.length+J<=q9:=λe=>by
         subst e;obtain ⟨l9,bz,_⟩:=ac.zero;obtain ⟨U,_,h3⟩:=aj l9 q9 bz;rw [U];exact h3
        have a5:b.length<=4194300\/H≠0:=by
         by_cases e:H=0
         . exact .inl (by have:=ak e;have:=d.le;omega)
         . exact .inr e
        have KT:Hid (Calls Tryz.prog 147 #[.pointer (some ⟨s,0,none⟩),.int .i64 6,.int .i64 (l.length:Int),.int .i64 0,.int .i64 0] w9 λe w'=>e=.returned (.tuple #[])/\Sd B w0 s ba bd bs q9 H bh (4*p+2*b.length+1) bx (⟨170,5,b.length,.slice O b.length M,ci⟩::⟨107,3,l.length+1,.slice (some ⟨g,0,none⟩) (l.length+1) c3,c0++[.int .i64 D.ty,.bool D.mu,.slice O b.length M]⟩::(j++(X++R))) w'):=by
         rcases a5 with U|U
         . exact tellC 6 _ 0 0 d ac.at0 (by omega)
         . refine (Xm 6 _ 0 0 d U).mono ?_
           rintro e w' ⟨h2,rfl⟩
           exact ⟨h2,d.err U _⟩
        have ca:=Hm ac;have b7:=Hm aj;have b8:=Hm ak;clear d KL ay ac aj a5 ak
        go_wp2_with fail
        refine (KT.o).mono ?_
        rintro e w8 ⟨rfl,av⟩;have H8:=Hm av;clear av KT
        go_wp2_with fail
        go_end0
        rw [HE.o]
        have h9:=H8.o.perm (rs':=⟨107,3,l.length+1,.slice (some ⟨g,0,none⟩) (l.length+1) c3,c0++[.int .i64 D.ty,.bool D.mu,.slice O b.length M]⟩::(X++(R++(⟨170,5,b.length,.slice O b.length M,ci⟩::j)))) (by
         refine (List.Perm.swap _ _ _).trans (List.Perm.cons _ ?_)
         have U:(⟨170,5,b.length,.slice O b.length M,ci⟩::(j++(X++R))).Perm ((X++R)++(⟨170,5,b.length,.slice O b.length M,ci⟩::j)):=List.perm_append_comm (l₁:=⟨170,5,b.length,.slice O b.length M,ci⟩::j) (l₂:=X++R);rw [List.append_assoc] at U
         exact U)
        rw [bm.o] at h9
        refine EnD.fin (k:=R++(⟨170,5,b.length,.slice O b.length M,ci⟩::j)) (p:=q9) (er:=H) (at_:=bh) ?_ h9 ?_ ?_
        . exact ca.o.tu (λe a hx=>by rw [hx];rfl) (λv q hx=>by rw [hx];exact ⟨_,rfl⟩)
        . intro x q hx
          cases hL:Jx bs J with
          |bad e a=>rw [hL] at hx;cases hx
          |ok l9 q' =>
           rw [hL] at hx
           cases hx
           obtain ⟨U,h2,_⟩:=b7.o l9 _ hL;subst U
           exact b9.o.snoc ⟨_,rfl,⟨_,_,h2,rfl⟩⟩
        . intro e0
          have:=b8.o e0
          omega
      . have b6:=Hm (ae.o.ne he);have KL:=Hm (rlN (l.length:Int) aa he);clear aa ae ao
        go_wp2_with fail
        refine (KL.o).mono ?_
        rintro e w9 ⟨rfl,d⟩;have KT:=Hm (Xm 6 (l.length:Int) 0 0 d he);have H9:=Hm d;clear d KL
        go_wp2_with fail
        refine (KT.o).mono ?_
        rintro e w8 ⟨rfl,rfl⟩
        go_wp2_with fail
        go_end0
        refine ⟨rfl,?_⟩
        rw [show XH bs p=.bad I ad by unfold XH;rw [b6.o];rfl];have h9:=FaD.of H9.o he;rw [bm.o] at h9
        exact h9.rest
theorem ent9 {B w0 s ba bc bs p bx w}(l:List Ele)(v0:Value)(c0:List Value)(f d:List Qc)(h:Sd B w0 s ba bc bs p 0 0 (4*p) bx (⟨79,2,l.length,v0,c0⟩::(d++f)) w)(c:LR REle l c0 f)(k:bc.rest[9]?=some v0)(a:bc.sec=9)(g:l.length<=p)(m:Qm bs)(hl:bs.length<=4194300) :
    Calls Tryz.prog 148 #[.pointer (some ⟨s,0,none⟩),.int .i64 (l.length:Int)] w (EnD 0 (Xk bs p) REle l 9 79 2 B w0 s ba bc bs bx d):=by
 have c19:=h.c19;rw [a] at c19;have j:=Hm (elem_c l _ c0 f d h c k a g m hl);clear h c
 go_enter Tryz.func148,Tryz.ntmps148
 go_wp2_with fail
 refine (j.o).mono ?_
 rintro e q b;have n:=Hm b;obtain ⟨rfl,-⟩:=b;clear j
 go_wp2_with fail
 go_end0
 exact n.o
theorem ent11 {B w0 s ba bc bs p bx w}(l:List Dat)(v0:Value)(c0:List Value)(f d:List Qc)(h:Sd B w0 s ba bc bs p 0 0 (4*p) bx (⟨85,2,l.length,v0,c0⟩::(d++f)) w)(c:LR RDat l c0 f)(m:bc.rest[11]?=some v0)(a:bc.sec=11)(j:bc.en≠0)(g:l.length<=p)(n:Qm bs)(hl:bs.length<=4194300) :
    Calls Tryz.prog 148 #[.pointer (some ⟨s,0,none⟩),.int .i64 (l.length:Int)] w (EnD 0 (Xq bs bc.E p) RDat l 11 85 2 B w0 s ba bc bs bx d):=by
 have c19:=h.c19;rw [a] at c19;have k:=Hm (data_c l _ c0 f d h c m a j g n hl);clear h c
 go_enter Tryz.func148,Tryz.ntmps148
 go_wp2_with fail
 refine (k.o).mono ?_
 rintro e r b;have q:=Hm b;obtain ⟨rfl,-⟩:=b;clear k
 go_wp2_with fail
 go_end0
 exact q.o
theorem ent10 {B w0 s ba bc bs p bx w}(l:List Cod)(v0:Value)(c0:List Value)(q b:List Qc)(h:Sd B w0 s ba bc bs p 0 0 (4*p) bx (⟨83,2,l.length,v0,c0⟩::(b++q)) w)(d:LR Oq l c0 q)(J:bc.rest[10]?=some v0)(a:bc.sec=10)(D:bc.en≠0)(f:bc.en<=1000)(y:l.length<=p)(O:Qm bc.fs)(hl:bc.fs.length<=4194300)
    (g:List Int) (m:Value) (j:List Q1) (k:Value) (G:List Value) (n:List Qc) (M:⟨2,1,g.length,m,I g⟩ ∈ b) (u:bc.rest[2]?=some m) (A:∀ x ∈ g,0<=x) (C:g.length<=4194300) (L:⟨92,2,j.length,k,G⟩ ∈ b) (z:∀ r ∈ n,r ∈ b) (t:bc.rest[0]?=some k) (F:LR RFT j G n) (v:j.length<=4194300) :
    Calls Tryz.prog 148 #[.pointer (some ⟨s,0,none⟩),.int .i64 (l.length:Int)] w (EnD 0 (Xw bs bc.E p) Oq l 10 83 2 B w0 s ba bc bs bx b):=by
 have c19:=h.c19;rw [a] at c19;have H:=Hm (code_c l _ c0 q b h d J a D f y O hl g m j k G n M u A C L z t F v);clear h d
 go_enter Tryz.func148,Tryz.ntmps148
 go_wp2_with fail
 refine (H.o).mono ?_
 rintro e S c;have R:=Hm c;obtain ⟨rfl,-⟩:=c;clear H
 go_wp2_with fail
 go_end0
 exact R.o
theorem XD {α:Type}{T sz ix j:Nat}{d:α->List Value->List Qc->Prop}{l:List α}{rest:List Value}{L:List (List Qc)}{M:Rs α}(f:List α->Mod){P:Program}{F:FuncId}{args:Array Value}{B w0 s ba bc bs p bx w}(I:JO T sz d l rest[ix]? L[j]?)(D:j<L.length)(h:Sd B w0 s ba bc bs p 0 0 (4*p) bx L.flatten w)(q:bc.rest=rest)
    (H:∀ (v:Value) (c:List Value) (k:List Qc) (g:List α),LR d g c k->MR (f g) (rest.set ix v) (L.set j (⟨T,sz,g.length,v,c⟩::k))) (C:∀ (g:List α) (m:Nat),g.length<=m->p<=m->MB (f g) m) (hl:l.length<=p) (y:M.nx p)
    (G:∀ v c k,rest[ix]?=some v->LR d l c k->Sd B w0 s ba bc bs p 0 0 (4*p) bx (⟨T,sz,l.length,v,c⟩::((L.eraseIdx j).flatten++k)) w->Calls P F args w (EnD 0 M d l ix T sz B w0 s ba bc bs bx (L.eraseIdx j).flatten)) :
    Calls P F args w (EnM (M.bind λx p1=>.ok (f (l++[x])) p1) B w0 s ba bc bs bx):=by
 obtain ⟨v,c,k,z,o,A⟩:=I.at_
 refine (G v c k z o (h.perm A)).mono ?_
 rintro e R ⟨E,b⟩
 refine ⟨E,?_⟩
 cases hM:M with
 |bad er a=>rw [hM] at b;exact b
 |ok x m =>
  rw [hM] at b;obtain ⟨ea,J,r,O,u,n,t⟩:=b
  have:=y x m hM
  rw [q] at t
  exact ⟨ea,J,rest.set ix r,_,H r O u _ n,C _ _ (by simp;omega) (by omega),t.perm (JO.back D)⟩
theorem mem_er {α:Type}{L:List (List α)}{i j:Nat}{r:List α}(h:L[i]?=some r)(a:i≠j):∀ x ∈ r,x ∈ (L.eraseIdx j).flatten:=λx hx =>
 List.mem_flatten.2 ⟨r,List.mem_eraseIdx_iff_getElem?.2 ⟨i,a,h⟩,hx⟩
theorem EnM.of {M:Rs Mod}{B:Nat}{b:World}{s:Nat}{f:Option Addr}{bc:Bd}{bs:List Int}{d:List (Nat × List Value)}{w:World}{ea:Option Addr}{ec:Nat}{rest:List Value}{P:Program}{F:FuncId}{args:Array Value}(h:Calls P F args w (EnM M B b s f { bc with ea:=ea,ec:=ec,rest:=rest } bs d)):Calls P F args w (EnM M B b s f bc bs d):=by
 refine h.mono ?_
 rintro e j ⟨g,c⟩
 refine ⟨g,?_⟩
 cases M with
 |bad er a=>exact c
 |ok m p'=>exact c
theorem ent_c (k:Int)(X:k=1\/k=2\/k=3\/k=4\/k=5\/k=6\/k=7\/k=9\/k=10\/k=11)(i:Int)(m){B w0 s ba bc bs p bx w}(h:MS m B w0 s ba bc bs p bx w)(a:bc.sec=k)(n:bc.en≠0)(u:bc.en<=1000)(M:Qm bc.fs)(hl:bc.fs.length<=4194300)(F:∀ x ∈ m.funcs,0<=x)(Z:k=6->i=m.globs.length)(Y:k=9->i=m.elems.length)(J:k=10->i=m.codes.length)(I:k=11->i=m.datas.length) :
    Calls Tryz.prog 148 #[.pointer (some ⟨s,0,none⟩),.int .i64 i] w (EnM (entM k bs bc.E m p) B w0 s ba bc bs bx):=by
 obtain ⟨ea,ec,rest,L,b,hB,g⟩:=h;have o:bs=bc.fs.take bc.E.toNat:=by obtain ⟨_,_,_,C,_⟩:=g.ex;exact C.win
 have f:Qm bs:=by rw [o];exact Qm.take M _
 have d:bs.length<=4194300:=by rw [o,List.length_take];omega
 have U:=g.le;have V:=b.ll
 refine EnM.of (ea:=ea) (ec:=ec) (rest:=rest) ?_
 rcases X with rfl|rfl|rfl|rfl|rfl|rfl|rfl|rfl|rfl|rfl
 . exact XD (j:=0) (λl=>{ m with types:=l }) b.types (by omega) g rfl (λv c k l' hl'=>b.set_types hl') (λl' p' h1 h2=>⟨h1,(hB.up h2).imps,(hB.up h2).funcs,(hB.up h2).tabs,(hB.up h2).mems,(hB.up h2).globs,(hB.up h2).exps,(hB.up h2).elems,(hB.up h2).codes,(hB.up h2).datas,(hB.up h2).customs⟩) hB.types (nx_ft _ _) (λv c k hv hlr hsd=>ent1 i m.types v c k _ hsd hlr hv a hB.types f d)
 . exact XD (j:=1) (λl=>{ m with imps:=l }) b.imps (by omega) g rfl (λv c k l' hl'=>b.set_imps hl') (λl' p' h1 h2=>⟨(hB.up h2).types,h1,(hB.up h2).funcs,(hB.up h2).tabs,(hB.up h2).mems,(hB.up h2).globs,(hB.up h2).exps,(hB.up h2).elems,(hB.up h2).codes,(hB.up h2).datas,(hB.up h2).customs⟩) hB.imps (Og _ _ _) (λv c k hv hlr hsd=>ent2 i m.imps v c k _ hsd hlr hv a n hB.imps f d)
 . exact XD (j:=2) (λl=>{ m with funcs:=l }) b.funcs (by omega) g rfl (λv c k l' hl'=>b.set_funcs hl') (λl' p' h1 h2=>⟨(hB.up h2).types,(hB.up h2).imps,h1,(hB.up h2).tabs,(hB.up h2).mems,(hB.up h2).globs,(hB.up h2).exps,(hB.up h2).elems,(hB.up h2).codes,(hB.up h2).datas,(hB.up h2).customs⟩) hB.funcs (JC _ _) (λv c k hv hlr hsd=>ent3 i m.funcs v c k _ hsd hlr hv a hB.funcs f d)
 . exact XD (j:=3) (λl=>{ m with tabs:=l }) b.tabs (by omega) g rfl (λv c k l' hl'=>b.set_tabs hl') (λl' p' h1 h2=>⟨(hB.up h2).types,(hB.up h2).imps,(hB.up h2).funcs,h1,(hB.up h2).mems,(hB.up h2).globs,(hB.up h2).exps,(hB.up h2).elems,(hB.up h2).codes,(hB.up h2).datas,(hB.up h2).customs⟩) hB.tabs (nx_tab _ _) (λv c k hv hlr hsd=>ent4 i m.tabs v c k _ hsd hlr hv a hB.tabs f d)
 . exact XD (j:=4) (λl=>{ m with mems:=l }) b.mems (by omega) g rfl (λv c k l' hl'=>b.set_mems hl') (λl' p' h1 h2=>⟨(hB.up h2).types,(hB.up h2).imps,(hB.up h2).funcs,(hB.up h2).tabs,h1,(hB.up h2).globs,(hB.up h2).exps,(hB.up h2).elems,(hB.up h2).codes,(hB.up h2).datas,(hB.up h2).customs⟩) hB.mems (nx_lim _ _) (λv c k hv hlr hsd=>ent5 i m.mems v c k _ hsd hlr hv a hB.mems f d)
 . rw [Z rfl]
   exact XD (j:=5) (λl=>{ m with globs:=l }) b.globs (by omega) g rfl (λv c k l' hl'=>b.set_globs hl') (λl' p' h1 h2=>⟨(hB.up h2).types,(hB.up h2).imps,(hB.up h2).funcs,(hB.up h2).tabs,(hB.up h2).mems,h1,(hB.up h2).exps,(hB.up h2).elems,(hB.up h2).codes,(hB.up h2).datas,(hB.up h2).customs⟩) hB.globs (nx_glob _ _) (λv c k hv hlr hsd=>ent6 m.globs v c k _ hsd hlr hv a hB.globs f d)
 . exact XD (j:=6) (λl=>{ m with exps:=l }) b.exps (by omega) g rfl (λv c k l' hl'=>b.set_exps hl') (λl' p' h1 h2=>⟨(hB.up h2).types,(hB.up h2).imps,(hB.up h2).funcs,(hB.up h2).tabs,(hB.up h2).mems,(hB.up h2).globs,h1,(hB.up h2).elems,(hB.up h2).codes,(hB.up h2).datas,(hB.up h2).customs⟩) hB.exps (nx_exp _ _ _) (λv c k hv hlr hsd=>ent7 i m.exps v c k _ hsd hlr hv a n hB.exps f d)
 . rw [Y rfl]
   exact XD (j:=7) (λl=>{ m with elems:=l }) b.elems (by omega) g rfl (λv c k l' hl'=>b.set_elems hl') (λl' p' h1 h2=>⟨(hB.up h2).types,(hB.up h2).imps,(hB.up h2).funcs,(hB.up h2).tabs,(hB.up h2).mems,(hB.up h2).globs,(hB.up h2).exps,h1,(hB.up h2).codes,(hB.up h2).datas,(hB.up h2).customs⟩) hB.elems (nx_ele _ _) (λv c k hv hlr hsd=>ent9 m.elems v c k _ hsd hlr hv a hB.elems f d)
 . rw [J rfl];obtain ⟨R,cf,kf,A,H,t⟩:=b.funcs;obtain ⟨G,D⟩:=lr_ints t;subst G D;obtain ⟨O,ct,S,z,y,q⟩:=b.types
   exact XD (j:=8) (λl=>{ m with codes:=l }) b.codes (by omega) g rfl (λv c k l' hl'=>b.set_codes hl') (λl' p' h1 h2=>⟨(hB.up h2).types,(hB.up h2).imps,(hB.up h2).funcs,(hB.up h2).tabs,(hB.up h2).mems,(hB.up h2).globs,(hB.up h2).exps,(hB.up h2).elems,h1,(hB.up h2).datas,(hB.up h2).customs⟩) hB.codes (nx_cod _ _ _) (λv c k hv hlr hsd=>ent10 m.codes v c k _ hsd hlr hv a n u hB.codes M hl m.funcs R m.types O ct S (mem_er H (by decide) _ mS) A F (by have:=hB.funcs;omega) (mem_er y (by decide) _ mS) (λr C=>mem_er y (by decide) r (mC C)) z q (by have:=hB.types;omega))
 . rw [I rfl]
   exact XD (j:=9) (λl=>{ m with datas:=l }) b.datas (by omega) g rfl (λv c k l' hl'=>b.set_datas hl') (λl' p' h1 h2=>⟨(hB.up h2).types,(hB.up h2).imps,(hB.up h2).funcs,(hB.up h2).tabs,(hB.up h2).mems,(hB.up h2).globs,(hB.up h2).exps,(hB.up h2).elems,(hB.up h2).codes,h1,(hB.up h2).customs⟩) hB.datas (nx_dat _ _ _) (λv c k hv hlr hsd=>ent11 m.datas v c k _ hsd hlr hv a n hB.datas f d)
theorem cus_m (m){B w0 s ba bc bs p bx w}(h:MS m B w0 s ba bc bs p bx w)(d:bc.en≠0)(g:bc.E<=4611686018427387904)(q:Qm bs)(hl:bs.length<=4194300) :
    Calls Tryz.prog 146 #[.pointer (some ⟨s,0,none⟩)] w (EnM (Jk 0 bc.full m bs bc.E p) B w0 s ba bc bs bx):=by
 obtain ⟨ea,ec,rest,L,f,hB,n⟩:=h;have o:=f.ll
 refine EnM.of (ea:=ea) (ec:=ec) (rest:=rest) ?_
 exact XD (j:=10) (λl=>{ m with customs:=l }) f.customs (by omega) n rfl (λv c k l' hl'=>f.set_customs hl') (λl' p' h1 h2=>⟨(hB.up h2).types,(hB.up h2).imps,(hB.up h2).funcs,(hB.up h2).tabs,(hB.up h2).mems,(hB.up h2).globs,(hB.up h2).exps,(hB.up h2).elems,(hB.up h2).codes,(hB.up h2).datas,h1⟩) hB.customs (Jy (X9 _ _ _) λa p1=>Qs (up_bytes _ _ _) λb p2=>Q6 _ _) (λv c k hv hlr hsd=>cus_sc m.customs v c k _ hsd hlr hv d g hB.customs q hl)
def ScP (M:Rs Mod)(B:Nat)(w0:World)(s:Nat)(ba:Option Addr)(bc:Bd)(bs:List Int)(bx:List (Nat × List Value))(w':World):Prop :=
 match M with
 |.bad er a=>FaD er a B w0 s ba bc bx w'
 |.ok m p'=>MS m B w0 s ba bc bs p' bx w'
def SnP (m:Mod)(B:Nat)(w0:World)(s:Nat)(ba:Option Addr)(bc:Bd)(bs:List Int)(p:Nat)(bx:List (Nat × List Value))(e:Ending)(w':World):Prop :=
 e=.returned (.tuple #[])/\match ((noM bc.last bs p).bind λk p1=>(QU (Jk k bc.full m) bs JH p1).bind λm' p2=>Rs.ok (k,m') p2) with
 |.bad er a=>FaD er a B w0 s ba bc bx w'
 |.ok km p2=>MS km.2 B w0 s ba { bc with sec:=km.1,last:=(if km.1=0 then bc.last else km.1),full:=(if km.1≠0/\Gi km.2 km.1 then km.1 else bc.full) } bs p2 bx w'
theorem SnP.bad {m:Mod}{B w0 s ba}{bc:Bd}{bs:List Int}{p:Nat}{bx}{er a:Int}{w'}(h:((noM bc.last bs p).bind λk p1=>(QU (Jk k bc.full m) bs JH p1).bind λm' p2=>Rs.ok (k,m') p2)=.bad er a)(b:FaD er a B w0 s ba bc bx w'):SnP m B w0 s ba bc bs p bx (.returned (.tuple #[])) w':=by
 refine ⟨rfl,?_⟩
 rw [h];exact b
theorem SnP.ok {m:Mod}{B w0 s ba}{bc:Bd}{bs:List Int}{p:Nat}{bx}{k:Int}{a:Mod}{b:Nat}{w'}(h:((noM bc.last bs p).bind λk p1=>(QU (Jk k bc.full m) bs JH p1).bind λa b=>Rs.ok (k,a) b)=.ok (k,a) b)(c:MS a B w0 s ba { bc with sec:=k,last:=(if k=0 then bc.last else k),full:=(if k≠0/\Gi a k then k else bc.full) } bs b bx w'):SnP m B w0 s ba bc bs p bx (.returned (.tuple #[])) w':=by
 refine ⟨rfl,?_⟩
 rw [h];exact c
theorem MS.sd {m B w0 s ba bc bs p bx w}(h:MS m B w0 s ba bc bs p bx w):w.cell? ⟨s,3,none⟩=some (.int .i64 0)/\p<=bs.length:=by
 obtain ⟨ea,c,rest,L,b,hB,a⟩:=h
 exact ⟨a.c3,a.le⟩
theorem FaD.c3 {er a B w0 s ba bc bx w}(h:FaD er a B w0 s ba bc bx w):∃ z:Int,(z==0)=false/\(z != 0)=true/\w.cell? ⟨s,3,none⟩=some (.int .i64 z):=by
 obtain ⟨j,g,l,f,k,b,d,n,m,c⟩:=h
 exact c.c3n d
theorem endF {er a B w0 s ba bc bx w}(h:FaD er a B w0 s ba bc bx w):Calls Tryz.prog 149 #[.pointer (some ⟨s,0,none⟩)] w λe w'=>e=.returned (.tuple #[])/\w=w':=by
 obtain ⟨j,g,l,f,k,b,d,n,m,c⟩:=h
 exact endE c d
theorem FaD.win {er a B w0 s ba}{bc bd:Bd}{bs:List Int}{q:Nat}{bx w}(h:FaD er a B w0 s ba bd bx w)(n:bd.fs=bc.fs)(o:bd.E=(q:Int))(c:bd.E<=bc.E)(m:bs=bc.fs.take bc.E.toNat):FaD (wE bs q er) (wA bs q er a) B w0 s ba bc bx w:=by
 obtain ⟨g,f,l,d,j,b,u,t,r,p⟩:=h;have k:=win_bad (bc1:=bc) (bc2:=bd) (bs1:=bs) (q:=q) (e:=er) (a:=a) n o c m
 exact ⟨g,f,l,d,j,b,u,t.trans k.1,r.trans k.2,p⟩
theorem sectS (m)(L:List (List Qc)){B w0 s ba bc bs p bx w}(hs:Sd B w0 s ba bc bs p 0 0 (4*p) bx L.flatten w)(hR:MR m bc.rest L)(hB:MB m p)(hen:bc.en=0)(hE:bc.E=JH)(dn:bs=bc.fs)(hA:Qm bc.fs)(ll:bc.fs.length<=1048576)(lk:0<=bc.last)(ke:bc.last<=11)(g9:Em m bc.last) :
    Calls Tryz.prog 75 #[.pointer (some ⟨s,0,none⟩)] w (SnP m B w0 s ba bc bs p bx):=by
 have hl:bc.fs.length<=4194300:=by omega
 have f9:Qm bs:=by rw [dn];exact hA
 have lj:bs.length<=4194300:=by rw [dn];exact hl
 have dr:bs=bc.fs.take bc.E.toNat:=by obtain ⟨_,_,_,hr,_⟩:=hs.ex;exact hr.win
 obtain ⟨j0,hj,i7,i6,i5⟩:=info_parts info_J6;have KB:=Hm (byteD hs (by omega));have c20:=hs.c20;clear hs
 go_enter Tryz.func75,Tryz.ntmps75
 go_wp2_with fail
 refine (KB.o).mono ?_
 rintro e w1 ey;clear KB
 rcases hX:Qx bs p with ⟨er,a⟩|⟨x,M⟩
 . rw [hX] at ey;obtain ⟨u,p',rfl,rfl,U⟩:=ey;have aj:=Xg bs p er a hX;have ct:Hid (((noM bc.last bs p).bind λk M=>(QU (Jk k bc.full m) bs JH M).bind λb d=>Rs.ok (k,b) d)=.bad er a):=by show _=_;unfold noM;rw [hX];rfl
   obtain ⟨zz,aq,O,ch⟩:=U.c3n aj;have KU:=Hm (u32E U aj);have H1:=Hm U;clear U hX c20
   go_wp2_with fail
   refine (KU.o).mono ?_
   rintro e w2 ⟨rfl,rfl⟩
   go_wp2_with fail
   (try simp only [Exit.inBlock,Exit.then])
   refine bodyPost_ret (results_none rfl _ _ _) rfl ?_
   exact SnP.bad ct.o (FaD.of H1.o aj)
 rw [hX] at ey;obtain ⟨rfl,U⟩:=ey;have la:=Xn f9 hX;have lf:p+1<=M:=by have:=XJ hX;omega
 have ef:=U.c20;have c1:=U.c1;have ch:=U.c3;have HX:=Hm hX;clear hX c20
 by_cases d5:11<x
 . have ho:x > 11:=d5;have li:¬ x<=bc.last:=by omega
   have b2:x > 0:=by omega
   have aj:(4:Int)≠0:=by decide
   have ct:Hid (((noM bc.last bs p).bind λk M=>(QU (Jk k bc.full m) bs JH M).bind λb d=>Rs.ok (k,b) d)=.bad 4 (M:Int)):=by show _=_;unfold noM;rw [HX.o];simp only [Rs.bind];rw [if_pos d5]
   have KF:=Hm (Gv 4 (M:Int) U (by decide));clear U
   go_wp2_with fail
   refine (KF.o).mono ?_
   rintro e w2 ⟨rfl,C⟩;have jt:=C.c20;obtain ⟨zz,aq,O,hu⟩:=C.c3n aj;have KU:=Hm (u32E C aj);have H2:=Hm C;clear C KF ef
   go_wp2_with fail
   refine (KU.o).mono ?_
   rintro e w3 ⟨rfl,rfl⟩
   go_wp2_with fail
   (try simp only [Exit.inBlock,Exit.then])
   refine bodyPost_ret (results_none rfl _ _ _) rfl ?_
   exact SnP.bad ct.o (FaD.of H2.o aj)
 have ho:¬ x > 11:=d5
 by_cases h5:0<x/\x<=bc.last
 . have b2:x > 0:=h5.1;have i4:=h5.2;have aj:(5:Int)≠0:=by decide
   have ct:Hid (((noM bc.last bs p).bind λk M=>(QU (Jk k bc.full m) bs JH M).bind λb d=>Rs.ok (k,b) d)=.bad 5 (M:Int)):=by
    show _=_;unfold noM;rw [HX.o];simp only [Rs.bind]
    rw [if_neg d5,if_pos ⟨by omega,i4⟩]
   have KF:=Hm (Gv 5 (M:Int) U (by decide));clear U h5
   go_wp2_with fail
   refine (KF.o).mono ?_
   rintro e w2 ⟨rfl,C⟩;obtain ⟨zz,aq,O,hu⟩:=C.c3n aj;have KU:=Hm (u32E C aj);have H2:=Hm C;clear C KF ef
   go_wp2_with fail
   refine (KU.o).mono ?_
   rintro e w3 ⟨rfl,rfl⟩
   go_wp2_with fail
   (try simp only [Exit.inBlock,Exit.then])
   refine bodyPost_ret (results_none rfl _ _ _) rfl ?_
   exact SnP.bad ct.o (FaD.of H2.o aj)
 have fb:Hid (noM bc.last bs p=.ok x M):=by
  show _=_;unfold noM;rw [HX.o];simp only [Rs.bind]
  rw [if_neg d5,if_neg (λh=>h5 ⟨by omega,h.2⟩)]
 have lh:x=0\/bc.last<x:=by omega
 have KU:=Hm (u32D U f9 (by omega))
 have ka:(decide (x > 0)&&decide (x<=bc.last))=false:=by
  rw [Bool.eq_false_iff];intro h;simp at h;exact h5 ⟨h.1,h.2⟩
 clear U h5;have i8:(x > 0/\¬ x<=bc.last)\/¬ x > 0:=by omega
 have hx:Hid (∀ (e:Ending) (w2:World),SdP (QK bs M) (λv=>.int .i64 v) isI B w0 s ba bc bs (4*p) bx L.flatten e w2->∃ N d er a,e=.returned (.int .i64 N)/\Lk (QK bs M) d er a/\(∀ y q,QK bs M=.ok y q->N=y)/\Sd B w0 s ba bc bs d er a (4*p) bx L.flatten w2):=λe w2 h=>by
  cases hM:QK bs M with
  |bad er a =>
   rw [hM] at h;obtain ⟨u,p',e1,⟨N,rfl⟩,hs⟩:=h
   exact ⟨N,p',er,a,e1,⟨Q9 _ _ _ _ er a hM,rfl,rfl⟩,λy q e=>(by cases e),hs⟩
  |ok y q =>
   rw [hM] at h
   exact ⟨y,q,0,0,h.1,⟨rfl,rfl,rfl⟩,λy' q' e=>(by cases e;rfl),h.2⟩
 have h4:Hid (Calls Tryz.prog 145 #[.pointer (some ⟨s,0,none⟩)] w1 λe w2=>∃ N d er a,e=.returned (.int .i64 N)/\Lk (QK bs M) d er a/\(∀ y q,QK bs M=.ok y q->N=y)/\Sd B w0 s ba bc bs d er a (4*p) bx L.flatten w2):=(KU.o).mono (λe w2 h=>hx.o e w2 h);clear KU hx
 go_upto_region 3 with fail
 go_cut [26] from 17 to 26 (λv wc=>v=.bool false/\wc=w1)
 case first =>
  rcases i8 with ⟨h1,h2⟩|h1
  . have ls:decide (x<=bc.last)=false:=decide_eq_false (by omega)
    go_wp2_with fail
    go_meet
    exact ⟨rfl,rfl⟩
  . have lu:decide (x > 0)=false:=decide_eq_false (by omega)
    go_wp2_with fail
    go_meet
    exact ⟨rfl,rfl⟩
 obtain ⟨rfl,rfl⟩:=hcut
 go_wp2_with fail
 refine (h4.o).mono ?_
 rintro e w2 ⟨N,d,gb,hw,rfl,ez,f0,C⟩;clear h4 ef
 by_cases he:gb=0
 case neg =>
  have ct:Hid (((noM bc.last bs p).bind λk M=>(QU (Jk k bc.full m) bs JH M).bind λb d=>Rs.ok (k,b) d)=.bad gb hw):=by
   show _=_
   rw [fb.o];simp only [Rs.bind];rw [GK (show Jl bs JH M=.bad gb hw by unfold Jl;rw [ez.ne he];rfl)]
  obtain ⟨zz,aq,O,ht⟩:=C.c3n he;have H2:=Hm C;clear C ez f0
  go_wp2_with fail
  (try simp only [Exit.inBlock,Exit.then])
  refine bodyPost_ret (results_none rfl _ _ _) rfl ?_
  exact SnP.bad ct.o (FaD.of H2.o he)
 subst he;obtain ⟨N',d3,hd⟩:=ez.zero;subst hd;have jg:=f0 N' d d3;subst jg;have lq:=Jq f9 d3;have ld:=JC _ _ N d d3;have kc:=C.le
 have gd:Hid (Jl bs JH M=.ok N d):=by
  show _=_
  unfold Jl;rw [d3];simp only [Rs.bind];rw [if_neg (by unfold JH;omega)]
 have ht:=C.c3;have c19:=C.c19;have jl:=C.fz 19;obtain ⟨b1,cb⟩:∃ b1:Bd,b1={ bc with sec:=x }:=⟨_,rfl⟩;have hm:b1.en=0:=by rw [cb];exact hen
 have jj:MR m b1.rest L:=by rw [cb];exact hR
 have ji:b1.sec=x:=by rw [cb]
 have e4:b1.fs=bc.fs:=by rw [cb]
 have HS:Hid (Sd B w0 s ba b1 bs d 0 0 (4*p) bx L.flatten (w2.setCell ⟨s,19,none⟩ (.int .i64 x))):=by show Sd _ _ _ _ _ _ _ _ _ _ _ _ _;rw [cb];exact C.setSec x
 have cv:=Hm cb;have j3:Hid (∀ k,b1.en=k+1->b1.ends[k]?=some b1.E):=by rw [cb];exact C.endAt
 clear C ez f0 d3 cb
 go_upto_region 8 with fail
 refine Ql (λV=>Sd B w0 s ba b1 bs d 0 0 (4*p) (bx) (L.flatten) V) HS.o ?_
 intro V5 ar
 have m5:V5.cell? ⟨s,2,none⟩=some (.slice b1.ea b1.en b1.ec):=by obtain ⟨v,n,cs,hr,_⟩:=ar.ex;exact hr.c2
 have m1:=ar.c1;have jh:=ar.hB;have H5:=Hm ar;have df:IntKind.i64.wrap ((d:Int)+N)=((d:Int)+N):=by rw [IntKind.wrap_i64];omega
 clear ar HS
 refine Rp.Ji (N:=147) (vs:=[.pointer (some ⟨s,0,none⟩),.pointer (some ⟨s,0,none⟩),.pointer (some ⟨s,0,none⟩),.pointer (some ⟨s,2,none⟩),.slice b1.ea b1.en b1.ec,.pointer (some ⟨s,0,none⟩),.pointer (some ⟨s,0,none⟩),.pointer (some ⟨s,1,none⟩),.int .i64 (d:Int),.int .i64 N,.int .i64 ((d:Int)+N),.slice (some ⟨V5.heap.size,0,none⟩) 1 1,undef,.pointer (some ⟨s,0,none⟩),.pointer (some ⟨s,2,none⟩)]) (i1:=11) (i2:=12) (L:=15) (S:=λW=>W.cell? ⟨s,2,none⟩=some (.slice b1.ea b1.en b1.ec)/\W.cell? ⟨s,1,none⟩=some (.int .i64 (d:Int))) (A:=λW v=>∃ a3 c3,v=.slice a3 (b1.en+1) c3/\(W.cell? ⟨s,2,none⟩=some (.slice b1.ea b1.en b1.ec)/\W.cell? ⟨s,1,none⟩=some (.int .i64 (d:Int)))/\W.frozen? ⟨s,2,none⟩=false/\Sd B w0 s ba { b1 with ea:=a3,en:=b1.en+1,ec:=c3,ends:=b1.ends++[((d:Int)+N)],E:=((d:Int)+N) } (b1.fs.take ((d:Int)+N).toNat) d 0 0 (4*p) (bx) (L.flatten) (W.setCell ⟨s,2,none⟩ v)) (w2:=({ V5 with drawn:=V5.drawn+1 }:World).alloc (.cells #[.int .i64 ((d:Int)+N)] 2)) (by kernel_rfl) (by kernel_rfl) (by kernel_rfl) rfl ?_ ?_ ?_ ?_
 . exact ⟨m5,m1⟩
 . exact ⟨Qg (w:={ V5 with drawn:=V5.drawn+1 }) m5,Qg (w:={ V5 with drawn:=V5.drawn+1 }) m1⟩
 . rintro W v ⟨a3,c3,h1,h2,h3⟩
   exact h2
 . refine Rp.v0 0 (.pointer (some ⟨s,0,none⟩)) (by kernel_rfl) rfl rfl rfl (λa W _ e=>by go_simp;try rfl) ?_
   refine Rp.v0 0 (.pointer (some ⟨s,0,none⟩)) (by kernel_rfl) rfl rfl rfl (λa W _ e=>by go_simp;try rfl) ?_
   refine Rp.v1 1 rfl (by kernel_rfl) rfl rfl rfl rfl (λa W _ e=>by go_simp;try rfl) ?_
   refine Rp.v1 2 rfl (by kernel_rfl) rfl rfl rfl rfl (λa W _ e=>by go_simp;try rfl) ?_
   refine Rp.v1 3 rfl (by kernel_rfl) rfl rfl rfl rfl (λa W t e=>by obtain ⟨m5,m1⟩:=t;go_simp;try rfl) ?_
   refine Rp.v0 0 (.pointer (some ⟨s,0,none⟩)) (by kernel_rfl) rfl rfl rfl (λa W _ e=>by go_simp;try rfl) ?_
   refine Rp.v1 5 rfl (by kernel_rfl) rfl rfl rfl rfl (λa W _ e=>by go_simp;try rfl) ?_
   refine Rp.v1 6 rfl (by kernel_rfl) rfl rfl rfl rfl (λa W _ e=>by go_simp;try rfl) ?_
   refine Rp.v1 7 rfl (by kernel_rfl) rfl rfl rfl rfl (λa W t e=>by obtain ⟨m5,m1⟩:=t;go_simp;try rfl) ?_
   refine Rp.v0 3 (.int .i64 N) (by kernel_rfl) rfl rfl rfl (λa W _ e=>by go_simp;try rfl) ?_
   refine Rp.v2 8 9 rfl rfl (by kernel_rfl) rfl rfl rfl rfl rfl (λa W _ e e'=>by go_simp;try rfl) ?_
   refine Rp.l1 10 rfl (by kernel_rfl) rfl rfl rfl rfl (λa e=>by go_simp;try rfl) ?_
   refine Rp.QX.a (by rfl) (λa Kc f hK=>?_) ?_
   . have jr:=Rp.Jb f 3 4 48 _ (by kernel_rfl) rfl rfl;have jq:=Rp.Jb f 3 11 55 _ (by kernel_rfl) rfl rfl
     refine Qv rfl (.tmp 48) (.tmp 55) 25 rfl B 2 j0 (.int .i64 0) 1 8 Tryz.underlying25 hj i7 i6 i5 rfl (by decide) (.slice b1.ea b1.en b1.ec) b1.en (I b1.ends) (by simp [Act.eval,jr]) ?own ⟨V5.heap.size,0,none⟩ 1 1 [.int .i64 ((d:Int)+N)] (by simp [Act.eval,jq]) rfl ?lit (by simp [Value.oneCell']) (by unfold maxLen;omega) (by omega) ?hbase ?_
     case own=>exact World.ownsRow.alloc (show World.ownsRow { V5 with drawn:=V5.drawn+1 } B 2 1 (.slice b1.ea b1.en b1.ec) b1.en (I b1.ends) from H5.o.eR) _
     case lit=>exact Jd _ _ _
     case hbase=>simp;omega
     intro v3 w6 fi jk jf
     obtain ⟨a3,c3,rfl⟩:∃ a c,v3=.slice a (b1.en+1) c:=JG fi;have hq:=H5.o.pushE (V1:=({ V5 with drawn:=V5.drawn+1 }:World).alloc (.cells #[.int .i64 ((d:Int)+N)] 2)) ⟨rfl,rfl,rfl,by show V5.heap.size<=(V5.alloc (.cells #[.int .i64 ((d:Int)+N)] 2)).heap.size;simp,λk hk=>QF V5 _ k hk⟩ jk fi jf (by omega) (by omega) (by omega)
     exact hK _ w6 ⟨a3,c3,rfl,⟨hq.1.1,hq.1.2.1⟩,hq.1.2.2,hq.2⟩
   refine Rp.v1 0 rfl (by kernel_rfl) rfl rfl rfl rfl (λa W _ e=>by go_simp;try rfl) ?_
   refine Rp.v1 13 rfl (by kernel_rfl) rfl rfl rfl rfl (λa W _ e=>by go_simp;try rfl) ?_
   refine Rp.QX.e (by rfl) (λa W Kc f hK=>?_) Rp.QX.nil
   . have hA:=Rp.XF f 56 (by kernel_rfl);obtain ⟨v3,ev⟩:∃ v3,a.eval (.tmp 56)=v3:=⟨_,rfl⟩;rw [ev] at hA;obtain ⟨a3,c3,rfl,⟨s5,-⟩,jd,ai⟩:=hA;have jo:=(Rp.QW a 58).symm.trans (Rp.XI f 14 58 _ (by kernel_rfl) rfl);have jp:a.tmps[56]?.getD undef=(.slice a3 (b1.en+1) c3):=(Rp.QW a 56).symm.trans ev;have ea:=Rp.Xs f rfl ev (by kernel_rfl) rfl
     simp only [Rp.Oe,List.set,Nat.reduceAdd] at ea
     refine Rp.JL (Rp.Qe rfl) (W':=W.setCell ⟨s,2,none⟩ (.slice a3 (b1.en+1) c3)) ?hst (hK undef _ ?hen)
     case hst =>
      clear f hK ea
      go_simp
      try rfl
     case hen =>
      clear f hK jo jp;clear ev;subst ea;clear m5 m1 df jh;obtain ⟨j,av⟩:∃ j:Bd,j={ b1 with ea:=a3,en:=b1.en+1,ec:=c3,ends:=b1.ends++[((d:Int)+N)],E:=((d:Int)+N) }:=⟨_,rfl⟩;obtain ⟨g,ca⟩:∃ g,g=b1.fs.take ((d:Int)+N).toNat:=⟨_,rfl⟩;rw [<- av,<- ca] at ai;have fk:j.sec=x:=by rw [av];exact ji
      have dy:j.en≠0:=by rw [av];show b1.en+1≠0;omega
      have dx:j.en<=1000:=by rw [av];show b1.en+1<=1000;omega
      have dg:j.fs=bc.fs:=by rw [av];exact e4
      have bh:j.E=(d:Int)+N:=by rw [av]
      have f6:j.full=bc.full:=by rw [av,cv.o]
      have hh:Qm j.fs:=by rw [dg];exact hA
      have g5:j.fs.length<=4194300:=by rw [dg];exact hl
      have dq:Qm g:=by rw [ca,e4];exact Qm.take hA _
      have jb:g.length<=4194300:=by rw [ca,e4,List.length_take];omega
      have gj:Hid (bs.take (d+N.toNat)=g):=by
       show _=_
       rw [ca,dn,e4]
       congr 1;omega
      have dp:MR m j.rest L:=by rw [av];exact jj
      have f8:=hB.up (show p<=d by omega);have fq:MS m B w0 s ba j g d bx (W.setCell ⟨s,2,none⟩ (.slice a3 (b1.en+1) c3)):=⟨j.ea,j.ec,j.rest,L,dp,f8,ai.more (λ_=>by omega)⟩;obtain ⟨X,hg⟩:∃ X,X=Jk x bc.full m g j.E d:=⟨_,rfl⟩;have el:=Hm av;have aw:=Hm fq;have ei:=Hm ai;have eh:=Hm hg;clear ai s5 jd H5 av ca fq hg c19 jl ch ht;obtain ⟨W1,hf⟩:∃ W1,W1=W.setCell ⟨s,2,none⟩ (.slice a3 (b1.en+1) c3):=⟨_,rfl⟩;rw [<- hf] at aw ei⊢;clear hf
      go_upto_if 60 with fail
      go_cut [4,5] from 60 to 118 (λv4 v5 wc=>ScP X B w0 s ba j g bx wc)
      case first =>
       by_cases b2:x=0
       . have KC:=Hm (cus_m m aw.o dy (by omega) dq jb);rw [f6] at KC;subst b2
         go_wp2_with fail
         refine (KC.o).mono ?_
         rintro e w5 ⟨rfl,F⟩;have ek:=Hm F;clear F KC
         go_wp2_with fail
         go_meet
         show ScP X _ _ _ _ _ _ _ _
         rw [eh.o];exact ek.o
       have kb:(x==0)=false:=by simpa using b2
       by_cases et:x=8
       . have KU:=Hm (u32C ei.o (Lk.ok () d) dq (by omega));subst et
         go_wp2_with fail
         refine (KU.o).mono ?_
         rintro e w5 ⟨u5,p5,jm,ju,rfl,⟨v5,rfl⟩,g7,g3,ar⟩;have dv:Lk (QK g d) p5 jm ju:=g7;have fj:∀ y q,QK g d=.ok y q->(.int .i64 v5:Value)=.int .i64 y:=g3;have y8:w5.cell? ⟨s,13,none⟩=some (.int .i64 m.start):=ar.cm (i:=8) dp.st;have iq:=ar.fz 13;have h6:=ar.setM 8 (by decide) (.int .i64 v5);have y7:(w5.setCell ⟨s,13,none⟩ (.int .i64 v5)).cell? ⟨s,12,none⟩=some (.bool m.hasS):=h6.cm (i:=7) (by show (j.rest.set 8 _)[7]?=_;rw [List.getElem?_set_ne (by decide)];exact dp.hs);have ir:(w5.setCell ⟨s,13,none⟩ (.int .i64 v5)).frozen? ⟨s,12,none⟩=false:=h6.fz 12;have h7:=h6.setM 7 (by decide) (.bool true);have KT:=Hm (tellC 8 0 0 0 h7 dv.at0 (by omega));have h9:=Hm dv;have j1:=Hm fj;clear ar h6 h7 g7 g3 dv fj KU
         go_wp2_with fail
         refine (KT.o).mono ?_
         rintro e w6 ⟨rfl,ds⟩;have H6:=Hm ds;clear ds KT y8 iq y7 ir
         go_wp2_with fail
         go_meet
         show ScP X _ _ _ _ _ _ _ _
         rw [eh.o,show Jk 8 bc.full m g j.E d=(QK g d).bind λx M=>.ok { m with hasS:=true,start:=x } M from rfl]
         cases hM:QK g d with
         |bad er a =>
          have hk:=h9.o;rw [hM] at hk;obtain ⟨hn,rfl,rfl⟩:=hk
          exact (FaD.of H6.o hn).rest
         |ok y q =>
          have hk:=h9.o;rw [hM] at hk;obtain ⟨rfl,rfl,rfl⟩:=hk;have hy:=j1.o y p5 hM
          injection hy with _ hy
          subst hy;have lg:=JC _ _ v5 p5 hM
          refine ⟨j.ea,j.ec,(j.rest.set 8 (.int .i64 v5)).set 7 (.bool true),L,?_,?_,H6.o.more (λ_=>by omega)⟩
          . rw [List.set_comm _ _ (by decide)];exact dp.set_start v5
          . have:=f8.up (show d<=p5 by omega)
            exact ⟨this.1,this.2,this.3,this.4,this.5,this.6,this.7,this.8,this.9,this.10,this.11⟩
       have j9:(x==8)=false:=by simpa using et
       have Y:x=1\/x=2\/x=3\/x=4\/x=5\/x=6\/x=7\/x=9\/x=10\/x=11:=by omega
       have fo:bc.last<x:=by omega
       have fg:Hid (X=(QK g d).bind λn M=>if x=10/\n≠(m.funcs.length:Int) then .bad 11 M else itM (entM x g j.E) n.toNat m M):=by
        show _=_
        rw [eh.o];exact sec_it (by omega) (by omega) et fo g9
       have G:=Hm (g9.ix fo Y);have gh:=Hm Y;have KU:=Hm (u32C ei.o (Lk.ok () d) dq (by omega));clear b2 et Y
       go_wp2_with fail
       refine (KU.o).mono ?_
       rintro e w5 ⟨u5,p4,ga,hv,rfl,⟨R,rfl⟩,g8,g4,ad⟩;have a4:Lk (QK g d) p4 ga hv:=g8;have b7:∀ y q,QK g d=.ok y q->(.int .i64 R:Value)=.int .i64 y:=g4;clear g8 g4 KU aw ei
       by_cases e0:ga=0
       case neg =>
        obtain ⟨zz,aq,O,js⟩:=ad.c3n e0;have l:Hid (X=.bad ga hv):=by show _=_;rw [fg.o,a4.ne e0];rfl
        have J:=Hm (FaD.of ad e0);clear ad a4 b7
        go_wp2_with fail
        go_loopw [5] (λiv wr=>iv=.int .i64 0/\∃ er a,X=.bad er a/\FaD er a B w0 s ba j bx wr) (λ_ _=>0)
        case atStart=>exact ⟨rfl,_,_,l.o,J.o⟩
        case round =>
         obtain ⟨rfl,er,a,t,D⟩:=hrel;obtain ⟨zz,aq,O,ch⟩:=D.c3;clear l J;have l:=Hm t;have J:=Hm D;clear t D
         by_cases ak:(0:Int)<R
         . go_wp2_with fail
           go_meet
           show ScP X _ _ _ _ _ _ _ _
           rw [l.o];exact J.o
         . have b8:decide ((0:Int)<R)=false:=decide_eq_false ak
           go_wp2_with fail
           go_meet
           show ScP X _ _ _ _ _ _ _ _
           rw [l.o];exact J.o
       subst e0;obtain ⟨y4,cq,hc⟩:=a4.zero;subst hc;have fw:=b7 y4 p4 cq
       injection fw with _ fw
       subst fw;have lr:=Jq dq cq;have lb:=JC _ _ R p4 cq;have js:=ad.c3;have l2:=ad.c1;obtain ⟨vf,cf,kf,eu,e3,du⟩:=dp.funcs;obtain ⟨fa,fc,g2⟩:∃ a c,vf=.slice a m.funcs.length c:=Qc.Ok.slice (ad.row (r:=⟨2,1,m.funcs.length,vf,cf⟩) (List.mem_flatten.2 ⟨_,List.mem_of_getElem? e3,mS⟩));subst g2;have m7:w5.cell? ⟨s,7,none⟩=some (.slice fa m.funcs.length fc):=ad.cm (i:=2) eu;have H4:Hid (MS m B w0 s ba j g p4 bx w5):=⟨j.ea,j.ec,j.rest,L,dp,f8.up (by omega),ad.more (λ_=>by omega)⟩;have gc:=Hm cq;have Y:=gh.o
       by_cases ah:x=10
       . have fx:(x==10)=true:=by simpa using ah
         by_cases a5:R=(m.funcs.length:Int)
         . have je:(R != (m.funcs.length:Int))=false:=by simpa using a5
           have ej:Hid (X=itM (entM x g j.E) (R.toNat-0) m p4):=by
            show _=_
            rw [fg.o,gc.o];simp only [Rs.bind];rw [if_neg (λh=>h.2 a5)];rfl
           clear ad a4 b7 eu e3 du cq ah a5 Y;have Y:=gh.o
           go_wp2_with fail
           go_loopw [5] (λiv wr=>∃ (i:Nat) (m1:Mod) (q:Nat),iv=.int .i64 (i:Int)/\i<=R.toNat/\((X=itM (entM x g j.E) (R.toNat-i) m1 q/\Ix x m1 i/\MS m1 B w0 s ba j g q bx wr)\/(∃ er a,X=.bad er a/\FaD er a B w0 s ba j bx wr))) (λi _=>R.toNat-(intOf i).toNat)
           case atStart=>exact ⟨0,m,p4,rfl,Nat.zero_le _,.inl ⟨ej.o,G.o,H4.o⟩⟩
           case round =>
            obtain ⟨i,m1,q,rfl,jc,hst⟩:=hrel;clear H4 ej G
            rcases hst with ⟨t,dw,au⟩|⟨er,a,t,D⟩
            . have l:=Hm t;have G:=Hm dw;have aw:=Hm au;have ch:=au.sd.1;clear t dw au
              by_cases ak:(i:Int)<R
              . have KE:=Hm (ent_c x Y (i:Int) m1 aw.o fk dy dx hh g5 G.o.fu (λe=>by rw [G.o.g6 e]) (λe=>by rw [G.o.e9 e]) (λe=>by rw [G.o.c10 e]) (λe=>by rw [G.o.d11 e]))
                go_wp2_with fail
                refine (KE.o).mono ?_
                rintro e w5 ⟨rfl,F⟩;have ek:=Hm F;clear F KE
                go_wp2_with fail
                go_roundw
                case rel =>
                 have F:=ek.o;have t:=l.o;rw [show R.toNat-i=(R.toNat-(i+1))+1 by omega] at t
                 cases hX:entM x g j.E m1 q with
                 |bad er a =>
                  rw [hX] at F
                  simp only [itM,hX,Rs.bind] at t
                  exact ⟨i+1,m1,q,by go_num,by omega,.inr ⟨er,a,t,F⟩⟩
                 |ok m2 q2 =>
                  rw [hX] at F
                  simp only [itM,hX,Rs.bind] at t
                  exact ⟨i+1,m2,q2,by go_num,by omega,.inl ⟨t,ent_ix Y dq hX G.o,F⟩⟩
                case measure=>simp [intOf];omega
              . have b8:decide ((i:Int)<R)=false:=decide_eq_false ak
                go_wp2_with fail
                go_meet
                have t:=l.o;rw [show R.toNat-i=0 by omega] at t
                show ScP X _ _ _ _ _ _ _ _
                rw [t];exact aw.o
            . obtain ⟨zz,aq,O,ch⟩:=D.c3;have l:=Hm t;have J:=Hm D;clear t D
              by_cases ak:(i:Int)<R
              . go_wp2_with fail
                go_meet
                show ScP X _ _ _ _ _ _ _ _
                rw [l.o];exact J.o
              . have b8:decide ((i:Int)<R)=false:=decide_eq_false ak
                go_wp2_with fail
                go_meet
                show ScP X _ _ _ _ _ _ _ _
                rw [l.o];exact J.o
         . have je:(R != (m.funcs.length:Int))=true:=by simpa using a5
           have l:Hid (X=.bad 11 (p4:Int)):=by
            show _=_
            rw [fg.o,gc.o];simp only [Rs.bind];rw [if_pos ⟨ah,a5⟩]
           have KF:=Hm (Gv 11 (p4:Int) ad (by decide));clear ad a4 b7 eu e3 du cq ah a5 Y H4
           go_wp2_with fail
           refine (KF.o).mono ?_
           rintro e w6 ⟨rfl,ds⟩;have J:=Hm (FaD.of ds (by decide));clear ds KF
           go_wp2_with fail
           go_loopw [5] (λiv wr=>iv=.int .i64 0/\∃ er a,X=.bad er a/\FaD er a B w0 s ba j bx wr) (λ_ _=>0)
           case atStart=>exact ⟨rfl,_,_,l.o,J.o⟩
           case round =>
            obtain ⟨rfl,er,a,t,D⟩:=hrel;obtain ⟨zz,aq,O,ch⟩:=D.c3;clear l J;have l:=Hm t;have J:=Hm D;clear t D
            by_cases ak:(0:Int)<R
            . go_wp2_with fail
              go_meet
              show ScP X _ _ _ _ _ _ _ _
              rw [l.o];exact J.o
            . have b8:decide ((0:Int)<R)=false:=decide_eq_false ak
              go_wp2_with fail
              go_meet
              show ScP X _ _ _ _ _ _ _ _
              rw [l.o];exact J.o
       . have fx:(x==10)=false:=by simpa using ah
         have ej:Hid (X=itM (entM x g j.E) (R.toNat-0) m p4):=by
          show _=_
          rw [fg.o,gc.o];simp only [Rs.bind];rw [if_neg (λh=>ah h.1)];rfl
         clear ad a4 b7 eu e3 du cq ah Y m7;have Y:=gh.o
         go_wp2_with fail
         go_loopw [5] (λiv wr=>∃ (i:Nat) (m1:Mod) (q:Nat),iv=.int .i64 (i:Int)/\i<=R.toNat/\((X=itM (entM x g j.E) (R.toNat-i) m1 q/\Ix x m1 i/\MS m1 B w0 s ba j g q bx wr)\/(∃ er a,X=.bad er a/\FaD er a B w0 s ba j bx wr))) (λi _=>R.toNat-(intOf i).toNat)
         case atStart=>exact ⟨0,m,p4,rfl,Nat.zero_le _,.inl ⟨ej.o,G.o,H4.o⟩⟩
         case round =>
          obtain ⟨i,m1,q,rfl,jc,hst⟩:=hrel;clear H4 ej G
          rcases hst with ⟨t,dw,au⟩|⟨er,a,t,D⟩
          . have l:=Hm t;have G:=Hm dw;have aw:=Hm au;have ch:=au.sd.1;clear t dw au
            by_cases ak:(i:Int)<R
            . have KE:=Hm (ent_c x Y (i:Int) m1 aw.o fk dy dx hh g5 G.o.fu (λe=>by rw [G.o.g6 e]) (λe=>by rw [G.o.e9 e]) (λe=>by rw [G.o.c10 e]) (λe=>by rw [G.o.d11 e]))
              go_wp2_with fail
              refine (KE.o).mono ?_
              rintro e w5 ⟨rfl,F⟩;have ek:=Hm F;clear F KE
              go_wp2_with fail
              go_roundw
              case rel =>
               have F:=ek.o;have t:=l.o;rw [show R.toNat-i=(R.toNat-(i+1))+1 by omega] at t
               cases hX:entM x g j.E m1 q with
               |bad er a =>
                rw [hX] at F
                simp only [itM,hX,Rs.bind] at t
                exact ⟨i+1,m1,q,by go_num,by omega,.inr ⟨er,a,t,F⟩⟩
               |ok m2 q2 =>
                rw [hX] at F
                simp only [itM,hX,Rs.bind] at t
                exact ⟨i+1,m2,q2,by go_num,by omega,.inl ⟨t,ent_ix Y dq hX G.o,F⟩⟩
              case measure=>simp [intOf];omega
            . have b8:decide ((i:Int)<R)=false:=decide_eq_false ak
              go_wp2_with fail
              go_meet
              have t:=l.o;rw [show R.toNat-i=0 by omega] at t
              show ScP X _ _ _ _ _ _ _ _
              rw [t];exact aw.o
          . obtain ⟨zz,aq,O,ch⟩:=D.c3;have l:=Hm t;have J:=Hm D;clear t D
            by_cases ak:(i:Int)<R
            . go_wp2_with fail
              go_meet
              show ScP X _ _ _ _ _ _ _ _
              rw [l.o];exact J.o
            . have b8:decide ((i:Int)<R)=false:=decide_eq_false ak
              go_wp2_with fail
              go_meet
              show ScP X _ _ _ _ _ _ _ _
              rw [l.o];exact J.o
      case rest =>
       have gg:=Hm hcut;clear hcut aw ei
       have f4:Hid (∀ (e a:Int),X=.bad e a->((noM bc.last bs p).bind λk M=>(QU (Jk k bc.full m) bs JH M).bind λb d=>Rs.ok (k,b) d)=.bad (wE bs (d+N.toNat) e) (wA bs (d+N.toNat) e a)):=λe a h=>by
        rw [fb.o];simp only [Rs.bind];rw [within_bad (rd:=Jk x bc.full m) gd.o (by rw [gj.o,<- bh,<- eh.o];exact h) (by omega)]
       rcases t:X with ⟨er,a⟩|⟨b,p3⟩
       . have D:=gg.o;rw [t] at D;have c9:FaD er a B w0 s ba j bx _:=D;have KE:=Hm (endF c9);obtain ⟨zz,aq,O,hp⟩:=c9.c3;have cu:=Hm (f4.o er a t);have gi:=Hm (c9.win (bc:=bc) (bs:=bs) (q:=d+N.toNat) dg (by rw [bh];omega) (by rw [bh,hE];unfold JH;omega) dr);clear D c9 t f4
         go_wp2_with fail
         refine (KE.o).mono ?_
         rintro e w7 ⟨rfl,rfl⟩
         go_wp2_with fail
         go_end0
         exact SnP.bad cu.o gi.o
       . have au:=gg.o;rw [t] at au;obtain ⟨ea',d6,af,L',H,d4,f2⟩:=au
         have gf:Hid (Jk x bc.full m (bs.take (d+N.toNat)) (d+N) d=.ok b p3):=by
          show _=_
          rw [gj.o,<- bh,<- eh.o];exact t
         have lc:=f2.le;have kd:d<=p3:=up_sec _ _ _ _ _ _ b p3 gf.o;have KE:=Hm (endC f2 (k:=0) (by show j.en=0+1;rw [el.o];show b1.en+1=0+1;omega) (by show j.E<=_;rw [bh];omega));clear f2 t f4 gg
         go_wp2_with fail
         refine (KE.o).mono ?_
         rintro e w7 ⟨rfl,f7⟩;clear KE
         have fp:p3<=bc.fs.length:=by
          have h1:g.length<=bs.length:=by rw [<- gj.o];simp only [List.length_take];omega
          rw [<- dn];omega
         rcases f7 with ⟨ew,jn,jv,dt,h1,h2,ai⟩|⟨f5,V,ai,fy⟩
         . replace ew:(p3:Int)<j.E:=ew
           have cu:Hid (((noM bc.last bs p).bind λk M=>(QU (Jk k bc.full m) bs JH M).bind λb d=>Rs.ok (k,b) d)=.bad (sE bs p3) (sA bs p3)):=by
            show _=_
            rw [fb.o];simp only [Rs.bind];rw [within_short gd.o gf.o (by rw [bh] at ew;omega)]
           have f1:=short_bad (bc1:=bc) (bc2:=j) (bs1:=bs) (q:=p3) dg ew (by rw [bh,hE];unfold JH;omega) dr fp;obtain ⟨zz,aq,O,hp⟩:=ai.c3n dt
           have gi:Hid (FaD (sE bs p3) (sA bs p3) B w0 s ba bc bx w7):=by
            refine ⟨_,g,p3,jn,jv,_,dt,?_,?_,ai.err dt 0⟩
            . refine Eq.trans h1 (Eq.trans ?_ f1.1);show (if ((j.fs.length:Int))<=_ then _ else _)=_;rw [dg]
            . refine Eq.trans h2 (Eq.trans ?_ f1.2);show (if ((j.fs.length:Int))<=_ then _ else _)=_;rw [dg]
           clear ai h1 h2 f1
           go_wp2_with fail
           go_end0
           exact SnP.bad cu.o gi.o
         . replace f5:j.E<=(p3:Int):=f5
           have cu:Hid (((noM bc.last bs p).bind λk M=>(QU (Jk k bc.full m) bs JH M).bind λb d=>Rs.ok (k,b) d)=.ok (x,b) p3):=by
            show _=_
            rw [fb.o];simp only [Rs.bind];rw [within_ok gd.o gf.o (by rw [bh] at f5;omega)]
           have fm:p3<=bs.length:=by rw [dn];exact fp
           have bg:=ai.popE (bc:=b1) (bs:=bs) (E':=(d:Int)+N) (by show j.en=_;rw [el.o]) (by show j.ends=_;rw [el.o]) (by show j.fs=_;rw [el.o]) (by show j.E<=_;rw [bh,cv.o,hE];unfold JH;omega) fm (by rw [cv.o];exact dr) (by rw [cv.o,hE];unfold JH;decide) (by rw [cv.o,hE];unfold JH;decide) (λ_=>by rw [cv.o];show (bc.fs.length:Int)<=bc.E;rw [hE];unfold JH;omega) j3.o;rw [show (0:Nat)=b1.en from hm.symm] at fy;rw [show V.setCell ⟨s,2,none⟩ (.slice _ b1.en _)=w7 from fy.symm] at bg;have fl:({ { j with ea:=ea',ec:=d6,rest:=af } with en:=b1.en,ends:=b1.ends,E:=b1.E }:Bd)={ bc with sec:=x,ea:=ea',ec:=d6,rest:=af }:=by rw [el.o,cv.o]
           rw [fl] at bg;clear ai fy fl;have hp:=bg.c3
           by_cases b2:x=0
           . have g1:¬ x > 0:=by omega
             have H7:=Hm bg;have fd:=Hm H;have ff:=Hm d4;clear bg H d4
             go_wp2_with fail
             go_end0
             refine SnP.ok cu.o ?_
             rw [show ({ bc with sec:=x,last:=(if x=0 then bc.last else x),full:=(if x≠0/\Gi b x then x else bc.full) }:Bd)={ bc with sec:=x } by rw [if_pos b2,if_neg (λh=>h.1 b2)]]
             exact ⟨ea',d6,af,L',fd.o,ff.o,H7.o⟩
           . have g1:x > 0:=by omega
             have c20:=bg.c20;have ly:=bg.fz 20;have h8:=bg.setLast x;obtain ⟨bk,d7,gr,ax,a6,-⟩:=H.types;obtain ⟨ci,br,dh⟩:∃ a c,bk=.slice a b.types.length c:=Qc.Ok.slice (h8.row (r:=⟨92,2,b.types.length,bk,d7⟩) (List.mem_flatten.2 ⟨_,List.mem_of_getElem? a6,mS⟩));subst dh;have r0:(w7.setCell ⟨s,20,none⟩ (.int .i64 x)).cell? ⟨s,5,none⟩=some (.slice ci b.types.length br):=h8.cm (i:=0) ax;obtain ⟨cy,e7,ii,b5,ce,-⟩:=H.imps;obtain ⟨dc,c7,d1⟩:∃ a c,cy=.slice a b.imps.length c:=Qc.Ok.slice (h8.row (r:=⟨100,9,b.imps.length,cy,e7⟩) (List.mem_flatten.2 ⟨_,List.mem_of_getElem? ce,mS⟩));subst d1;have r1:(w7.setCell ⟨s,20,none⟩ (.int .i64 x)).cell? ⟨s,6,none⟩=some (.slice dc b.imps.length c7):=h8.cm (i:=1) b5;obtain ⟨bn,d9,gu,az,a8,-⟩:=H.funcs;obtain ⟨ck,bu,dj⟩:∃ a c,bn=.slice a b.funcs.length c:=Qc.Ok.slice (h8.row (r:=⟨2,1,b.funcs.length,bn,d9⟩) (List.mem_flatten.2 ⟨_,List.mem_of_getElem? a8,mS⟩));subst dj;have r2:(w7.setCell ⟨s,20,none⟩ (.int .i64 x)).cell? ⟨s,7,none⟩=some (.slice ck b.funcs.length bu):=h8.cm (i:=2) az;obtain ⟨cw,e5,ig,b3,cc,-⟩:=H.tabs;obtain ⟨da,c5,dz⟩:∃ a c,cw=.slice a b.tabs.length c:=Qc.Ok.slice (h8.row (r:=⟨96,3,b.tabs.length,cw,e5⟩) (List.mem_flatten.2 ⟨_,List.mem_of_getElem? cc,mS⟩));subst dz;have r3:(w7.setCell ⟨s,20,none⟩ (.int .i64 x)).cell? ⟨s,8,none⟩=some (.slice da b.tabs.length c5):=h8.cm (i:=3) b3
             obtain ⟨cx,e6,ih,b4,cd,-⟩:=H.mems;obtain ⟨db,c6,d0⟩:∃ a c,cx=.slice a b.mems.length c:=Qc.Ok.slice (h8.row (r:=⟨96,3,b.mems.length,cx,e6⟩) (List.mem_flatten.2 ⟨_,List.mem_of_getElem? cd,mS⟩));subst d0;have r4:(w7.setCell ⟨s,20,none⟩ (.int .i64 x)).cell? ⟨s,9,none⟩=some (.slice db b.mems.length c6):=h8.cm (i:=4) b4;obtain ⟨bm,d8,gs,ay,a7,-⟩:=H.globs;obtain ⟨cj,bt,di⟩:∃ a c,bm=.slice a b.globs.length c:=Qc.Ok.slice (h8.row (r:=⟨107,3,b.globs.length,bm,d8⟩) (List.mem_flatten.2 ⟨_,List.mem_of_getElem? a7,mS⟩));subst di;have r5:(w7.setCell ⟨s,20,none⟩ (.int .i64 x)).cell? ⟨s,10,none⟩=some (.slice cj b.globs.length bt):=h8.cm (i:=5) ay;obtain ⟨cz,e8,ij,b6,cg,-⟩:=H.exps;obtain ⟨dd,c8,d2⟩:∃ a c,cz=.slice a b.exps.length c:=Qc.Ok.slice (h8.row (r:=⟨111,3,b.exps.length,cz,e8⟩) (List.mem_flatten.2 ⟨_,List.mem_of_getElem? cg,mS⟩));subst d2;have r6:(w7.setCell ⟨s,20,none⟩ (.int .i64 x)).cell? ⟨s,11,none⟩=some (.slice dd b.exps.length c8):=h8.cm (i:=6) b6;obtain ⟨bo,eb,gv,a0,a9,-⟩:=H.elems;obtain ⟨cl,bv,dk⟩:∃ a c,bo=.slice a b.elems.length c:=Qc.Ok.slice (h8.row (r:=⟨79,2,b.elems.length,bo,eb⟩) (List.mem_flatten.2 ⟨_,List.mem_of_getElem? a9,mS⟩));subst dk;have r9:(w7.setCell ⟨s,20,none⟩ (.int .i64 x)).cell? ⟨s,14,none⟩=some (.slice cl b.elems.length bv):=h8.cm (i:=9) a0;obtain ⟨bq,ee,gx,a2,bf,-⟩:=H.codes
             obtain ⟨co,bz,dm⟩:∃ a c,bq=.slice a b.codes.length c:=Qc.Ok.slice (h8.row (r:=⟨83,2,b.codes.length,bq,ee⟩) (List.mem_flatten.2 ⟨_,List.mem_of_getElem? bf,mS⟩));subst dm;have iz:(w7.setCell ⟨s,20,none⟩ (.int .i64 x)).cell? ⟨s,15,none⟩=some (.slice co b.codes.length bz):=h8.cm (i:=10) a2;obtain ⟨bp,ed,gw,a1,bb,-⟩:=H.datas;obtain ⟨cn,bw,dl⟩:∃ a c,bp=.slice a b.datas.length c:=Qc.Ok.slice (h8.row (r:=⟨85,2,b.datas.length,bp,ed⟩) (List.mem_flatten.2 ⟨_,List.mem_of_getElem? bb,mS⟩));subst dl;have iy:(w7.setCell ⟨s,20,none⟩ (.int .i64 x)).cell? ⟨s,16,none⟩=some (.slice cn b.datas.length bw):=h8.cm (i:=11) a1;obtain ⟨ae,cr,ft,aa,ab,-⟩:=H.customs;obtain ⟨ao,ag,b9⟩:∃ a c,ae=.slice a b.customs.length c:=Qc.Ok.slice (h8.row (r:=⟨72,3,b.customs.length,ae,cr⟩) (List.mem_flatten.2 ⟨_,List.mem_of_getElem? ab,mS⟩));subst b9;have iw:(w7.setCell ⟨s,20,none⟩ (.int .i64 x)).cell? ⟨s,17,none⟩=some (.slice ao b.customs.length ag):=h8.cm (i:=12) aa;have r7:(w7.setCell ⟨s,20,none⟩ (.int .i64 x)).cell? ⟨s,12,none⟩=some (.bool b.hasS):=h8.cm (i:=7) H.hs;have r8:(w7.setCell ⟨s,20,none⟩ (.int .i64 x)).cell? ⟨s,13,none⟩=some (.int .i64 b.start):=h8.cm (i:=8) H.st;clear ax a6 b5 ce az a8 b3 cc b4 cd ay a7 b6 cg a0 a9 a2 bf a1 bb aa ab;have j2:b.Ln:=d4.ln (by rw [dn] at fm;omega);have H8:=Hm h8
             have fd:=Hm H;have ff:=Hm d4;have KZ:=Hm (ssz_c b ci br dc c7 ck bu da c5 db c6 cj bt dd c8 cl bv co bz cn bw ao ag (w7.setCell ⟨s,20,none⟩ (.int .i64 x)) j2 (if b.hasS then 1 else 0) rfl);clear bg h8 H d4
             go_wp2_with fail
             refine (KZ.o).mono ?_
             rintro e w9 ⟨gz,rfl,lo,ha,hb⟩;obtain ⟨Z,g0⟩:∃ Z:Nat,x=(Z:Int):=⟨x.toNat,by omega⟩;obtain ⟨zv,fv⟩:∃ zv:Int,(szs b)[Z]?=some zv:=⟨_,List.getElem?_eq_getElem (by show Z<12;omega)⟩
             have k9:w9.cell? ⟨gz,Z,none⟩=some (.int .i64 zv):=by
              refine ha.2.1 Z _ ?_
              have:∀ n:Nat,n<12->([Value.int .i64 0,.int .i64 b.types.length,.int .i64 b.imps.length,.int .i64 b.funcs.length,.int .i64 b.tabs.length,.int .i64 b.mems.length,.int .i64 b.globs.length,.int .i64 b.exps.length,.int .i64 (if b.hasS then 1 else 0),.int .i64 b.elems.length,.int .i64 b.codes.length,.int .i64 b.datas.length]:List Value)[n]?=((szs b)[n]?).map (λz=>Value.int .i64 z):=by
               intro n hn
               match n,hn with
               |0,_|1,_|2,_|3,_|4,_|5,_|6,_|7,_|8,_|9,_|10,_|11,_=>rfl
              rw [this Z (by omega),fv];rfl
             have df:Gi b x=decide (0<zv):=by
              unfold Gi;rw [show decide (0<=x/\x<12)=true by simp;omega,Bool.true_and,g0,Int.toNat_natCast]
              simp [List.getD,fv]
             have i3:x<12:=by omega
             have H9:=Hm (H8.o.keep hb);have c21:=H9.o.c21;have lx:=H9.o.fz 21;have j5:=Hm (H9.o.setFull x);subst g0;clear ha hb KZ fv;clear r0 r1 r2 r3 r4 r5 r6 r7 r8 r9 iz iy iw
             by_cases hz:0<zv
             . have gy:zv > 0:=hz;have HW:Hid (Gi b (Z:Int)=true):=by show _=_;rw [df];simpa using hz
               clear df
               go_wp2_with fail
               go_end0
               refine SnP.ok cu.o ?_
               rw [show ({ bc with sec:=(Z:Int),last:=(if (Z:Int)=0 then bc.last else (Z:Int)),full:=(if (Z:Int)≠0/\Gi b (Z:Int) then (Z:Int) else bc.full) }:Bd)={ bc with sec:=(Z:Int),last:=(Z:Int),full:=(Z:Int) } by rw [if_neg (by omega),if_pos ⟨by omega,HW.o⟩]]
               exact ⟨ea',d6,af,L',fd.o,ff.o,j5.o⟩
             . have gy:¬ zv > 0:=hz;have k8:decide (zv > 0)=false:=decide_eq_false gy;have HW:Hid (Gi b (Z:Int)=false):=by show _=_;rw [df];simpa using hz
               clear df
               go_wp2_with fail
               go_end0
               refine SnP.ok cu.o ?_
               rw [show ({ bc with sec:=(Z:Int),last:=(if (Z:Int)=0 then bc.last else (Z:Int)),full:=(if (Z:Int)≠0/\Gi b (Z:Int) then (Z:Int) else bc.full) }:Bd)={ bc with sec:=(Z:Int),last:=(Z:Int) } by rw [if_neg (by omega),if_neg (λh=>by rw [HW.o] at h;cases h.2)]]
               exact ⟨ea',d6,af,L',fd.o,ff.o,H9.o⟩
end Go.Proofs.YtedcmcdbejjgcaaGreat.Ms
