import Derived.Test.YtedcmcdbejjgcaaGreatGaa
import Derived.Test.YtedcmcdbejjgcaaGreatGbk
import Derived.Maps.AppendAt
import Derived.Test.YtedcmcdbejjgcaaGreatGai
set_option linter.all false
set_option maxHeartbeats 400000000
set_option maxRecDepth 100000
namespace Go.Proofs.YtedcmcdbejjgcaaGreat.Ms
open Go.RowKit Go.Sort
theorem info_In:(Tryz.prog.info? 2).map (λi=>(i.zero,i.size,i.bytes))=some (some (.int .i64 0),1,8):=by kernel_rfl
theorem ent3 (i:Int){B w0 s ba bc bs p bx w}(l:List Int)(v0:Value)(c0:List Value)(J os:List Qc)(h:Sd B w0 s ba bc bs p 0 0 (4*p) bx (⟨2,1,l.length,v0,c0⟩::(os++J)) w)(u:LR RInt l c0 J)(S:bc.rest[2]?=some v0)(t:bc.sec=3)(au:l.length<=p)(hA:Qm bs)(hl:bs.length<=4194300) :
    Calls Tryz.prog 148 #[.pointer (some ⟨s,0,none⟩),.int .i64 i] w (EnD 0 (QK bs p) RInt l 2 2 1 B w0 s ba bc bs bx os):=by
 obtain ⟨va,F,rfl⟩:∃ a c,v0=.slice a l.length c:=Qc.Ok.slice (h.row mS);have c19:=h.c19;rw [t] at c19;have aq:=h.le;have X:=Hm u;clear u;obtain ⟨i0,hi,O,M,L⟩:=info_parts info_In;have K1:=Hm (u32C h (Lk.ok () p) hA (by omega));clear h
 go_enter Tryz.func148,Tryz.ntmps148
 go_wp2_with fail
 refine (K1.o).mono ?_
 rintro e I ⟨u1,G,D,U,rfl,⟨E,rfl⟩,v,r,b⟩;have j:Lk (QK bs p) G D U:=v;have V:Hid (∀ x q,QK bs p=.ok x q->(.int .i64 E:Value)=.int .i64 x):=r;have HS:=Hm b;have HK:=Hm j;clear v j r K1
 by_cases y:D=0
 . subst y;obtain ⟨Z,g,z⟩:=HK.o.zero;subst z;have ar:=JC _ _ Z G g;have m:=V.o Z G g
   injection m with _ m
   subst m;have c3:=b.c3;have m5:I.cell? ⟨s,7,none⟩=some (.slice va l.length F):=b.cm S;have aw:=b.hB;have n:=Hm g;clear b g
   go_wp2_with (at_builtin;refine wpList_append_own_at _ rfl _ _ 25 rfl B 2 i0 (.int .i64 0) 1 8 Tryz.underlying25 hi O M L rfl (by decide) (.slice va l.length F) l.length c0 rfl (World.ownsRow.alloc (show World.ownsRow I B 2 1 (.slice va l.length F) l.length c0 from HS.o.row mS) _) ⟨I.heap.size,0,none⟩ 1 1 [.int .i64 E] rfl rfl (Jd _ _ _) (by simp [Value.oneCell']) (by unfold maxLen;omega) (by omega) (by simp;omega) ?_;intro v3 w6 d C R A;have H:=Xr (ix:=2) HS.o S (by decide) (bF.alloc lR _) C d A;obtain ⟨a3,az,rfl⟩:∃ a c,v3=.slice a (l.length+1) c:=JG d;have H6:=Hm H.2;have m6:w6.cell? ⟨s,7,none⟩=some (.slice va l.length F):=H.1.cm S;have f6:=H.1.fz 7;clear d C A H R)
   refine (tellC 3 i 0 0 H6.o (λ_=>rfl) (by omega)).mono ?_
   rintro e w8 ⟨rfl,f⟩;have Y:=Hm f;clear f H6
   go_wp2_with fail
   go_end0
   rw [n.o]
   refine EnD.fin (k:=J) (Lk.ok E G) Y.o ?_ (λ_=>by omega)
   intro x q hx
   cases hx
   have h9:=X.o.snoc (show RInt E _ [] from ⟨rfl,rfl⟩)
   simpa using h9
 . obtain ⟨zz,ao,ab,c3⟩:=b.c3n y;have KT:=Hm (tellC 3 i 0 0 b (λe=>absurd e y) (by omega));have n:=Hm (HK.o.ne y);clear b
   go_wp2_with fail
   refine (KT.o).mono ?_
   rintro e w8 ⟨rfl,f⟩;have Y:=Hm f;clear f KT
   go_wp2_with fail
   go_end0
   rw [n.o]
   exact ⟨rfl,FaD.of Y.o y⟩
section
variable {B:Nat} {w0:World} {s:Nat} {ba:Option Addr} {bc:Bd} {bs:List Int} {p:Nat} {er at_:Int} {K:Nat} {bx:List (Nat × List Value)} {rs:List Qc} {V V1 W:World}
theorem Sd.eR (h:Sd B w0 s ba bc bs p er at_ K bx rs V):V.ownsRow B 2 1 (.slice bc.ea bc.en bc.ec) bc.en (I bc.ends):=by
 obtain ⟨v,n,g,f,a,d,c,b⟩:=h.ex
 exact a.all (QS bc) (by simp)
theorem Sd.enl (h:Sd B w0 s ba bc bs p er at_ K bx rs V):bc.ends.length=bc.en:=by
 have:=h.eR.1
 simpa [I] using this
theorem Sd.endAt (h:Sd B w0 s ba bc bs p er at_ K bx rs V):∀ k,bc.en=k+1->bc.ends[k]?=some bc.E:=by
 intro k l
 obtain ⟨v,n,G,q,F,D,C,A⟩:=h.ex;have c:=h.eR;obtain ⟨b,o,e,z,m⟩:=q.em k l;have r:bc.ea=some ⟨b,o,none⟩:=e;rw [r] at c
 have j:o=0:=by
  rcases c.2 with ⟨h0,_⟩|⟨g,u,t,f,_⟩
  . cases h0
  . cases f;rfl
 subst j;have a:=World.ownsRow.cellAt c k (by omega);have d:V.cell? ⟨b,k,none⟩=some (.int .i64 bc.E):=by simpa using m
 rw [d] at a
 cases hx:bc.ends[k]? with
 |none=>simp [I,hx] at a
 |some y=>simp [I,hx] at a;rw [a]
theorem Sd.pushE {f:Option Addr}{c3:Nat}{E':Int}(h:Sd B w0 s ba bc bs p 0 0 K bx rs V)(hb:Below V.heap.size V V1)(G:V1.grownBy W (Value.slice bc.ea bc.en bc.ec).ownBlock)(own:W.ownsRow B 2 1 (.slice f (bc.en+1) c3) (bc.en+1) (I bc.ends++[.int .i64 E']))(U:(Value.slice f (bc.en+1) c3).ownBlock=(Value.slice bc.ea bc.en bc.ec).ownBlock\/(Value.slice f (bc.en+1) c3).ownBlock=some V1.heap.size)(aq:(p:Int)<=E')(Y:E'<=9223372036854775807)(O:bc.en+1<=1099511627776) :
    (W.cell? ⟨s,2,none⟩=some (.slice bc.ea bc.en bc.ec)/\W.cell? ⟨s,1,none⟩=some (.int .i64 p)/\W.frozen? ⟨s,2,none⟩=false)/\Sd B w0 s ba { bc with ea:=f,en:=bc.en+1,ec:=c3,ends:=bc.ends++[E'],E:=E' } (bc.fs.take E'.toNat) p 0 0 K bx rs (W.setCell ⟨s,2,none⟩ (.slice f (bc.en+1) c3)):=by
 have m:=h.keep hb;obtain ⟨v,n,t,a,g2,g3,g4,g5⟩:=m.ex;have ai:=hb.size;have q2:Own B V1 (QS bc::Jc v n t::rs):=g2.perm (List.Perm.swap _ _ _);have g:∀ k,(QS bc).v.ownBlock=some k->k ∈ blk (Jc v n t::QS bc::rs):=λk c=>Qn.2 ⟨QS bc,by simp,c⟩;have A:∀ k,(QS bc).v.ownBlock=some k->B<=k:=λk c=>(g2.lt (g k c)).1;have L:∀ k,(QS bc).v.ownBlock=some k->k≠s:=λk c e=>g4 (e ▸ g k c);obtain ⟨j,d⟩:∃ j:Bd,j={ bc with ea:=f,en:=bc.en+1,ec:=c3,ends:=bc.ends++[E'],E:=E' }:=⟨_,rfl⟩;have u:(QS j).Ok B W:=by subst d;simpa [Qc.Ok,QS,I] using own
 have l:(QS j).v.ownBlock=(QS bc).v.ownBlock\/(QS j).v.ownBlock=some V1.heap.size:=by subst d;exact U
 have hO:Own B W (Jc v n t::QS j::rs):=(q2.push (r':=QS j) G u l).perm (List.Perm.swap _ _ _)
 have z:∀ k,k<V.heap.size->k ∉ blk (Jc v n t::QS bc::rs)->k ∉ blk (Jc v n t::QS j::rs):=λk c hn hm=>by
  obtain ⟨y,H,e⟩:=Qn.1 hm
  simp at H
  rcases H with rfl|rfl|H
  . exact hn (Qn.2 ⟨_,by simp,e⟩)
  . rcases l with X|X
    . exact hn (g k (by rw [<- X];exact e))
    . rw [X] at e;injection e with e;omega
  . exact hn (Qn.2 ⟨_,by simp [H],e⟩)
 have q:=z s h.lt g4;have c:W.heap[s]?=V1.heap[s]?:=G.block s m.lt (λe=>L s e.symm rfl);have C:∀ i v,V1.cell? ⟨s,i,none⟩=some v->W.cell? ⟨s,i,none⟩=some v:=λi v hv=>(World.cell?_of_block c).trans hv
 have HH:∀ xs,By.Has V1 ba xs->By.Has W ba xs:=by
  rintro xs (h'|⟨b,o,e,hc⟩)
  . exact .inl h'
  . exact .inr ⟨b,o,e,λi hi=>G.cell (hc i hi) (λe'=>by have m:=h.by_ _ e;have:=A b e'.symm;simp at m;omega)⟩
 have D:∀ i,W.frozen? ⟨s,i,none⟩=false:=λi=>(World.frozen?_of_block c).trans (a.fz i);have r:=Qp W s 2 (.slice f (bc.en+1) c3);have S:Below B w0 W:=m.b.grown G m.hB A;have ak:=h.le
 have aj:p<=bc.fs.length:=by
  have h2:bs.length=min bc.E.toNat bc.fs.length:=by
   rw [show bs=bc.fs.take bc.E.toNat from a.win,List.length_take]
  omega
 refine ⟨⟨C _ _ a.c2,C _ _ a.c1,D 2⟩,?_⟩
 rw [<- d]
 refine ⟨⟨v,n,t,?_,hO.grown r (λk e c=>by cases e;exact q c),g3,q,λx hx=>z _ (h.bk x hx).1.1 (g5 x hx)⟩,S.setCell h.qB _,h.by_,h.qB,λx hx=>⟨((m.bk x hx).1.grownR G (λe=>g5 x hx (g _ e))).grownR r (by have:=(h.bk x hx).2.2;simpa using λe=>this e.symm),(m.bk x hx).2⟩,h.nd⟩
 obtain ⟨Z,gc,J,ap⟩:=QI own (by omega)
 injection J with ha3 hc3
 have F:Z≠s:=λe=>q (Qn.2 ⟨QS j,by simp,by subst d;show (Value.slice f (bc.en+1) c3).ownBlock=_;rw [ha3,e];rfl⟩)
 have R:W.cell? ⟨Z,bc.en,none⟩=some (.int .i64 E'):=by
  rw [ha3] at own;rw [World.ownsRow.cellAt own bc.en (by omega)];have hl:(I bc.ends).length=bc.en:=by have:=h.enl;simpa [I] using this
  rw [List.getElem?_append_right (by omega),hl,Nat.sub_self];rfl
 subst d
 refine ⟨Qd (C _ _ a.c0) (by decide),Qd (C _ _ a.c1) (by decide),QE (C _ _ a.c2),Qd (by have:=C _ _ a.d3;simpa [Bd.fe] using this) (by decide),Qd (by have:=C _ _ a.d4;simpa [Bd.fa] using this) (by decide),λi v hv=>Qd (C _ _ (a.rst i v hv)) (by omega),Qd (C _ _ a.ev) (by decide),Qd (C _ _ a.c19) (by decide),Qd (C _ _ a.c20) (by decide),Qd (C _ _ a.c21) (by decide),λi=>by rw [World.frozen?_setCell];exact D i,Sr.has_set (JS (HH _ a.hasF) _) a.ne _ _,a.ne,by simp only [List.length_take];omega,Sr.has_set (HH _ a.hasF) a.ne _ _,rfl,by show (0:Int)<=E';omega,a.rl,a.fl,λe=>absurd e (by show ¬ bc.en+1=0;omega),λk c=>?_,Y,λb o e=>?_,O⟩
 . have M:bc.en=k:=by have:bc.en+1=k+1:=c;omega
   subst M
   exact ⟨Z,0,ha3,F,by rw [Nat.zero_add];exact r.cell R (by simpa using F)⟩
 . have e':f=some ⟨b,o,none⟩:=e
   have:=(hO.lt (Qn.2 ⟨_,mC mS,by show (Value.slice f (bc.en+1) c3).ownBlock=some b;rw [e'];rfl⟩)).2
   simpa using this
theorem own_cut {W:World}{B e n:Nat}{a:Option Addr}{c:Nat}{xs:List Value}{x:Value}(h:W.ownsRow B e 1 (.slice a (n+1) c) (n+1) (xs++[x])):W.ownsRow B e 1 (.slice a n c) n xs:=by
 have o:xs.length=n:=by have:=h.1;simp at this;omega
 refine ⟨by omega,?_⟩
 rcases h.2 with ⟨h0,_⟩|⟨g,m,b,d,hB,f,p,l,k,j⟩
 . cases h0
 . cases d
   refine .inr ⟨g,c,b,rfl,hB,f,by omega,l,k,?_⟩
   have:b.toList.take (n*1)=(b.toList.take ((n+1)*1)).take n:=by rw [List.take_take];congr 1;omega
   rw [this,j,List.take_append_of_le_length (by omega),List.take_of_length_le (by omega)]
theorem Sd.popE {bd bs2}{E':Int}(h:Sd B w0 s ba bd bs2 p 0 0 K bx rs V)(S:bd.en=bc.en+1)(t:bd.ends=bc.ends++[E'])(A:bd.fs=bc.fs)(hE:bd.E<=bc.E)(M:p<=bs.length)(hw:bs=bc.fs.take bc.E.toNat)(Y:0<=bc.E)(U:bc.E<=9223372036854775807)(R:bc.en=0->(bc.fs.length:Int)<=bc.E)(X:∀ k,bc.en=k+1->bc.ends[k]?=some bc.E) :
    Sd B w0 s ba { bd with en:=bc.en,ends:=bc.ends,E:=bc.E } bs p 0 0 K bx rs (V.setCell ⟨s,2,none⟩ (.slice bd.ea bc.en bd.ec)):=by
 obtain ⟨v,n,G,a,Z,g3,g4,g5⟩:=h.ex;have l:=h.eR;rw [S,t] at l;have z:V.ownsRow B 2 1 (.slice bd.ea (bc.en+1) bd.ec) (bc.en+1) (I bc.ends++[.int .i64 E']):=by simpa [I] using l
 have j:=own_cut z;obtain ⟨gb,gc,J,ac⟩:=QI z (by omega)
 injection J with ha3 hc3
 obtain ⟨d,c⟩:∃ d:Bd,d={ bd with en:=bc.en,ends:=bc.ends,E:=bc.E }:=⟨_,rfl⟩;have L:(QS d).Ok B V:=by subst c;exact j
 have m:(QS d).v.ownBlock=(QS bd).v.ownBlock:=by subst c;show (Value.slice bd.ea bc.en bd.ec).ownBlock=(Value.slice bd.ea bd.en bd.ec).ownBlock;rw [ha3];rfl
 have F:∀ k,k ∈ blk (Jc v n G::QS d::rs)->k ∈ blk (Jc v n G::QS bd::rs):=λk hk=>by
  obtain ⟨y,H,e⟩:=Qn.1 hk
  simp at H
  rcases H with rfl|rfl|H
  . exact Qn.2 ⟨_,by simp,e⟩
  . exact Qn.2 ⟨QS bd,by simp,by rw [<- m];exact e⟩
  . exact Qn.2 ⟨_,by simp [H],e⟩
 have hO:Own B V (Jc v n G::QS d::rs):=by
  refine ⟨λr l=>?_,?_⟩
  . simp at l
    rcases l with rfl|rfl|l
    . exact Z.all _ (by simp)
    . exact L
    . exact Z.all _ (by simp [l])
  . have:=Z.nd
    simp only [blk,List.filterMap_cons] at this⊢
    rw [m];exact this
 have g:s ∉ blk (Jc v n G::QS d::rs):=λhk=>g4 (F _ hk);have q:=Qp V s 2 (.slice bd.ea bc.en bd.ec);rw [<- c]
 refine ⟨⟨v,n,G,?_,hO.grown q (λk e hk=>by cases e;exact g hk),g3,g,λx f hk=>g5 x f (F _ hk)⟩,h.b.setCell h.qB _,h.by_,h.qB,λx f=>⟨(h.bk x f).1.grownR q (by have:=(h.bk x f).2.2;simpa using λe=>this e.symm),(h.bk x f).2⟩,h.nd⟩
 have D:gb≠s:=λe=>g (Qn.2 ⟨QS d,by simp,by rw [m];show (Value.slice bd.ea bd.en bd.ec).ownBlock=_;rw [ha3,e];rfl⟩);subst c;have u:bs=bd.fs.take bc.E.toNat:=by rw [A];exact hw
 refine ⟨Qd a.c0 (by decide),Qd a.c1 (by decide),QE a.c2,Qd (by have:=a.d3;simpa [Bd.fe] using this) (by decide),Qd (by have:=a.d4;simpa [Bd.fa] using this) (by decide),λi v hv=>Qd (a.rst i v hv) (by omega),Qd a.ev (by decide),Qd a.c19 (by decide),Qd a.c20 (by decide),Qd a.c21 (by decide),λi=>by rw [World.frozen?_setCell];exact a.fz i,by rw [u];exact Sr.has_set (JS a.hasF _) a.ne _ _,a.ne,M,Sr.has_set a.hasF a.ne _ _,u,Y,a.rl,a.fl,λe=>by show (bd.fs.length:Int)<=bc.E;rw [A];exact R e,λk hk=>?_,U,λb o e=>by simpa using a.el b o e,by have h1:bd.en<=1099511627776:=a.enb;show bc.en<=1099511627776;omega⟩
 have O:bc.en=k+1:=hk;rw [ha3] at j;have C:=World.ownsRow.cellAt j k (by omega);have f:(I bc.ends)[k]?=some (.int .i64 bc.E):=by simp [I,X k O]
 rw [f] at C
 exact ⟨gb,0,ha3,D,by rw [Nat.zero_add];exact q.cell C (by simpa using D)⟩
theorem Sd.setSec (h:Sd B w0 s ba bc bs p er at_ K bx rs V)(x:Int):Sd B w0 s ba { bc with sec:=x } bs p er at_ K bx rs (V.setCell ⟨s,19,none⟩ (.int .i64 x)):=by
 obtain ⟨v,n,q,a,m,l,d,g⟩:=h.ex;have c:=Qp V s 19 (.int .i64 x)
 refine ⟨⟨v,n,q,?_,m.grown c (λk e hk=>by cases e;exact d hk),l,d,g⟩,h.b.setCell h.qB _,h.by_,h.qB,λx hx=>⟨(h.bk x hx).1.grownR c (by have:=(h.bk x hx).2.2;simpa using λe=>this e.symm),(h.bk x hx).2⟩,h.nd⟩
 have f:bc.rest.length=13:=a.rl
 exact ⟨Qd a.c0 (by decide),Qd a.c1 (by decide),Qd a.c2 (by decide),Qd a.d3 (by decide),Qd a.d4 (by decide),λi v hv=>Qd (a.rst i v hv) (by have:i<bc.rest.length:=(List.getElem?_eq_some_iff.1 hv).1;omega),Qd a.ev (by decide),QE a.c19,Qd a.c20 (by decide),Qd a.c21 (by decide),λj=>by rw [World.frozen?_setCell];exact a.fz j,Sr.has_set a.has a.ne _ _,a.ne,a.le,Sr.has_set a.hasF a.ne _ _,a.win,a.e0,a.rl,a.fl,a.eo,a.em_set _ _,a.eb,λb o e=>by simpa using a.el b o e,a.enb⟩
theorem Sd.setLast (h:Sd B w0 s ba bc bs p er at_ K bx rs V)(x:Int):Sd B w0 s ba { bc with last:=x } bs p er at_ K bx rs (V.setCell ⟨s,20,none⟩ (.int .i64 x)):=by
 obtain ⟨v,n,q,a,m,l,d,g⟩:=h.ex;have c:=Qp V s 20 (.int .i64 x)
 refine ⟨⟨v,n,q,?_,m.grown c (λk e hk=>by cases e;exact d hk),l,d,g⟩,h.b.setCell h.qB _,h.by_,h.qB,λx hx=>⟨(h.bk x hx).1.grownR c (by have:=(h.bk x hx).2.2;simpa using λe=>this e.symm),(h.bk x hx).2⟩,h.nd⟩
 have f:bc.rest.length=13:=a.rl
 exact ⟨Qd a.c0 (by decide),Qd a.c1 (by decide),Qd a.c2 (by decide),Qd a.d3 (by decide),Qd a.d4 (by decide),λi v hv=>Qd (a.rst i v hv) (by have:i<bc.rest.length:=(List.getElem?_eq_some_iff.1 hv).1;omega),Qd a.ev (by decide),Qd a.c19 (by decide),QE a.c20,Qd a.c21 (by decide),λj=>by rw [World.frozen?_setCell];exact a.fz j,Sr.has_set a.has a.ne _ _,a.ne,a.le,Sr.has_set a.hasF a.ne _ _,a.win,a.e0,a.rl,a.fl,a.eo,a.em_set _ _,a.eb,λb o e=>by simpa using a.el b o e,a.enb⟩
theorem Sd.setFull (h:Sd B w0 s ba bc bs p er at_ K bx rs V)(x:Int):Sd B w0 s ba { bc with full:=x } bs p er at_ K bx rs (V.setCell ⟨s,21,none⟩ (.int .i64 x)):=by
 obtain ⟨v,n,q,a,m,l,d,g⟩:=h.ex;have c:=Qp V s 21 (.int .i64 x)
 refine ⟨⟨v,n,q,?_,m.grown c (λk e hk=>by cases e;exact d hk),l,d,g⟩,h.b.setCell h.qB _,h.by_,h.qB,λx hx=>⟨(h.bk x hx).1.grownR c (by have:=(h.bk x hx).2.2;simpa using λe=>this e.symm),(h.bk x hx).2⟩,h.nd⟩
 have f:bc.rest.length=13:=a.rl
 exact ⟨Qd a.c0 (by decide),Qd a.c1 (by decide),Qd a.c2 (by decide),Qd a.d3 (by decide),Qd a.d4 (by decide),λi v hv=>Qd (a.rst i v hv) (by have:i<bc.rest.length:=(List.getElem?_eq_some_iff.1 hv).1;omega),Qd a.ev (by decide),Qd a.c19 (by decide),Qd a.c20 (by decide),QE a.c21,λj=>by rw [World.frozen?_setCell];exact a.fz j,Sr.has_set a.has a.ne _ _,a.ne,a.le,Sr.has_set a.hasF a.ne _ _,a.win,a.e0,a.rl,a.fl,a.eo,a.em_set _ _,a.eb,λb o e=>by simpa using a.el b o e,a.enb⟩
end
theorem hwl {w s ba}{bc:Bd}{bs p er at_}{v:Value}(hr:Sr w s ba { bc with ev:=v } bs p er at_)(h:p<=bs.length):p<=bc.fs.length:=by
 have a:bs.length=min bc.E.toNat bc.fs.length:=by
  rw [show bs=bc.fs.take bc.E.toNat from hr.win,List.length_take]
 omega
theorem failG (er at_ ec b:Int){B w0 s ba bc bs p K bx rs w}(h:Sd B w0 s ba bc bs p 0 0 K bx rs w)(a:ec=bc.fe er)(j:b=bc.fa er at_):Calls Tryz.prog 74 #[.pointer (some ⟨s,0,none⟩),.int .i64 ec,.int .i64 b] w λe c=>e=.returned (.tuple #[])/\Sd B w0 s ba bc bs p er at_ K bx rs c:=by
 obtain ⟨v,n,q,d,o,m,l,k⟩:=h.ex
 refine (fail_g s ba _ bs p er at_ ec b w d a j).mono ?_
 rintro e c ⟨a,f,g⟩
 exact ⟨a,h.step (v:=v) (λv' hv'=>by rw [d.ev] at hv';cases hv';exact f) g⟩
theorem leftD {B w0 s ba bc bs p er at_ K bx rs w}(h:Sd B w0 s ba bc bs p er at_ K bx rs w):Calls Tryz.prog 144 #[.pointer (some ⟨s,0,none⟩)] w λe w'=>e=.returned (.int .i64 (bc.left p))/\∃ n,w'=w.drewN n:=by
 obtain ⟨v,n,g,a,f,d,c,b⟩:=h.ex
 exact left_sc s ba { bc with ev:=v } bs p er at_ w a
theorem Sd.drewN {B w0 s ba bc bs p er at_ K bx rs w}(h:Sd B w0 s ba bc bs p er at_ K bx rs w)(n:Nat):Sd B w0 s ba bc bs p er at_ K bx rs (w.drewN n):=h.keep ⟨rfl,rfl,rfl,lR,λ_ _=>rfl⟩
theorem endE {B w0 s ba bc bs p er at_ K bx rs w}(h:Sd B w0 s ba bc bs p er at_ K bx rs w)(a:er≠0):Calls Tryz.prog 149 #[.pointer (some ⟨s,0,none⟩)] w λe w'=>e=.returned (.tuple #[])/\w=w':=by
 obtain ⟨z,c,b,c3⟩:=h.c3n a;clear h a
 go_enter Tryz.func149,Tryz.ntmps149
 go_wp2_with fail
 (try simp only [Exit.inBlock,Exit.then])
 refine bodyPost_ret (results_none rfl _ _ _) rfl ?_
 exact ⟨rfl,rfl⟩
def EndP (k:Nat)(B:Nat)(w0:World)(s:Nat)(ba:Option Addr)(bc:Bd)(bs:List Int)(p K:Nat)(bx:List (Nat × List Value))(rs:List Qc)(e:Ending)(w':World):Prop:=e=.returned (.tuple #[]) /\
    (((p:Int)<bc.E/\∃ er at_,er≠0/\bc.fe er=(if (bc.fs.length:Int)<=p then 2 else 6)/\bc.fa er at_=(if (bc.fs.length:Int)<=p then (bc.fs.length:Int) else (p:Int)+1)/\Sd B w0 s ba bc bs p er at_ K bx rs w')\/(bc.E<=(p:Int)/\∃ V,Sd B w0 s ba bc bs p 0 0 K bx rs V/\w'=V.setCell ⟨s,2,none⟩ (.slice bc.ea k bc.ec)))
theorem endC {B w0 s ba bc bs p K bx rs w}{k:Nat}(h:Sd B w0 s ba bc bs p 0 0 K bx rs w)(hen:bc.en=k+1)(hE:bc.E<=4611686018427387904):Calls Tryz.prog 149 #[.pointer (some ⟨s,0,none⟩)] w (EndP k B w0 s ba bc bs p K bx rs):=by
 have c3:=h.c3;have c1:=h.c1;have c0:=h.c0;have ag:p<=bc.fs.length:=by obtain ⟨v,n,M,j,_⟩:=h.ex;exact hwl j h.le
 have ak:0<=bc.E:=by obtain ⟨v,n,M,j,_⟩:=h.ex;exact j.e0
 have r:=Hm (leftD h);rw [show bc.left p=bc.E-p by unfold Bd.left;rw [if_neg (by omega)]] at r
 by_cases y:(p:Int)<bc.E
 . have hg:bc.E-(p:Int) > 0:=by omega
   by_cases t:(bc.fs.length:Int)<=p
   . have u:¬ bc.E<(bc.fs.length:Int):=by omega
     have H:bc.fe 2=2:=by unfold Bd.fe Bd.er;rw [if_pos rfl,if_neg u]
     have G:bc.fa 2 0=(bc.fs.length:Int):=by unfold Bd.fa Bd.ea';rw [if_pos rfl,if_neg u]
     have z:=Hm (λn=>failG 2 0 2 (bc.fs.length:Int) (h.drewN n) H.symm G.symm);have R:=Hm H;have O:=Hm G;clear h H G
     go_enter Tryz.func149,Tryz.ntmps149
     go_wp2_with fail
     refine (r.o).mono ?_
     rintro e X ⟨rfl,D,rfl⟩
     go_wp2_with fail
     go_quiet (fail)
     go_wp2_with fail
     refine (z.o _).mono ?_
     rintro e w2 ⟨rfl,g⟩;have U:=Hm g;clear g z r
     go_wp2_with fail
     (try simp only [Exit.inBlock,Exit.then])
     refine bodyPost_ret (results_none rfl _ _ _) rfl ?_
     refine ⟨rfl,.inl ⟨y,2,0,by decide,?_,?_,U.o⟩⟩
     . rw [if_pos t];exact R.o
     . rw [if_pos t];exact O.o
   . have Z:(p:Int)<(bc.fs.length:Int):=by omega
     have z:=Hm (λn=>failG 6 ((p:Int)+1) 6 ((p:Int)+1) (h.drewN n) rfl rfl);clear h
     go_enter Tryz.func149,Tryz.ntmps149
     go_wp2_with fail
     refine (r.o).mono ?_
     rintro e X ⟨rfl,D,rfl⟩
     go_wp2_with fail
     go_quiet (fail)
     go_wp2_with fail
     refine (z.o _).mono ?_
     rintro e w2 ⟨rfl,g⟩;have U:=Hm g;clear g z r
     go_wp2_with fail
     (try simp only [Exit.inBlock,Exit.then])
     refine bodyPost_ret (results_none rfl _ _ _) rfl ?_
     refine ⟨rfl,.inl ⟨y,6,(p:Int)+1,by decide,?_,?_,U.o⟩⟩
     . rw [if_neg (by omega)];rfl
     . rw [if_neg (by omega)];rfl
 . have hg:¬ bc.E-(p:Int) > 0:=by omega
   have C:=Hm h;clear h
   go_enter Tryz.func149,Tryz.ntmps149
   go_wp2_with fail
   refine (r.o).mono ?_
   rintro e X ⟨rfl,D,rfl⟩;have HS:=Hm (C.o.drewN D);clear r C
   go_wp2_with fail
   refine Ql (λV=>Sd B w0 s ba bc bs p 0 0 K bx rs V) HS.o ?_
   intro q d
   have b:q.cell? ⟨s,2,none⟩=some (.slice bc.ea (k+1) bc.ec):=by obtain ⟨v,n,M,j,_⟩:=d.ex;have:=j.c2;rw [<- hen];exact this
   have f5:=d.fz 2;have ah:k<=1099511627776:=by obtain ⟨v,n,M,j,_⟩:=d.ex;have:bc.en<=1099511627776:=j.enb;omega
   have aa:k+1<=bc.ec:=by
    have j:=d.eR;rw [hen] at j;obtain ⟨g0,a4,F,hc⟩:=QI j (by omega)
    injection F with _ _ F
    rw [F];exact hc
   have H5:Hid (Sd B w0 s ba bc bs p 0 0 K bx rs ({ q with drawn:=q.drawn+1 }:World)):=d.keep ⟨rfl,rfl,rfl,lR,λ_ _=>rfl⟩;clear d HS
   refine Rp.Ji (N:=48) (vs:=[.pointer (some ⟨s,0,none⟩),.pointer (some ⟨s,0,none⟩),.pointer (some ⟨s,0,none⟩),.pointer (some ⟨s,2,none⟩),.slice bc.ea (k+1) bc.ec,.pointer (some ⟨s,0,none⟩),.pointer (some ⟨s,0,none⟩),.pointer (some ⟨s,2,none⟩),.slice bc.ea (k+1) bc.ec,.int .i64 ((k:Int)+1),.int .i64 (k:Int),undef,.pointer (some ⟨s,0,none⟩),.pointer (some ⟨s,2,none⟩)]) (i1:=1) (i2:=11) (L:=14) (S:=λW=>W.cell? ⟨s,2,none⟩=some (.slice bc.ea (k+1) bc.ec)) (A:=λW v=>W=({ q with drawn:=q.drawn+1 }:World)/\v=.slice bc.ea k bc.ec) (w2:=({ q with drawn:=q.drawn+1 }:World)) (by kernel_rfl) (by kernel_rfl) (by kernel_rfl) rfl ?_ ?_ ?_ ?_
   . exact b
   . exact b
   . rintro W v ⟨rfl,rfl⟩
     exact b
   . refine Rp.QX.c (by rfl) (λa W Kc f b hK=>?_) ?_
     . have e0:a.tmps[0]?.getD undef=.pointer (some ⟨s,0,none⟩):=(Rp.ax_sm f 0 (by kernel_rfl)).trans rfl
       refine Rp.JW (.pointer (some ⟨s,0,none⟩)) (Rp.Qe rfl) ?_ hK
       clear f hK
       go_simp
       try rfl
     refine Rp.QX.l (by rfl) (λa Kc f hK=>?_) ?_
     . have e0:a.tmps[0]?.getD undef=.pointer (some ⟨s,0,none⟩):=(Rp.ax_sm f 0 (by kernel_rfl)).trans rfl
       refine Rp.JW (.pointer (some ⟨s,0,none⟩)) (Rp.Qe rfl) ?_ hK
       clear f hK
       go_simp
       try rfl
     refine Rp.QX.c (by rfl) (λa W Kc f b hK=>?_) ?_
     . have a2:=Rp.Jb f 3 1 35 _ (by kernel_rfl) rfl rfl
       refine Rp.JW (.pointer (some ⟨s,0,none⟩)) (Rp.Qe rfl) ?_ hK
       clear f hK
       go_simp
       try rfl
     refine Rp.QX.c (by rfl) (λa W Kc f b hK=>?_) ?_
     . have a1:=Rp.Jb f 3 2 36 _ (by kernel_rfl) rfl rfl
       refine Rp.JW (.pointer (some ⟨s,2,none⟩)) (Rp.Qe rfl) ?_ hK
       clear f hK
       go_simp
       try rfl
     refine Rp.QX.c (by rfl) (λa W Kc f b hK=>?_) ?_
     . have a0:=Rp.Jb f 3 3 37 _ (by kernel_rfl) rfl rfl;have b:W.cell? ⟨s,2,none⟩=some (.slice bc.ea (k+1) bc.ec):=b
       refine Rp.JW (.slice bc.ea (k+1) bc.ec) (Rp.Qe rfl) ?_ hK
       clear f hK
       go_simp
       try rfl
     refine Rp.QX.c (by rfl) (λa W Kc f b hK=>?_) ?_
     . have e0:a.tmps[0]?.getD undef=.pointer (some ⟨s,0,none⟩):=(Rp.ax_sm f 0 (by kernel_rfl)).trans rfl
       refine Rp.JW (.pointer (some ⟨s,0,none⟩)) (Rp.Qe rfl) ?_ hK
       clear f hK
       go_simp
       try rfl
     refine Rp.QX.c (by rfl) (λa W Kc f b hK=>?_) ?_
     . have ay:=Rp.Jb f 3 5 39 _ (by kernel_rfl) rfl rfl
       refine Rp.JW (.pointer (some ⟨s,0,none⟩)) (Rp.Qe rfl) ?_ hK
       clear f hK
       go_simp
       try rfl
     refine Rp.QX.c (by rfl) (λa W Kc f b hK=>?_) ?_
     . have ax:=Rp.Jb f 3 6 40 _ (by kernel_rfl) rfl rfl
       refine Rp.JW (.pointer (some ⟨s,2,none⟩)) (Rp.Qe rfl) ?_ hK
       clear f hK
       go_simp
       try rfl
     refine Rp.QX.c (by rfl) (λa W Kc f b hK=>?_) ?_
     . have aw:=Rp.Jb f 3 7 41 _ (by kernel_rfl) rfl rfl;have b:W.cell? ⟨s,2,none⟩=some (.slice bc.ea (k+1) bc.ec):=b
       refine Rp.JW (.slice bc.ea (k+1) bc.ec) (Rp.Qe rfl) ?_ hK
       clear f hK
       go_simp
       try rfl
     refine Rp.QX.c (by rfl) (λa W Kc f b hK=>?_) ?_
     . have av:=Rp.Jb f 3 8 42 _ (by kernel_rfl) rfl rfl
       refine Rp.JW (.int .i64 ((k:Int)+1)) (Rp.Qe rfl) ?_ hK
       clear f hK
       go_simp
       try rfl
     refine Rp.QX.c (by rfl) (λa W Kc f b hK=>?_) ?_
     . have au:=Rp.Jb f 3 9 43 _ (by kernel_rfl) rfl rfl;have af:IntKind.i64.wrap (k:Int)=k:=by rw [IntKind.wrap_i64];omega
       refine Rp.JW (.int .i64 (k:Int)) (Rp.Qe rfl) ?_ hK
       clear f hK
       go_simp
       try rfl
     refine Rp.QX.a (by rfl) (λa Kc f hK=>?_) ?_
     . have az:=Rp.Jb f 3 4 38 _ (by kernel_rfl) rfl rfl;have ar:=Rp.Jb f 3 10 44 _ (by kernel_rfl) rfl rfl;have ai:¬ bc.ec<k:=by omega
       refine Rp.JW (.slice bc.ea k bc.ec) (Rp.Qe rfl) ?_ (hK _ _ ⟨rfl,rfl⟩)
       clear f hK
       go_simp
       try rfl
     refine Rp.QX.c (by rfl) (λa W Kc f b hK=>?_) ?_
     . have a3:=Rp.Jb f 3 0 34 _ (by kernel_rfl) rfl rfl
       refine Rp.JW (.pointer (some ⟨s,0,none⟩)) (Rp.Qe rfl) ?_ hK
       clear f hK
       go_simp
       try rfl
     refine Rp.QX.c (by rfl) (λa W Kc f b hK=>?_) ?_
     . have aq:=Rp.Jb f 3 12 46 _ (by kernel_rfl) rfl rfl
       refine Rp.JW (.pointer (some ⟨s,2,none⟩)) (Rp.Qe rfl) ?_ hK
       clear f hK
       go_simp
       try rfl
     refine Rp.QX.e (by rfl) (λa W Kc f hK=>?_) Rp.QX.nil
     . have hA:=Rp.XF f 45 (by kernel_rfl);obtain ⟨Y,m⟩:∃ Y,a.eval (.tmp 45)=Y:=⟨_,rfl⟩;rw [m] at hA;obtain ⟨rfl,rfl⟩:=hA;have I:=(Rp.QW a 47).symm.trans (Rp.XI f 13 47 _ (by kernel_rfl) rfl);have J:a.tmps[45]?.getD undef=(.slice bc.ea k bc.ec):=(Rp.QW a 45).symm.trans m;have ea:=Rp.Xs f rfl m (by kernel_rfl) rfl
       simp only [Rp.Oe,List.set,Nat.reduceAdd] at ea
       refine Rp.JL (Rp.Qe rfl) (W':=({ q with drawn:=q.drawn+1 }:World).setCell ⟨s,2,none⟩ (.slice bc.ea k bc.ec)) ?hst (hK undef _ ?hen)
       case hst =>
        clear f hK ea
        go_simp
        try rfl
       case hen =>
        clear f hK I J;clear m;subst ea;have H8:=Hm H5.o;clear H5 b f5
        go_wp2_with fail
        go_end0
        refine ⟨rfl,.inr ⟨by omega,_,H8.o,?_⟩⟩
        first|rfl|simp
end Go.Proofs.YtedcmcdbejjgcaaGreat.Ms
