import Derived.Test.YtaccbbndmmhenaaGreatGab
import Derived.Test.YtaccbbndmmhenaaGreatGac
set_option linter.all false
set_option maxHeartbeats 400000000
set_option maxRecDepth 100000
namespace Go.Proofs
open Value renaming int->U,slice->S,string->Xs,agg->Ag
open IntKind renaming i64->O
open Ending renaming returned->Z
open Obj renaming cells->Fc
open Go renaming World->J,Calls->Ec,Value->Vu
open Go.RowKit renaming Below->Bw
open Tryz renaming prog->Q
open Tryz
open World renaming size_alloc->Mx,cell?_of_block->Kd,ownsRow_nil->Tq,frozen?_alloc_new->Tm,cell?->Pq,frozen?->Pz
open List renaming length->N
namespace YtaccbbndmmhenaaGreat
open Go.RowKit
variable {g:Int}{w wr w1:J}{pre:List Int}{G3 G4:Nat}{v x y:Vu}
theorem oneI (b:Int):∀u∈[Value.int O b],u.oneCell'=true:=by
 intro u a;simp at a;subst a;rfl
structure OT (w:J)(G3 G4:Nat)(v:Vu)(pre:List Int)(g:Int)(wr:J):Prop where
 own:wr.ownsRow (G4+1) 2 1 v (N pre) (I pre)
 t0:wr.cell? ⟨G4,0,none⟩=some v
 t1:wr.cell? ⟨G4,1,none⟩=some (S none 0 0)
 tf0:wr.frozen? ⟨G4,0,none⟩=false
 tf1:wr.frozen? ⟨G4,1,none⟩=false
 g3:wr.cell? ⟨G3,4,none⟩=some (U O g)
 r0:wr.cell? ⟨w.heap.size,0,none⟩=some (S none 0 0)
 r1:wr.cell? ⟨w.heap.size,1,none⟩=some (S none 0 0)
 rf0:wr.frozen? ⟨w.heap.size,0,none⟩=false
 rf1:wr.frozen? ⟨w.heap.size,1,none⟩=false
 bel:Bw w.heap.size w wr
 l1:w.heap.size<G3
 l2:G3<G4
 l3:G4<wr.heap.size
theorem OT.push {v':Vu}{x:Int}{o:Obj}(h:OT w G3 G4 v pre g wr)(B:w1.ownsRow (G4+1) 2 1 v' (N pre+1) (I pre++[U O x]))(l:(wr.alloc o).grownBy w1 v.ownBlock):OT w G3 G4 v' (pre++[x]) g (w1.setCell ⟨G4,0,none⟩ v')/\w1.cell? ⟨G4,0,none⟩=some v/\w1.frozen? ⟨G4,0,none⟩=false:=by
 have z:=h.l1;have p:=h.l2;have F:=h.l3;have sz:=l.size;simp only[Mx]at sz;have m:∀b,b<=G4->w1.heap[b]?=wr.heap[b]?:=λb hbb=>by rw[l.block b (by simp;omega) (λe=>by have:=(h.own.lt b e.symm).1;omega)];exact QN wr o b (by omega)
 have t:∀b o,b<=G4->w1.cell? ⟨b,o,none⟩=wr.cell? ⟨b,o,none⟩:=λb o hbb=>Kd (m b hbb);have s:∀b o,b<=G4->w1.frozen? ⟨b,o,none⟩=wr.frozen? ⟨b,o,none⟩:=λb o hbb=>World.frozen?_of_block (m b hbb);have y:w1.cell? ⟨G4,0,none⟩=some v:=by rw[t _ _ lRz];exact h.t0
 have q:∀b,b≠G4->(w1.setCell ⟨G4,0,none⟩ v').heap[b]?=w1.heap[b]?:=λb hbb=>Below.heap_setCell _ _ _ _ hbb;have c:∀b o,b<G4->(w1.setCell ⟨G4,0,none⟩ v').cell? ⟨b,o,none⟩=wr.cell? ⟨b,o,none⟩:=λb o hbb=>Kd ((q b (by omega)).trans (m b (by omega)));have a:∀b o,b<=G4->(w1.setCell ⟨G4,0,none⟩ v').frozen? ⟨b,o,none⟩=wr.frozen? ⟨b,o,none⟩:=λb o hbb=>by rw[World.frozen?_setCell];exact s b o hbb
 have d:(w1.setCell ⟨G4,0,none⟩ v').ownsRow (G4+1) 2 1 v' (pre++[x]).length (I (pre++[x])):=by
  have u:w1.ownsRow (G4+1) 2 1 v' (pre++[x]).length (I (pre++[x])):=by simpa using B
  refine⟨u.1,?_⟩;rcases u.2 with E|⟨g,cap,n,A,D,C,r⟩
  . exact .inl E
  exact .inr ⟨g,cap,n,A,D,(q g (by omega)).trans C,r⟩
 have f:Bw w.heap.size w (w1.setCell ⟨G4,0,none⟩ v'):=Below.setCell (((h.bel.alloc h.bel.size o).grown l (by have:=h.bel.size;simp;omega) (λj hj=>by have:=(h.own.lt j hj).1;omega))) (by show w.heap.size<=G4;omega) _;have k:w1.cell? ⟨G4,1,none⟩=some (S none 0 0):=by rw[t _ _ lRz];exact h.t1
 refine⟨⟨d,World.cell?_setCell_same _ _ _ y,?_,?_,?_,?_,?_,?_,?_,?_,f,z,p,by simp;omega⟩,y,by rw[s _ _ lRz];exact h.tf0⟩
 . rw[World.cell?_setCell_other _ _ _ _ (λhj=>by simp at hj)];exact k
 . rw[a _ _ lRz];exact h.tf0
 . rw[a _ _ lRz];exact h.tf1
 . rw[c _ _ p];exact h.g3
 . rw[c _ _ (by omega)];exact h.r0
 . rw[c _ _ (by omega)];exact h.r1
 . rw[a _ _ (by omega)];exact h.rf0
 rw[a _ _ (by omega)];exact h.rf1
theorem ix44_0 (a b:Int)(w:J):(Instr.index 318 (Ag #[U O a,U O b]) (U O 0)).run Q w=.ok (U O a) w:=by kernel_rfl
theorem ix44_1 (a b:Int)(w:J):(Instr.index 318 (Ag #[U O a,U O b]) (U O 1)).run Q w=.ok (U O b) w:=by kernel_rfl
theorem ix44 (a b:Int)(k:Nat)(c:k<2)(w:J):(Instr.index 318 (Ag #[U O a,U O b]) (U O k)).run Q w=.ok (U O ([a,b].getD k 0)) w:=by
 match k,c with
 |0,_=>exact ix44_0 a b w
 |1,_=>exact ix44_1 a b w
def nz (xs:List Int):List Int:=xs.filter λx=>x != 0
theorem nz_step (a b:Int)(k:Nat)(c:k<2):nz ([a,b].take (k+1))=nz ([a,b].take k)++(if [a,b].getD k 0=0 then []else [[a,b].getD k 0]):=by
 match k,c with
 |0,_=>by_cases h:a=0<;>simp[nz,h]
 |1,_=>by_cases h:a=0<;>by_cases d:b=0<;>simp[nz,h,d]
theorem nz_len (xs:List Int):(nz xs).length<=N xs:=List.length_filter_le _ _
theorem OT.start (r:Row)(j:Bw (w.alloc (Fc #[S none 0 0,S none 0 0] 76)).heap.size (w.alloc (Fc #[S none 0 0,S none 0 0] 76)) w1):OT w w1.heap.size (w1.heap.size+1) (S none 0 0) [] r.g ((w1.alloc (Fc #[Xs r.nm,U O r.f,U O r.a,U O r.b,U O r.g] 320)).alloc (Fc #[S none 0 0,S none 0 0] 76)):=by
 have l:w.heap.size<(w.alloc (Fc #[S none 0 0,S none 0 0] 76)).heap.size:=by simp
 have k:=j.size;simp only[Mx]at k;have d:(w1.alloc (Fc #[Xs r.nm,U O r.f,U O r.a,U O r.b,U O r.g] 320)).heap.size=w1.heap.size+1:=by simp
 have c:((w1.alloc (Fc #[Xs r.nm,U O r.f,U O r.a,U O r.b,U O r.g] 320)).alloc (Fc #[S none 0 0,S none 0 0] 76)).heap[w.heap.size]?=some (Fc #[S none 0 0,S none 0 0] 76):=by rw[QN _ _ _ (by simp;omega),QN _ _ _ (by omega),j.block _ l];exact heap_new _ _
 refine⟨Tq _ _ _ _,Qe d.symm rfl,Qe d.symm rfl,?_,?_,?_,?_,?_,?_,?_,?_,by omega,by omega,by simp⟩
 . rw[<- d];exact Tm _ _ _ _
 . rw[<- d];exact Tm _ _ _ _
 . rw[World.cell?_alloc_past _ _ _ (by simp)];exact Qe rfl rfl
 . simp only[Pq,c];rfl
 . simp only[Pq,c];rfl
 . simp only[Pz,c];rfl
 . simp only[Pz,c];rfl
 exact((up1 j).alloc (by omega) _).alloc (by simp;omega) _
theorem FT.sets {C:Nat}{p r:Vu}{n m:Nat}{xs f:List Int}(h:FT w1 (w.heap.size+1) C p r n m xs f)(s:w.heap.size+1<=w1.heap.size)(d:Bw w.heap.size w w1)(j:C=w1.heap.size):FT ((w1.setCell ⟨w.heap.size,0,none⟩ x).setCell ⟨w.heap.size,1,none⟩ y) w.heap.size ((w1.setCell ⟨w.heap.size,0,none⟩ x).setCell ⟨w.heap.size,1,none⟩ y).heap.size p r n m xs f/\Bw w.heap.size w ((w1.setCell ⟨w.heap.size,0,none⟩ x).setCell ⟨w.heap.size,1,none⟩ y):=by
 have l:∀b,b≠w.heap.size->((w1.setCell ⟨w.heap.size,0,none⟩ x).setCell ⟨w.heap.size,1,none⟩ y).heap[b]?=w1.heap[b]?:=λb hb=>(Below.heap_setCell _ _ _ _ hb).trans (Below.heap_setCell _ _ _ _ hb);have own:∀{v:Vu} {n:Nat} {a:List Vu},w1.ownsRow (w.heap.size+1) 2 1 v n a->((w1.setCell ⟨w.heap.size,0,none⟩ x).setCell ⟨w.heap.size,1,none⟩ y).ownsRow w.heap.size 2 1 v n a:=by
  intro v n a h;refine⟨h.1,?_⟩;rcases h.2 with q|⟨g,cap,c,k,t,o,r⟩
  . exact .inl q
  exact .inr ⟨g,cap,c,k,by omega,(l g (by omega)).trans o,r⟩
 exact⟨⟨own h.hp,own h.hr,h.ne,by simp;rw[<- j];exact h.ltp,by simp;rw[<- j];exact h.ltr,lRz⟩,(d.setCell lRz _).setCell lRz _⟩
theorem OT.fin2 (h:OT w G3 G4 v pre g wr):FT ((wr.setCell ⟨w.heap.size,0,none⟩ x).setCell ⟨w.heap.size,1,none⟩ y) w.heap.size ((wr.setCell ⟨w.heap.size,0,none⟩ x).setCell ⟨w.heap.size,1,none⟩ y).heap.size v (S none 0 0) (N pre) 0 pre []/\Bw w.heap.size w ((wr.setCell ⟨w.heap.size,0,none⟩ x).setCell ⟨w.heap.size,1,none⟩ y):=by
 have l:=h.l1;have k:=h.l2;have f:=h.l3;refine FT.sets (C:=wr.heap.size) ⟨?_,Tq _ _ _ _,?_,own_lt h.own,?_,lRz⟩ (by omega) h.bel rfl
 . refine⟨h.own.1,?_⟩;rcases h.own.2 with d|⟨g,cap,b,c,m,r⟩
   . exact .inl d
   exact .inr ⟨g,cap,b,c,by omega,r⟩
 . intro i j _ a;cases a
 intro j a;cases a
theorem OT.fin3 {z:Vu}(h:OT w G3 G4 v pre g wr):FT ((((wr.setCell ⟨G4,1,none⟩ x).setCell ⟨w.heap.size,0,none⟩ y).setCell ⟨w.heap.size,1,none⟩ z).alloc (Fc #[U O g] 2)) w.heap.size ((((wr.setCell ⟨G4,1,none⟩ x).setCell ⟨w.heap.size,0,none⟩ y).setCell ⟨w.heap.size,1,none⟩ z).alloc (Fc #[U O g] 2)).heap.size v (S (some ⟨wr.heap.size,0,none⟩) 1 1) (N pre) [g].length pre [g]/\Bw w.heap.size w ((((wr.setCell ⟨G4,1,none⟩ x).setCell ⟨w.heap.size,0,none⟩ y).setCell ⟨w.heap.size,1,none⟩ z).alloc (Fc #[U O g] 2)):=by
 have A:=h.l1;have u:=h.l2;have t:=h.l3;obtain⟨W,d⟩:∃W,W=((wr.setCell ⟨G4,1,none⟩ x).setCell ⟨w.heap.size,0,none⟩ y).setCell ⟨w.heap.size,1,none⟩ z:=⟨_,rfl⟩;have o:∀b,b≠w.heap.size->b≠G4->W.heap[b]?=wr.heap[b]?:=λb hb hb'=>by rw[d];exact(Below.heap_setCell _ _ _ _ hb).trans ((Below.heap_setCell _ _ _ _ hb).trans (Below.heap_setCell _ _ _ _ hb'))
 have f:W.heap.size=wr.heap.size:=by rw[d];simp
 have l:Bw w.heap.size w W:=by rw[d];exact((h.bel.setCell (by show w.heap.size<=G4;omega) _).setCell lRz _).setCell lRz _
 rw[<- d];have n:W.ownsRow w.heap.size 2 1 v (N pre) (I pre):=by
  refine⟨h.own.1,?_⟩;rcases h.own.2 with s|⟨g,cap,k,m,B,q,r⟩
  . exact .inl s
  exact .inr ⟨g,cap,k,m,by omega,(o g (by omega) (by omega)).trans q,r⟩
 have a:=own_lt h.own;refine⟨⟨n.alloc _,?_,?_,?_,?_,lRz⟩,l.alloc (by omega) _⟩
 . have:=World.ownsRow_lit (base:=w.heap.size) (e:=2) (size:=1) W #[U O g] 1 (by omega) (by unfold maxLen;omega) rfl;rw[f]at this;exact this
 . intro i j p c;cases c;have:=a i p;show i≠wr.heap.size;omega
 . intro j c;have:=a j c;simp[f];omega
 intro j c;cases c;show wr.heap.size<_;simp[f]
theorem own_slice {B:Nat}{n:Nat}{b:List Vu}(h:w.ownsRow B 2 1 v n b):∃a c,v=S a n c:=by
 rcases h.2 with ⟨e,f⟩|⟨g,cap,j,d,_⟩
 . rw[f];exact⟨_,_,e⟩
 exact⟨_,_,d⟩
theorem OT.skip (h:OT w G3 G4 v pre g wr):OT w G3 G4 v (pre++[]) g wr:=by simpa using h
theorem itype_c (op:Int)(w:J):Ec Q 272 #[U O op] w λe w'=>∃p r,e=Z (Ag #[p,r])/\FT w' w.heap.size w'.heap.size p r (nz [(Qa op).a,(Qa op).b]).length (nz [(Qa op).g]).length (nz [(Qa op).a,(Qa op).b]) (nz [(Qa op).g])/\Bw w.heap.size w w':=by
 have X:=Hm (find_c op (w.alloc (Fc #[S none 0 0,S none 0 0] 76)));generalize Qa op=r at *;obtain⟨i0,hi,C,B,A⟩:=info_parts info2;have l:=ix44 r.a r.b;go_enter func272,ntmps272;go_wp2_with fail
 refine X.o.mono ?_;rintro e w1 ⟨rfl,Y⟩;have u:=OT.start r Y;clear Y;go_wp2_with fail
 go_loopw [11] (λi wr=>∃k:Nat,k<=2/\i=U O k/\∃v,OT w w1.heap.size (w1.heap.size+1) v (nz ([r.a,r.b].take k)) r.g wr) (λi _=>2-(intOf i).toNat)
 case atStart=>exact⟨0,by omega,rfl,_,u⟩
 obtain⟨k,hk,rfl,v,c⟩:=hrel;clear u X;by_cases s:k<2
 . (have ap:(k:Int)<2:=by omega);have hx:=l k s;have q:=nz_step r.a r.b k s;have ao:(nz (List.take k [r.a,r.b])).length<=2:=Nat.le_trans (nz_len _) (by simp;omega);generalize List.getD [r.a,r.b] k 0=x at hx q;generalize nz (List.take k [r.a,r.b])=pre at *;by_cases j:x=0
   . subst j;rw[if_pos rfl]at q;have I:=Hm q;have m:=Hm c;clear q c l;go_wp2;(go_roundw);(case rel=>exact⟨k+1,by omega,by go_num,v,by rw[I.o];exact m.o.skip⟩);case measure=>simp[intOf];omega
   rw[if_neg j]at q;(have H:(x==0)=false:=by simpa using j);(have aa:(x != 0)=true:=by simpa using j);have I:=Hm q;have m:=Hm c;have own:=c.own;have L:=c.t0;have V:=c.l3;clear q c l;(go_wp2_with (at_builtin;refine wpList_append_own _ rfl _ _ 24 rfl (w1.heap.size+1+1) 2 i0 (U O 0) 1 8 underlying24 hi C B A rfl (by decide) _ _ _ rfl (own.alloc _) ⟨wr.heap.size,0,none⟩ 1 1 [U O x] rfl rfl (cell_one_new _ _ _) (oneI _) (by unfold maxLen;omega) (by omega) (by simp;omega) ?_;intro v' w2 d f E;have t:=Hm (m.o.push d f);have c0:=t.o.2.1;have cf:=t.o.2.2;obtain⟨va,z,rfl⟩:=own_slice d;clear d f E own L V m));(go_roundw);(case rel=>exact⟨k+1,by omega,by go_num,_,by rw[I.o];exact t.o.1⟩);case measure=>simp[intOf];omega
 have F:k=2:=by omega
 subst F;have e2:List.take 2 [r.a,r.b]=[r.a,r.b]:=rfl;rw[e2]at c;obtain⟨y,n⟩:∃y,y=nz [r.a,r.b]:=⟨_,rfl⟩;rw[<- n]at c;have HX:=Hm n;clear n;obtain⟨va,z,rfl,_⟩:=XQ c.own;have m:=Hm c;have L:=c.t0;have t1:=c.t1;have ad:=c.tf1;have g3:=c.g3;have R:=c.r0;have M:=c.r1;have af:=c.rf0;have ae:=c.rf1;have l1:=c.l1;have V:=c.l3;clear c l s e2;by_cases j:r.g=0
 . rw[j]at g3;(have D:nz [r.g]=[]:=by simp[nz,j]);rw[j]at m;go_wp2;exact bodyPost_ret (v:=Ag #[S va (N y) z,S none 0 0]) (by simp[results,results272,go_sem,R,M]) rfl ⟨_,_,rfl,by rw[D,<- HX.o];exact m.o.fin2⟩
 have H:(r.g != 0)=true:=by simpa using j
 have q1:w.heap.size≠w1.heap.size+1:=by omega
 have q2:w1.heap.size+1≠w.heap.size:=by omega
 have q3:w.heap.size<wr.heap.size:=by omega
 have D:nz [r.g]=[r.g]:=by simp[nz,j]
 go_wp2;exact bodyPost_ret (v:=Ag #[S va (N y) z,S (some ⟨wr.heap.size,0,none⟩) 1 1]) (by simp[results,results272,go_sem,R,M,q1,q2,q3]) rfl ⟨_,_,rfl,by rw[D,<- HX.o];exact m.o.fin3⟩
