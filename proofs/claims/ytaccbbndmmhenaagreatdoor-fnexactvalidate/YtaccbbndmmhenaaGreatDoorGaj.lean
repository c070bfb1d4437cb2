import Derived.Test.YtaccbbndmmhenaaGreatDoorGaa
set_option linter.all false
set_option maxHeartbeats 400000000
set_option maxRecDepth 100000
namespace Go.Proofs
open Value renaming int->U,slice->S,bool->G,agg->Ag
open IntKind renaming i64->O
open Ending renaming returned->Z
open Go renaming World->J,Calls->Ec,Value->Vu
open Tryz renaming prog->Q
open Tryz
open List renaming length->N
namespace YtaccbbndmmhenaaGreatDoor.Va
open Go.RowKit
def Xk (n:Nat)(i:Int):Bool:=decide (0<=i)&&decide (i<n)
theorem XZ (a:Option Addr)(n c:Nat)(i:Int)(w:J):Ec Q 198 #[S a n c,U O i] w λe w'=>e=Z (G (Xk n i))/\w=w':=by
 go_enter func198,ntmps198;go_wp2
 all_goals
  go_ret
  exact⟨by(first|(simp[Xk];omega)|simp_all[Xk]),rfl⟩
theorem hi_GlobalType (a:Option Addr)(n c:Nat)(i:Int)(w:J):Ec Q 231 #[S a n c,U O i] w λe w'=>e=Z (G (Xk n i))/\w=w':=by
 go_enter func231,ntmps231;go_wp2
 all_goals
  go_ret
  exact⟨by(first|(simp[Xk];omega)|simp_all[Xk]),rfl⟩
theorem hi_validBlock (a:Option Addr)(n c:Nat)(i:Int)(w:J):Ec Q 249 #[S a n c,U O i] w λe w'=>e=Z (G (Xk n i))/\w=w':=by
 go_enter func249,ntmps249;go_wp2
 all_goals
  go_ret
  exact⟨by(first|(simp[Xk];omega)|simp_all[Xk]),rfl⟩
theorem hi_int64 (a:Option Addr)(n c:Nat)(i:Int)(w:J):Ec Q 258 #[S a n c,U O i] w λe w'=>e=Z (G (Xk n i))/\w=w':=by
 go_enter func258,ntmps258;go_wp2
 all_goals
  go_ret
  exact⟨by(first|(simp[Xk];omega)|simp_all[Xk]),rfl⟩
end YtaccbbndmmhenaaGreatDoor.Va
namespace YtaccbbndmmhenaaGreatDoor
open Go.RowKit
theorem oneI (b:Int):∀u∈[Value.int O b],u.oneCell'=true:=by
 intro u a;simp at a;subst a;rfl
structure OT (w:J)(G3 G4:Nat)(v:Vu)(pre:List Int)(g:Int)(wr:J):Prop where
 own:wr.ownsRow (G4+1) 2 1 v (N pre) (I pre)
 t0:wr.cell? ⟨G4,0,none⟩=some v
 t1:wr.cell? ⟨G4,1,none⟩=some (S none 0 0)
 tf0:wr.frozen? ⟨G4,0,none⟩=false
 tf1:wr.frozen? ⟨G4,1,none⟩=false
 g3:wr.cell? ⟨G3,4,none⟩=some (U O g)
 r0:wr.cell? ⟨w.heap.size,0,none⟩=some (S none 0 0)
 r1:wr.cell? ⟨w.heap.size,1,none⟩=some (S none 0 0)
 rf0:wr.frozen? ⟨w.heap.size,0,none⟩=false
 rf1:wr.frozen? ⟨w.heap.size,1,none⟩=false
 bel:Below w.heap.size w wr
 l1:w.heap.size<G3
 l2:G3<G4
 l3:G4<wr.heap.size
theorem OT.push {w d w1:J}{C a:Nat}{v v':Vu}{pre:List Int}{g x:Int}{o:Obj}(h:OT w C a v pre g d)(H:w1.ownsRow (a+1) 2 1 v' (N pre+1) (I pre++[U O x]))(n:(d.alloc o).grownBy w1 v.ownBlock):OT w C a v' (pre++[x]) g (w1.setCell ⟨a,0,none⟩ v')/\w1.cell? ⟨a,0,none⟩=some v/\w1.frozen? ⟨a,0,none⟩=false:=by
 have E:=h.l1;have t:=h.l2;have V:=h.l3;have D:=n.size;simp only[World.size_alloc]at D;have p:∀b,b<=a->w1.heap[b]?=d.heap[b]?:=λb hbb=>by rw[n.block b (by simp;omega) (λe=>by have:=(h.own.lt b e.symm).1;omega)];exact QM d o b (by omega)
 have z:∀b o,b<=a->w1.cell? ⟨b,o,none⟩=d.cell? ⟨b,o,none⟩:=λb o hbb=>World.cell?_of_block (p b hbb);have y:∀b o,b<=a->w1.frozen? ⟨b,o,none⟩=d.frozen? ⟨b,o,none⟩:=λb o hbb=>World.frozen?_of_block (p b hbb);have B:w1.cell? ⟨a,0,none⟩=some v:=by rw[z _ _ lRz];exact h.t0
 have u:∀b,b≠a->(w1.setCell ⟨a,0,none⟩ v').heap[b]?=w1.heap[b]?:=λb hbb=>Below.heap_setCell _ _ _ _ hbb;have f:∀b o,b<a->(w1.setCell ⟨a,0,none⟩ v').cell? ⟨b,o,none⟩=d.cell? ⟨b,o,none⟩:=λb o hbb=>World.cell?_of_block ((u b (by omega)).trans (p b (by omega)));have c:∀b o,b<=a->(w1.setCell ⟨a,0,none⟩ v').frozen? ⟨b,o,none⟩=d.frozen? ⟨b,o,none⟩:=λb o hbb=>by rw[World.frozen?_setCell];exact y b o hbb
 have k:(w1.setCell ⟨a,0,none⟩ v').ownsRow (a+1) 2 1 v' (pre++[x]).length (I (pre++[x])):=by
  have A:w1.ownsRow (a+1) 2 1 v' (pre++[x]).length (I (pre++[x])):=by simpa using H
  refine⟨A.1,?_⟩;rcases A.2 with R|⟨g,s,q,F,M,L,r⟩
  . exact .inl R
  exact .inr ⟨g,s,q,F,M,(u g (by omega)).trans L,r⟩
 have l:Below w.heap.size w (w1.setCell ⟨a,0,none⟩ v'):=Below.setCell (((h.bel.alloc h.bel.size o).grown n (by have:=h.bel.size;simp;omega) (λj hj=>by have:=(h.own.lt j hj).1;omega))) (by show w.heap.size<=a;omega) _;have m:w1.cell? ⟨a,1,none⟩=some (S none 0 0):=by rw[z _ _ lRz];exact h.t1
 refine⟨⟨k,World.cell?_setCell_same _ _ _ B,?_,?_,?_,?_,?_,?_,?_,?_,l,E,t,by simp;omega⟩,B,by rw[y _ _ lRz];exact h.tf0⟩
 . rw[World.cell?_setCell_other _ _ _ _ (λhj=>by simp at hj)];exact m
 . rw[c _ _ lRz];exact h.tf0
 . rw[c _ _ lRz];exact h.tf1
 . rw[f _ _ t];exact h.g3
 . rw[f _ _ (by omega)];exact h.r0
 . rw[f _ _ (by omega)];exact h.r1
 . rw[c _ _ (by omega)];exact h.rf0
 rw[c _ _ (by omega)];exact h.rf1
theorem ix44_0 (a b:Int)(w:J):(Instr.index 339 (Ag #[U O a,U O b]) (U O 0)).run Q w=.ok (U O a) w:=by kernel_rfl
theorem ix44_1 (a b:Int)(w:J):(Instr.index 339 (Ag #[U O a,U O b]) (U O 1)).run Q w=.ok (U O b) w:=by kernel_rfl
theorem ix44 (a b:Int)(k:Nat)(c:k<2)(w:J):(Instr.index 339 (Ag #[U O a,U O b]) (U O k)).run Q w=.ok (U O ([a,b].getD k 0)) w:=by
 match k,c with
 |0,_=>exact ix44_0 a b w
 |1,_=>exact ix44_1 a b w
def nz (xs:List Int):List Int:=xs.filter λx=>x != 0
theorem nz_step (a b:Int)(k:Nat)(c:k<2):nz ([a,b].take (k+1))=nz ([a,b].take k)++(if [a,b].getD k 0=0 then []else [[a,b].getD k 0]):=by
 match k,c with
 |0,_=>by_cases h:a=0<;>simp[nz,h]
 |1,_=>by_cases h:a=0<;>by_cases d:b=0<;>simp[nz,h,d]
theorem nz_len (xs:List Int):(nz xs).length<=N xs:=List.length_filter_le _ _
