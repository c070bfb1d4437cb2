import Derived.Test.YtejkdbnngphgaaaGreatDoorGay
import Derived.Test.YtejkdbnngphgaaaGreatDoorGax
import Derived.Laws.EntriesVeiled
set_option linter.all false
set_option maxHeartbeats 400000000
set_option maxRecDepth 100000
namespace Go.Proofs
open Value renaming int->U,slice->S,bool->G,pointer->Yp,string->Xs,agg->Ag
open IntKind renaming i64->O
open Ending renaming returned->Z
open Obj renaming cells->Fc
open Go renaming World->J,Calls->Ec,Value->Vu,Addr->Ad
open Go.RowKit renaming Below->Bw
open Tryz renaming prog->Q
open Tryz
open RowKit.Below renaming heap_setCell->Hk
open List renaming getElem?_set_ne->Kz,length_nil->Kg,length_cons->Kj,perm_middle->Hn,foldl_cons->Km,foldl_nil->Tq,cons_append->Tv,length_append->Kb,append_assoc->Kd,length->N
open Nat renaming le_trans->Kf,le_of_lt->Lv,le_refl->Cg,zero_add->Kk
open IntKind renaming wrap_i64->Kw
open Value renaming oneCell'->Hq,string->Pw
open Option renaming map_some->Lw,isSome_map->Hf
open List.Perm renaming trans->Ly,cons->Tp,append_right->Mg
namespace YtejkdbnngphgaaaGreatDoor.Yz
open Go.RowKit Go.Sort
variable {W1 V:J}{m:List Bool}{rs:List Qb}{R q:Nat}{u:Vu}
abbrev Q9 (v:Vu)(n:List Bool):Qb:=⟨4,1,N n,v,Bs n⟩
section
variable {W1 V V':J}{R q:Nat}{cells:List Vu}{rs:List Qb}{v v':Vu}{n:List Bool}{z:Bool}
theorem Ln.npush {o:Obj}(h:Ln W1 R q cells (Q9 v n::rs) V)(hc:cells[15]?=some v)(d:V'.ownsRow R 4 1 v' (N n+1) (Bs n++[G z]))(hg:(V.alloc o).grownBy V' v.ownBlock)(hl:v'.ownBlock=v.ownBlock\/v'.ownBlock=some (V.alloc o).heap.size):Ln W1 R q (cells.set 15 v') (Q9 v' (n++[z])::rs) (V'.setCell ⟨R,15,none⟩ v')/\(V'.setCell ⟨R,15,none⟩ v').heap[q]?=V.heap[q]?/\V'.cell? ⟨R,15,none⟩=some v/\V'.frozen? ⟨R,15,none⟩=false:=by
 have a:Bw V.heap.size V (V.alloc o):=bFz.alloc lRz o;have c:=h.below a;have b:Ln W1 R q cells (Q9 v' (n++[z])::rs) V':=c.push hg (by show World.ownsRow _ _ _ _ _ _ _;simpa using d) hl;obtain⟨c0,f⟩:=b.s.cell 15 hc;refine⟨b.set 15 v',?_,c0,f⟩;rw[Hk _ _ _ _ (λe=>h.qR (by simp at e;rw[e]))];rw[hg.block q c.ql (λe=>h.qn (QF.2 ⟨_,mS ..,e.symm⟩))];exact a.block q h.ql
def Stp (W1:J)(R q:Nat)(cells:List Vu)(rs:List Qb)(V:J)(n:List Bool)(op:Int)(e:Ending)(w':J):Prop:=e=Z (G (Q0 n op).isSome)/\(∀n',Q0 n op=some n'->∃v',Ln W1 R q (cells.set 15 v') (Q9 v' n'::rs) w')/\(Q0 n op=none->w'=V)/\w'.heap[q]?=V.heap[q]?
theorem Ln.set_self (h:Ln W1 R q cells rs V)(hc:cells[15]?=some v):Ln W1 R q (cells.set 15 v) rs V:=by
 have:cells.set 15 v=cells:=by
  apply List.ext_getElem? ;intro i;by_cases e:i=15
  . subst e;rw[List.getElem?_set_self (by have:=h.s.len;omega),hc]
  rw[Kz (Ne.symm e)]
 rw[this];exact h
theorem nfacts (h:Ln W1 R q cells (Q9 v (m++[z])::rs) V)(hc:cells[15]?=some v):∃r a,v=S (some ⟨r,0,none⟩) (N m+1) a/\r<V.heap.size/\N m+1<=a/\r≠R/\r≠q/\V.cell? ⟨r,N m,none⟩=some (G z)/\V.frozen? ⟨r,N m,none⟩=false/\V.cell? ⟨R,15,none⟩=some (S (some ⟨r,0,none⟩) (N m+1) a)/\V.frozen? ⟨R,15,none⟩=false /\ V.ownsRow R 4 1 (S (some ⟨r,0,none⟩) (N m+1) a) (N m+1) (Bs (m++[z])):=by
 have own:V.ownsRow R 4 1 v (m++[z]).length (Bs (m++[z])):=h.s.own.tail.head;rw[show(m++[z]).length=N m+1 by simp]at own;obtain⟨c0,f⟩:=h.s.cell 15 hc;obtain⟨r,a,rfl,g,d,c⟩:=ownE_split own (by omega);have b:r∈blk (Q9 (S (some ⟨r,0,none⟩) (N m+1) a) (m++[z])::rs):=QF.2 ⟨_,mS ..,rfl⟩;refine⟨r,a,rfl,d,c,λe=>h.s.nR (e ▸ b),λe=>h.qn (e ▸ b),?_,own.frozenAt _,c0,f,own⟩;rw[own.cellAt (N m) (by omega)];simp
theorem Ln.nset {r b:Nat}(h:Ln W1 R q cells (Q9 (S (some ⟨r,0,none⟩) (N m+1) b) (m++[z])::rs) V)(a:Bool):Ln W1 R q cells (Q9 (S (some ⟨r,0,none⟩) (N m+1) b) (m++[a])::rs) (V.setCell ⟨r,N m,none⟩ (G a)):=by
 have own:V.ownsRow R 4 1 (S (some ⟨r,0,none⟩) (N m+1) b) (m++[z]).length (Bs (m++[z])):=h.s.own.tail.head;rw[show(m++[z]).length=N m+1 by simp]at own;obtain⟨c,_⟩:=own.stored (N m) (G a);refine h.push (JF V r (N m) (G a)) ?_ (.inl rfl);have e:(Bs (m++[z])).set (N m) (G a)=Bs (m++[a]):=by simp only[Bs,List.map_append,List.map_cons,List.map_nil];rw[List.set_append_right _ _ (by simp)];simp
 rw[e]at c;show(V.setCell ⟨r,N m,none⟩ (G a)).ownsRow R 4 1 (S (some ⟨r,0,none⟩) (N m+1) b) (m++[a]).length (Bs (m++[a]));rw[show(m++[a]).length=N m+1 by simp];exact c
theorem Ln.ndrop {r a:Nat}(h:Ln W1 R q cells (Q9 (S (some ⟨r,0,none⟩) (N m+1) a) (m++[z])::rs) V):Ln W1 R q (cells.set 15 (S (some ⟨r,0,none⟩) (N m) a)) (Q9 (S (some ⟨r,0,none⟩) (N m) a) m::rs) (V.setCell ⟨R,15,none⟩ (S (some ⟨r,0,none⟩) (N m) a)):=by
 have own:V.ownsRow R 4 1 (S (some ⟨r,0,none⟩) (N m+1) a) (m++[z]).length (Bs (m++[z])):=h.s.own.tail.head;rw[show(m++[z]).length=N m+1 by simp]at own;have o2:=ownE_take own;have e:(Bs (m++[z])).take (N m)=Bs m:=by simp[Bs]
 rw[e]at o2;exact(h.push (r':=Q9 (S (some ⟨r,0,none⟩) (N m) a) m) (World.grownBy.refl _ _) o2 (.inl rfl)).set 15 _
end
section
variable (W1:J) (R q:Nat) (cells:List Vu) (rs:List Qb) (v:Vu) (V:J)
theorem rstep_nil (op:Int)(h:Ln W1 R q cells (Q9 v []::rs) V)(hc:cells[15]?=some v):Ec Q 109 #[Yp (some ⟨R,15,none⟩),U O op] V λe w'=>e=Z (G false)/\w'=V:=by
 obtain⟨a,c,rfl⟩:=QL (show V.ownsRow R 4 1 v 0 (Bs [])from h.s.own.tail.head);have c0:=(h.s.cell 15 hc).1;clear h hc;have H:=Hm (Ji a 0 c);go_enter func109,ntmps109;go_wp2_with (refine(H.o _).mono ?_;rintro e b ⟨rfl,rfl⟩)
 go_ret;exact⟨rfl,rfl⟩
theorem rstep_push (n:List Bool)(op:Int)(h:Ln W1 R q cells (Q9 v n::rs) V)(hc:cells[15]?=some v)(B:n≠[])(hl:N n<=4194304)(l:op=2\/op=3\/op=4):Ec Q 109 #[Yp (some ⟨R,15,none⟩),U O op] V λe w'=>∃v',e=Z (G true)/\Ln W1 R q (cells.set 15 v') (Q9 v' (n++[op==4])::rs) w'/\w'.heap[q]?=V.heap[q]?:=by
 have u:0<N n:=List.length_pos_iff.2 B;have own:V.ownsRow R 4 1 v (N n) (Bs n):=h.s.own.tail.head;obtain⟨a,c,rfl⟩:=QL own;have c0:=(h.s.cell 15 hc).1;have C:R<=V.heap.size:=Kf (Lv h.s.lt) h.s.gr.size;have k:=Hm h;have m:=Hm hc;have H:=Hm (Ji a (N n) c);have y:decide (N n=0)=false:=by simp;omega
 rw[y]at H;clear h y hc;have D:IntKind.i64.wrap ((N n:Int)-1)=(N n:Int)-1:=by rw[Kw];omega
 rcases l with rfl|rfl|rfl
 . go_enter func109,ntmps109;(go_wp2_with (first|(refine(H.o _).mono ?_;rintro e r ⟨rfl,rfl⟩)|(at_builtin;refine wal info4 (own.alloc _) [G false] (cell_one_new _ _ _) (oneV _) ?_;intro v' p b d j g;have f:=Hm (k.o.npush m.o b d g);have A:=f.o.2.2.1;have z:=f.o.2.2.2;obtain⟨va,t,rfl⟩:=QL b;clear b d j g own c0 k)));go_ret;exact⟨_,rfl,f.o.1,f.o.2.1⟩
 . go_enter func109,ntmps109;(go_wp2_with (first|(refine(H.o _).mono ?_;rintro e r ⟨rfl,rfl⟩)|(at_builtin;refine wal info4 (own.alloc _) [G false] (cell_one_new _ _ _) (oneV _) ?_;intro v' p b d j g;have f:=Hm (k.o.npush m.o b d g);have A:=f.o.2.2.1;have z:=f.o.2.2.2;obtain⟨va,t,rfl⟩:=QL b;clear b d j g own c0 k)));go_ret;exact⟨_,rfl,f.o.1,f.o.2.1⟩
 go_enter func109,ntmps109;go_wp2_with (first|(refine(H.o _).mono ?_;rintro e r ⟨rfl,rfl⟩)|(at_builtin;refine wal info4 (own.alloc _) [G true] (cell_one_new _ _ _) (oneV _) ?_;intro v' p b d j g;have f:=Hm (k.o.npush m.o b d g);have A:=f.o.2.2.1;have z:=f.o.2.2.2;obtain⟨va,t,rfl⟩:=QL b;clear b d j g own c0 k))
 go_ret;exact⟨_,rfl,f.o.1,f.o.2.1⟩
theorem rstep_else (m:List Bool)(z:Bool)(h:Ln W1 R q cells (Q9 v (m++[z])::rs) V)(hc:cells[15]?=some v)(hl:N m<=4194304):Ec Q 109 #[Yp (some ⟨R,15,none⟩),U O 5] V λe w'=>e=Z (G z)/\(z=true->Ln W1 R q cells (Q9 v (m++[false])::rs) w')/\(z=false->w'=V)/\w'.heap[q]?=V.heap[q]?:=by
 obtain⟨r,b,hv,u,t,s,a,p,n,l,k,own⟩:=nfacts h hc;subst hv;have g:=Hm (h.nset false);have f:=Hm (show(V.setCell ⟨r,N m,none⟩ (G false)).heap[q]?=V.heap[q]? from Hk _ _ _ _ (λe=>a (by simp at e;rw[e])));have H:=Hm (Ji (some ⟨r,0,none⟩) (N m+1) b);have c:decide (N m+1=0)=false:=by simp
 rw[c]at H;clear h c own hc;have j:IntKind.i64.wrap (((N m+1:Nat):Int)-1)=N m:=by rw[Kw];omega
 cases z
 . go_enter func109,ntmps109;(go_wp2_with (refine(H.o _).mono ?_;rintro e d ⟨rfl,rfl⟩));go_ret;exact⟨rfl,λh=>(by cases h),λ_=>rfl,rfl⟩
 go_enter func109,ntmps109;go_wp2_with (refine(H.o _).mono ?_;rintro e d ⟨rfl,rfl⟩)
 go_ret;exact⟨rfl,λ_=>g.o,λh=>(by cases h),f.o⟩
theorem rstep_end (m:List Bool)(z:Bool)(h:Ln W1 R q cells (Q9 v (m++[z])::rs) V)(hc:cells[15]?=some v)(hl:N m<=4194304):Ec Q 109 #[Yp (some ⟨R,15,none⟩),U O 11] V λe w'=>∃v',e=Z (G true)/\Ln W1 R q (cells.set 15 v') (Q9 v' m::rs) w'/\w'.heap[q]?=V.heap[q]?:=by
 obtain⟨r,a,hv,y,u,t,c,s,p,n,l,own⟩:=nfacts h hc;subst hv;have f:=Hm h.ndrop;have d:=Hm (show(V.setCell ⟨R,15,none⟩ (S (some ⟨r,0,none⟩) (N m) a)).heap[q]?=V.heap[q]? from Hk _ _ _ _ (λe=>h.qR (by simp at e;rw[e])));have H:=Hm (Ji (some ⟨r,0,none⟩) (N m+1) a);have b:decide (N m+1=0)=false:=by simp
 rw[b]at H;clear h b own hc;have k:IntKind.i64.wrap (((N m+1:Nat):Int)-1)=N m:=by rw[Kw];omega
 have j:(N m:Int)<=(a:Int):=by omega
 go_enter func109,ntmps109;go_wp2_with (refine(H.o _).mono ?_;rintro e g ⟨rfl,rfl⟩)
 go_ret;exact⟨_,rfl,f.o,d.o⟩
theorem rstep_same (n:List Bool)(op:Int)(h:Ln W1 R q cells (Q9 v n::rs) V)(hc:cells[15]?=some v)(j:n≠[])(hl:N n<=4194304)(o1:op≠2)(o2:op≠3)(o3:op≠4)(g:op≠5)(f:op≠11):Ec Q 109 #[Yp (some ⟨R,15,none⟩),U O op] V λe w'=>e=Z (G true)/\w'=V:=by
 have b:0<N n:=List.length_pos_iff.2 j;obtain⟨a,c,rfl⟩:=QL (show V.ownsRow R 4 1 v (N n) (Bs n)from h.s.own.tail.head);have c0:=(h.s.cell 15 hc).1;have H:=Hm (Ji a (N n) c);have d:decide (N n=0)=false:=by simp;omega
 rw[d]at H;clear h d hc;have u:IntKind.i64.wrap ((N n:Int)-1)=(N n:Int)-1:=by rw[Kw];omega
 have t:(op==2)=false:=by simpa using o1
 have r:(op==3)=false:=by simpa using o2
 have p:(op==4)=false:=by simpa using o3
 have m:(op==5)=false:=by simpa using g
 have l:(op==11)=false:=by simpa using f
 go_enter func109,ntmps109;go_wp2_with (refine(H.o _).mono ?_;rintro e k ⟨rfl,rfl⟩)
 go_ret;exact⟨rfl,rfl⟩
theorem rstep_c (n:List Bool)(op:Int)(h:Ln W1 R q cells (Q9 v n::rs) V)(hc:cells[15]?=some v)(hl:N n<=4194304):Ec Q 109 #[Yp (some ⟨R,15,none⟩),U O op] V (Stp W1 R q cells rs V n op):=by
 by_cases d:n=[]
 . subst d;exact(rstep_nil W1 R q cells rs v V op h hc).mono λe w' ⟨a,b⟩=>⟨a,λn' e=>by simp[Q0]at e,λ_=>b,by rw[b]⟩
 have o:n.isEmpty=false:=by simpa using d
 by_cases l:op=2\/op=3
 . (have e:Q0 n op=some (n++[false]):=by simp[Q0,d,l]);unfold Stp;rw[e];(have p:(op==4)=false:=by rcases l with rfl|rfl<;>rfl);refine(rstep_push W1 R q cells rs v V n op h hc d hl (by omega)).mono λe w' ⟨v',a,b,c⟩=>⟨a,λn' e=>⟨v',?_⟩,λe=>(by cases e),c⟩;rw[p]at b;cases e;exact b
 by_cases k:op=4
 . subst k;(have e:Q0 n 4=some (n++[true]):=by simp[Q0,d]);unfold Stp;rw[e];exact(rstep_push W1 R q cells rs v V n 4 h hc d hl (by omega)).mono λe w' ⟨v',a,b,c⟩=>⟨a,λn' e=>⟨v',by cases e;exact b⟩,λe=>(by cases e),c⟩
 obtain⟨m,z,rfl⟩:∃m z,n=m++[z]:=⟨n.dropLast,n.getLast d,(List.dropLast_concat_getLast d).symm⟩;have f:N m<=4194304:=by simp at hl;omega
 by_cases j:op=5
 . subst j;(have e:Q0 (m++[z]) 5=if z then some (m++[false])else none:=by cases z<;>simp[Q0]);unfold Stp;rw[e];refine(rstep_else W1 R q cells rs v V m z h hc f).mono λe w' ⟨a,b,b2,c⟩=>⟨?_,λn' e=>⟨v,?_⟩,λe=>?_,c⟩
   . rw[a];cases z<;>rfl
   . cases z
     . cases e
     cases e;exact(b rfl).set_self hc
   cases z
   . exact b2 rfl
   cases e
 by_cases g:op=11
 . subst g;(have e:Q0 (m++[z]) 11=some m:=by simp[Q0]);unfold Stp;rw[e];exact(rstep_end W1 R q cells rs v V m z h hc f).mono λe w' ⟨v',a,b,c⟩=>⟨a,λn' e=>⟨v',by cases e;exact b⟩,λe=>(by cases e),c⟩
 have e:Q0 (m++[z]) op=some (m++[z]):=by simp only[Q0,l,k,j,g,if_false];simp
 unfold Stp;rw[e];exact(rstep_same W1 R q cells rs v V (m++[z]) op h hc d hl (by omega) (by omega) k j g).mono λe w' ⟨a,b⟩=>⟨a,λn' e=>⟨v,by cases e;rw[b];exact h.set_self hc⟩,λe=>(by cases e),by rw[b]⟩
theorem more_e (ws:List Wd)(bad:Bool)(t:Te V q ws bad):Ec Q 111 #[Yp (some ⟨q,0,none⟩)] V λe w'=>e=Z (G (!ws.isEmpty))/\V=w':=by
 obtain⟨a,c,b⟩:=t.c0;clear t;cases ws with
 |nil =>
  simp only[Kg]at b
  go_enter func111,ntmps111
  go_wp2
  go_ret
  exact⟨rfl,rfl⟩
 |cons x ws =>
  simp only[Kj]at b
  have d:(0:Int)<(N ws:Int)+1:=by omega
  go_enter func111,ntmps111
  go_wp2
  go_ret
  exact⟨rfl,rfl⟩
theorem good_e (ws:List Wd)(bad:Bool)(t:Te V q ws bad):Ec Q 120 #[Yp (some ⟨q,0,none⟩)] V λe w'=>e=Z (G (!bad&&ws.isEmpty))/\V=w':=by
 have c:=t.c1;have a:=Hm (more_e q V ws bad t);clear t;cases bad with
 |true =>
  go_enter func120,ntmps120
  go_wp2
  go_ret
  exact⟨rfl,rfl⟩
 |false =>
  generalize ws.isEmpty=z at *
  go_enter func120,ntmps120
  go_wp2_with fail
  refine a.o.mono ?_
  rintro e b ⟨rfl,rfl⟩
  go_wp2
  go_ret
  exact⟨by simp,rfl⟩
end
theorem Ln.vs {cells:List Vu}(h:Ln W1 R q cells rs V)(a:Vs R W1):Vs q V :=
 (a.keep (Jt h.s.gr h.s.lt)).up (Kf (Lv h.s.lt) h.qd)
def IntoP {α:Type}(F:List Wd->Option α)(Rep:α->List Vu->List Qb->Prop)(off T sz n:Nat)(cl:List Vu)(W1:J)(R q:Nat)(cells:List Vu)(rs:List Qb)(ws:List Wd)(bad:Bool)(e:Ending)(w':J):Prop:=e=Z (.tuple #[])/\∃x c r ws' bd v',Rep x c r/\Ln W1 R q (cells.set off v') (⟨T,sz,n+1,v',cl++c⟩::(r++rs)) w'/\Te w' q ws' bd/\(bd=false->ws'=[]->bad=false/\F ws=some x)/\(∀y,bad=false->F ws=some y->bd=false/\ws'=[]/\x=y)
abbrev ptr (b o:Nat):Vu:=Yp (some ⟨b,o,none⟩)
abbrev fnV (f:Nat):Vu:=.func (.func f) #[] #[]
theorem sl_one {v:Vu}{B:Nat}{W:J}{T sz n:Nat}{cs:List Vu}(h:W.ownsRow B T sz v n cs):v.oneCell'=true:=by obtain⟨a,c,rfl⟩:=Qg h;rfl
theorem two_sl {B W}{v v':Vu}{l a:List Int}(h:Own B W [nR v l,nR v' a]):∀u∈[v,v'],u.oneCell'=true:=one2 _ _ (sl_one (show W.ownsRow B 2 1 v (N l) (I l)from h.head)) (sl_one (show W.ownsRow B 2 1 v' (N a) (I a)from h.tail.head))
section
variable (W1:J) (R q:Nat) (cells:List Vu) (rs:List Qb) (V:J) (ws:List Wd) (bad:Bool) (n:Nat) (vl:Vu) (cl:List Vu) (b1 b2:Nat)
def Fz_into149 (k:Nat)(us:List Vu)(W:J):Prop:=Rp.Fz (λW=>W.cell? ⟨b1,0,none⟩=some (ptr R 0)/\W.cell? ⟨b2,0,none⟩=some (fnV 86)/\W.cell? ⟨R,0,none⟩=some vl) 3 [λus W=>us=[]/\Ln W1 R q cells (⟨137,2,n,vl,cl⟩::rs) W/\Tw W q ws bad,λus W=>∃x vp vr r ws' bd,us=[Ag #[vp,vr]]/\(∀u∈([vp,vr]:List Vu),u.oneCell'=true)/\RFT x [vp,vr] r/\Ln W1 R q cells (r++⟨137,2,n,vl,cl⟩::rs) W/\Te W q ws' bd/\(bd=false->ws'=[]->bad=false/\ftF ws=some x)/\(∀y,bad=false->ftF ws=some y->bd=false/\ws'=[]/\x=y),λus W=>∃x vp vr r ws' bd g,us=[Ag #[vp,vr],S (some ⟨g,0,none⟩) 1 1]/\(∀u∈([vp,vr]:List Vu),u.oneCell'=true)/\RFT x [vp,vr] r/\Ln W1 R q cells (r++⟨137,2,n,vl,cl⟩::rs) W/\Te W q ws' bd/\((bd=false->ws'=[]->bad=false/\ftF ws=some x)/\(∀y,bad=false->ftF ws=some y->bd=false/\ws'=[]/\x=y))/\∀j u,([vp,vr]:List Vu)[j]?=some u->W.cell? ((⟨g,0,none⟩:Ad).add j)=some u,λus W=>∃x vp vr r ws' bd g v',us=[Ag #[vp,vr],S (some ⟨g,0,none⟩) 1 1,v']/\RFT x [vp,vr] r/\Ln W1 R q cells (⟨137,2,n+1,v',cl++[vp,vr]⟩::(r++rs)) W/\Te W q ws' bd/\(bd=false->ws'=[]->bad=false/\ftF ws=some x)/\(∀y,bad=false->ftF ws=some y->bd=false/\ws'=[]/\x=y),λus W=>∃x vp vr r ws' bd g v',us=[Ag #[vp,vr],S (some ⟨g,0,none⟩) 1 1,v',undef]/\RFT x [vp,vr] r/\Ln W1 R q (cells.set 0 v') (⟨137,2,n+1,v',cl++[vp,vr]⟩::(r++rs)) W/\Te W q ws' bd/\(bd=false->ws'=[]->bad=false/\ftF ws=some x)/\(∀y,bad=false->ftF ws=some y->bd=false/\ws'=[]/\x=y)] k us W
theorem info_into149:(Q.info? 137).map (λi=>(i.zero,i.size,i.bytes))=some (some (Ag #[S none 0 0,S none 0 0]),2,48):=by kernel_rfl
theorem into149 (h:Ln W1 R q cells (⟨137,2,n,vl,cl⟩::rs) V)(t:Tw V q ws bad)(h1:Bt W1 R b1 (ptr R 0))(M:Bt W1 R b2 (fnV 86))(hc:cells[0]?=some vl)(hn:n<=1048576):Ec Q 149 #[ptr q 0,ptr b1 0,ptr b2 0] V (IntoP ftF RFT 0 137 2 n cl W1 R q cells rs ws bad):=by
 have E:=Hm h1;have D:=Hm M;have Y:=Hm hc;have HN:=Hm hn;have X:Hid (0<18):=by show 0<18;omega
 have C:=Hm h;have ae:=Hm t;clear h t h1 M hc hn;go_enter func149,ntmps149;go_upto_region 0 with fail
 refine Rp.rg (nN:=14) [ptr R 0,ptr R 0,ptr R 0,vl,fnV 86,ptr q 0,undef,undef,undef,ptr R 0,undef] [6,7,8,10] 3 (Fz_into149 W1 R q cells rs ws bad n vl cl b1 b2) ?_ ?_ ?_
 . exact⟨λ_=>⟨C.o.s.bx E.o,C.o.s.bx D.o,(C.o.s.cell 0 Y.o X.o).1⟩,rfl,C.o.below bFz.drew,ae.o.keep bFz.drew⟩
 . refine Rp.ls 1 (ptr b1 0) (λk F W hk j=>(j.1 hk).1) ?_;refine Rp.ls 1 (ptr b1 0) (λk F W hk j=>(j.1 hk).1) ?_;refine Rp.o1 1 5 ?_;refine Rp.l1 2 6 (λk F W hk j=>(j.1 hk).2.2) ?_;refine Rp.ls 2 (ptr b2 0) (λk F W hk j=>(j.1 hk).2.1) ?_;refine Rp.os 0 (ptr q 0) ?_;refine Rp.hc 0 (λa W F f hu j=>?_) ?_
   . have e8:=Rp.va f 4 8;have e9:=Rp.va f 5 9;obtain⟨H,rfl,p,ht⟩:=j;refine⟨86,#[ptr q 0],?_,?_⟩
     . clear f hu;go_simp;try rfl
     refine(funcType_c q ws bad W ht).mono ?_;rintro e w1 ⟨x,c,r,d,B,rfl,b,L,y,v⟩;obtain⟨A,ab⟩:=p.read L;obtain⟨m,l,rfl,I⟩:=b;exact⟨_,rfl,λ_=>⟨A.s.bx E.o,A.s.bx D.o,(A.s.cell 0 Y.o X.o).1⟩,x,m,l,r,d,B,rfl,(two_sl (I ▸ L.own)),⟨m,l,rfl,I⟩,A,ab,y,v⟩
   refine Rp.hv 1 (λa W F f hu j=>?_) ?_
   . have aq:=Rp.vu hu 0 10;obtain⟨H,x,m,l,r,d,B,rfl,u,b,p,ht,y,v⟩:=j;refine⟨(S (some ⟨W.heap.size,0,none⟩) 1 1),W.alloc (Fc #[m,l] 137),?_,?_⟩
     . clear f hu;go_simp;try rfl
     have hb:Bw W.heap.size W (W.alloc (Fc #[m,l] 137)):=bFz.alloc lRz _;have g:=p.below hb;exact⟨λ_=>⟨g.s.bx E.o,g.s.bx D.o,(g.s.cell 0 Y.o X.o).1⟩,x,m,l,r,d,B,W.heap.size,rfl,u,b,g,ht.below hb,⟨y,v⟩,Qq _ _ _⟩
   refine Rp.ha 2 (λa W F f hu j Kc hK=>?_) ?_
   . have e7:=Rp.va f 3 7;have ad:=Rp.vu hu 1 11;obtain⟨H,x,m,l,r,d,B,g1,rfl,u,b,p,ht,⟨y,v⟩,ac⟩:=j;have g:=p.perm (Hn (l₁:=r) (a:=⟨137,2,n,vl,cl⟩) (l₂:=rs));have ho:W.ownsRow R 137 2 vl n cl:=g.s.own.tail.head;refine Rp.ap (news:=[m,l]) e7 ho ad ac u info_into149 (by have:=HN.o;unfold maxLen;omega) (by have:=HN.o;omega) (Kf (Lv p.s.lt) p.s.gr.size) (λv' w' h1 M h3=>?_) hK;have z:Ln W1 R q cells (⟨137,2,n+1,v',cl++[m,l]⟩::(r++rs)) w':=g.push M h1 h3;exact⟨λ_=>⟨z.s.bx E.o,z.s.bx D.o,(z.s.cell 0 Y.o X.o).1⟩,x,m,l,r,d,B,g1,v',rfl,b,z,g.teq M ht,y,v⟩
   refine Rp.o1 0 4 ?_;refine Rp.ht 3 (λa W F f hu j=>?_) ?_
   . have ak:=Rp.va f 9 13;have ao:=Rp.vu hu 2 12;obtain⟨H,x,m,l,r,d,B,g1,v',rfl,b,p,ht,y,v⟩:=j;obtain⟨cc,ff⟩:=p.s.cell 0 Y.o X.o;have ho:W.ownsRow R 137 2 v' (n+1) (cl++[m,l]):=p.s.own.tail.head;obtain⟨a',c',rfl⟩:=Qg ho;refine⟨W.setCell ⟨R,0,none⟩ (S a' (n+1) c'),?_,?_⟩
     . clear f hu ho;go_simp;try rfl
     exact⟨λh=>by omega,x,m,l,r,d,B,g1,_,rfl,b,p.set 0 _,p.tes ht 0 _,y,v⟩
   exact Rp.Qj.nil
 intro F a W f;have ea:=Rp.ca f [4,5,6,7,8,9,10,11,12,13];have j:=f.ph;simp only[Km,Tq,Rp.cv f 0 4,Rp.cv f 1 5,Rp.cv f 2 6,Rp.cv f 3 7,Rp.cv f 4 8,Rp.cv f 5 9,Rp.cu f 0 10,Rp.cu f 1 11,Rp.cu f 2 12,Rp.cv f 9 13]at ea;clear f;subst ea;obtain⟨-,x,m,l,r,d,B,g1,v',rfl,b,p,ht,y,v⟩:=j;go_wp2;go_end0;exact⟨rfl,x,[m,l],r,d,B,v',b,p,ht,y,v⟩
def Fz_into150 (k:Nat)(us:List Vu)(W:J):Prop:=Rp.Fz (λW=>W.cell? ⟨b1,0,none⟩=some (ptr R 1)/\W.cell? ⟨b2,0,none⟩=some (fnV 88)/\W.cell? ⟨R,1,none⟩=some vl) 3 [λus W=>us=[]/\Ln W1 R q cells (⟨143,9,n,vl,cl⟩::rs) W/\Tw W q ws bad,λus W=>∃x r ws' bd,us=[Ag #[Xs x.mod,Xs x.nm,U O x.kind,U O x.ty,U O x.lim.min,U O x.lim.max,G x.lim.has,U O x.gl.ty,G x.gl.mu]]/\(∀u∈([Xs x.mod,Xs x.nm,U O x.kind,U O x.ty,U O x.lim.min,U O x.lim.max,G x.lim.has,U O x.gl.ty,G x.gl.mu]:List Vu),u.oneCell'=true)/\RImp x [Xs x.mod,Xs x.nm,U O x.kind,U O x.ty,U O x.lim.min,U O x.lim.max,G x.lim.has,U O x.gl.ty,G x.gl.mu] r/\Ln W1 R q cells (r++⟨143,9,n,vl,cl⟩::rs) W/\Te W q ws' bd/\(bd=false->ws'=[]->bad=false/\Xy ws=some x)/\(∀y,bad=false->Xy ws=some y->bd=false/\ws'=[]/\x=y),λus W=>∃x r ws' bd g,us=[Ag #[Xs x.mod,Xs x.nm,U O x.kind,U O x.ty,U O x.lim.min,U O x.lim.max,G x.lim.has,U O x.gl.ty,G x.gl.mu],S (some ⟨g,0,none⟩) 1 1]/\(∀u∈([Xs x.mod,Xs x.nm,U O x.kind,U O x.ty,U O x.lim.min,U O x.lim.max,G x.lim.has,U O x.gl.ty,G x.gl.mu]:List Vu),u.oneCell'=true)/\RImp x [Xs x.mod,Xs x.nm,U O x.kind,U O x.ty,U O x.lim.min,U O x.lim.max,G x.lim.has,U O x.gl.ty,G x.gl.mu] r/\Ln W1 R q cells (r++⟨143,9,n,vl,cl⟩::rs) W/\Te W q ws' bd/\((bd=false->ws'=[]->bad=false/\Xy ws=some x)/\(∀y,bad=false->Xy ws=some y->bd=false/\ws'=[]/\x=y))/\∀j u,([Xs x.mod,Xs x.nm,U O x.kind,U O x.ty,U O x.lim.min,U O x.lim.max,G x.lim.has,U O x.gl.ty,G x.gl.mu]:List Vu)[j]?=some u->W.cell? ((⟨g,0,none⟩:Ad).add j)=some u,λus W=>∃x r ws' bd g v',us=[Ag #[Xs x.mod,Xs x.nm,U O x.kind,U O x.ty,U O x.lim.min,U O x.lim.max,G x.lim.has,U O x.gl.ty,G x.gl.mu],S (some ⟨g,0,none⟩) 1 1,v']/\RImp x [Xs x.mod,Xs x.nm,U O x.kind,U O x.ty,U O x.lim.min,U O x.lim.max,G x.lim.has,U O x.gl.ty,G x.gl.mu] r/\Ln W1 R q cells (⟨143,9,n+1,v',cl++[Xs x.mod,Xs x.nm,U O x.kind,U O x.ty,U O x.lim.min,U O x.lim.max,G x.lim.has,U O x.gl.ty,G x.gl.mu]⟩::(r++rs)) W/\Te W q ws' bd/\(bd=false->ws'=[]->bad=false/\Xy ws=some x)/\(∀y,bad=false->Xy ws=some y->bd=false/\ws'=[]/\x=y),λus W=>∃x r ws' bd g v',us=[Ag #[Xs x.mod,Xs x.nm,U O x.kind,U O x.ty,U O x.lim.min,U O x.lim.max,G x.lim.has,U O x.gl.ty,G x.gl.mu],S (some ⟨g,0,none⟩) 1 1,v',undef]/\RImp x [Xs x.mod,Xs x.nm,U O x.kind,U O x.ty,U O x.lim.min,U O x.lim.max,G x.lim.has,U O x.gl.ty,G x.gl.mu] r/\Ln W1 R q (cells.set 1 v') (⟨143,9,n+1,v',cl++[Xs x.mod,Xs x.nm,U O x.kind,U O x.ty,U O x.lim.min,U O x.lim.max,G x.lim.has,U O x.gl.ty,G x.gl.mu]⟩::(r++rs)) W/\Te W q ws' bd/\(bd=false->ws'=[]->bad=false/\Xy ws=some x)/\(∀y,bad=false->Xy ws=some y->bd=false/\ws'=[]/\x=y)] k us W
theorem info_into150:(Q.info? 143).map (λi=>(i.zero,i.size,i.bytes))=some (some (Ag #[Xs ByteArray.empty,Xs ByteArray.empty,U O 0,U O 0,U O 0,U O 0,G false,U O 0,G false]),9,88):=by kernel_rfl
def Fz_into152 (k:Nat)(us:List Vu)(W:J):Prop:=Rp.Fz (λW=>W.cell? ⟨b1,0,none⟩=some (ptr R 2)/\W.cell? ⟨b2,0,none⟩=some (fnV 90)/\W.cell? ⟨R,2,none⟩=some vl) 3 [λus W=>us=[]/\Ln W1 R q cells (⟨2,1,n,vl,cl⟩::rs) W/\Tw W q ws bad,λus W=>∃x r ws' bd,us=[U O x]/\(∀u∈([U O x]:List Vu),u.oneCell'=true)/\RInt x [U O x] r/\Ln W1 R q cells (r++⟨2,1,n,vl,cl⟩::rs) W/\Te W q ws' bd/\(bd=false->ws'=[]->bad=false/\uF ws=some x)/\(∀y,bad=false->uF ws=some y->bd=false/\ws'=[]/\x=y),λus W=>∃x r ws' bd g,us=[U O x,S (some ⟨g,0,none⟩) 1 1]/\(∀u∈([U O x]:List Vu),u.oneCell'=true)/\RInt x [U O x] r/\Ln W1 R q cells (r++⟨2,1,n,vl,cl⟩::rs) W/\Te W q ws' bd/\((bd=false->ws'=[]->bad=false/\uF ws=some x)/\(∀y,bad=false->uF ws=some y->bd=false/\ws'=[]/\x=y))/\∀j u,([U O x]:List Vu)[j]?=some u->W.cell? ((⟨g,0,none⟩:Ad).add j)=some u,λus W=>∃x r ws' bd g v',us=[U O x,S (some ⟨g,0,none⟩) 1 1,v']/\RInt x [U O x] r/\Ln W1 R q cells (⟨2,1,n+1,v',cl++[U O x]⟩::(r++rs)) W/\Te W q ws' bd/\(bd=false->ws'=[]->bad=false/\uF ws=some x)/\(∀y,bad=false->uF ws=some y->bd=false/\ws'=[]/\x=y),λus W=>∃x r ws' bd g v',us=[U O x,S (some ⟨g,0,none⟩) 1 1,v',undef]/\RInt x [U O x] r/\Ln W1 R q (cells.set 2 v') (⟨2,1,n+1,v',cl++[U O x]⟩::(r++rs)) W/\Te W q ws' bd/\(bd=false->ws'=[]->bad=false/\uF ws=some x)/\(∀y,bad=false->uF ws=some y->bd=false/\ws'=[]/\x=y)] k us W
theorem info_into152:(Q.info? 2).map (λi=>(i.zero,i.size,i.bytes))=some (some (U O 0),1,8):=by kernel_rfl
def Fz_into153 (off:Nat)(k:Nat)(us:List Vu)(W:J):Prop:=Rp.Fz (λW=>W.cell? ⟨b1,0,none⟩=some (ptr R off)/\W.cell? ⟨b2,0,none⟩=some (fnV 92)/\W.cell? ⟨R,off,none⟩=some vl) 3 [λus W=>us=[]/\Ln W1 R q cells (⟨120,3,n,vl,cl⟩::rs) W/\Tw W q ws bad,λus W=>∃x r ws' bd,us=[Ag #[U O x.min,U O x.max,G x.has]]/\(∀u∈([U O x.min,U O x.max,G x.has]:List Vu),u.oneCell'=true)/\RLim x [U O x.min,U O x.max,G x.has] r/\Ln W1 R q cells (r++⟨120,3,n,vl,cl⟩::rs) W/\Te W q ws' bd/\(bd=false->ws'=[]->bad=false/\Q5 ws=some x)/\(∀y,bad=false->Q5 ws=some y->bd=false/\ws'=[]/\x=y),λus W=>∃x r ws' bd g,us=[Ag #[U O x.min,U O x.max,G x.has],S (some ⟨g,0,none⟩) 1 1]/\(∀u∈([U O x.min,U O x.max,G x.has]:List Vu),u.oneCell'=true)/\RLim x [U O x.min,U O x.max,G x.has] r/\Ln W1 R q cells (r++⟨120,3,n,vl,cl⟩::rs) W/\Te W q ws' bd/\((bd=false->ws'=[]->bad=false/\Q5 ws=some x)/\(∀y,bad=false->Q5 ws=some y->bd=false/\ws'=[]/\x=y))/\∀j u,([U O x.min,U O x.max,G x.has]:List Vu)[j]?=some u->W.cell? ((⟨g,0,none⟩:Ad).add j)=some u,λus W=>∃x r ws' bd g v',us=[Ag #[U O x.min,U O x.max,G x.has],S (some ⟨g,0,none⟩) 1 1,v']/\RLim x [U O x.min,U O x.max,G x.has] r/\Ln W1 R q cells (⟨120,3,n+1,v',cl++[U O x.min,U O x.max,G x.has]⟩::(r++rs)) W/\Te W q ws' bd/\(bd=false->ws'=[]->bad=false/\Q5 ws=some x)/\(∀y,bad=false->Q5 ws=some y->bd=false/\ws'=[]/\x=y),λus W=>∃x r ws' bd g v',us=[Ag #[U O x.min,U O x.max,G x.has],S (some ⟨g,0,none⟩) 1 1,v',undef]/\RLim x [U O x.min,U O x.max,G x.has] r/\Ln W1 R q (cells.set off v') (⟨120,3,n+1,v',cl++[U O x.min,U O x.max,G x.has]⟩::(r++rs)) W/\Te W q ws' bd/\(bd=false->ws'=[]->bad=false/\Q5 ws=some x)/\(∀y,bad=false->Q5 ws=some y->bd=false/\ws'=[]/\x=y)] k us W
theorem X8:(Q.info? 120).map (λi=>(i.zero,i.size,i.bytes))=some (some (Ag #[U O 0,U O 0,G false]),3,24):=by kernel_rfl
theorem into153 (off:Nat)(ae:off<13)(h:Ln W1 R q cells (⟨120,3,n,vl,cl⟩::rs) V)(t:Tw V q ws bad)(h1:Bt W1 R b1 (ptr R off))(E:Bt W1 R b2 (fnV 92))(hc:cells[off]?=some vl)(hn:n<=1048576)(hl:∀x∈ws,N x<=1048576)(hV:Vs R W1):Ec Q 153 #[ptr q 0,ptr b1 0,ptr b2 0] V (IntoP Q5 RLim off 120 3 n cl W1 R q cells rs ws bad):=by
 have B:=Hm h1;have A:=Hm E;have H:=Hm hc;have HN:=Hm hn;have F:Hid (off<18):=by show off<18;omega
 have z:=Hm h;have ac:=Hm t;have ad:=Hm hl;have ab:=Hm hV;clear hl hV;clear h t h1 E hc hn;go_enter func153,ntmps153;go_upto_region 0 with fail
 refine Rp.rg (nN:=14) [ptr R off,ptr R off,ptr R off,vl,fnV 92,ptr q 0,undef,undef,undef,ptr R off,undef] [6,7,8,10] 3 (Fz_into153 W1 R q cells rs ws bad n vl cl b1 b2 off) ?_ ?_ ?_
 . exact⟨λ_=>⟨z.o.s.bx B.o,z.o.s.bx A.o,(z.o.s.cell off H.o F.o).1⟩,rfl,z.o.below bFz.drew,ac.o.keep bFz.drew⟩
 . refine Rp.ls 1 (ptr b1 0) (λk C W hk j=>(j.1 hk).1) ?_;refine Rp.ls 1 (ptr b1 0) (λk C W hk j=>(j.1 hk).1) ?_;refine Rp.o1 1 5 ?_;refine Rp.l1 2 6 (λk C W hk j=>(j.1 hk).2.2) ?_;refine Rp.ls 2 (ptr b2 0) (λk C W hk j=>(j.1 hk).2.1) ?_;refine Rp.os 0 (ptr q 0) ?_;refine Rp.hc 0 (λa W C f hu j=>?_) ?_
   . have e8:=Rp.va f 4 8;have e9:=Rp.va f 5 9;obtain⟨D,rfl,hl,ht⟩:=j;refine⟨92,#[ptr q 0],?_,?_⟩
     . clear f hu;go_simp;try rfl
     refine(limits_c q ws bad W ht ad.o (hl.vs ab.o)).mono ?_;rintro e w1 ⟨x,c,r,d,y,rfl,b,X,p,m⟩;obtain⟨v,L⟩:=hl.read X;obtain⟨rfl,M⟩:=b;exact⟨_,rfl,λ_=>⟨v.s.bx B.o,v.s.bx A.o,(v.s.cell off H.o F.o).1⟩,x,r,d,y,rfl,(by simp[Hq]),⟨rfl,M⟩,v,L,p,m⟩
   refine Rp.hv 1 (λa W C f hu j=>?_) ?_
   . have ar:=Rp.vu hu 0 10;obtain⟨D,x,r,d,y,rfl,l,b,hl,ht,p,m⟩:=j;refine⟨(S (some ⟨W.heap.size,0,none⟩) 1 1),W.alloc (Fc #[U O x.min,U O x.max,G x.has] 120),?_,?_⟩
     . clear f hu;go_simp;try rfl
     have hb:Bw W.heap.size W (W.alloc (Fc #[U O x.min,U O x.max,G x.has] 120)):=bFz.alloc lRz _;have g:=hl.below hb;exact⟨λ_=>⟨g.s.bx B.o,g.s.bx A.o,(g.s.cell off H.o F.o).1⟩,x,r,d,y,W.heap.size,rfl,l,b,g,ht.below hb,⟨p,m⟩,Qq _ _ _⟩
   refine Rp.ha 2 (λa W C f hu j Kc hK=>?_) ?_
   . have e7:=Rp.va f 3 7;have aa:=Rp.vu hu 1 11;obtain⟨D,x,r,d,y,g1,rfl,l,b,hl,ht,⟨p,m⟩,Y⟩:=j;have g:=hl.perm (Hn (l₁:=r) (a:=⟨120,3,n,vl,cl⟩) (l₂:=rs));have I:W.ownsRow R 120 3 vl n cl:=g.s.own.tail.head;refine Rp.ap (news:=[U O x.min,U O x.max,G x.has]) e7 I aa Y l X8 (by have:=HN.o;unfold maxLen;omega) (by have:=HN.o;omega) (Kf (Lv hl.s.lt) hl.s.gr.size) (λv' w' h1 E h3=>?_) hK;have u:Ln W1 R q cells (⟨120,3,n+1,v',cl++[U O x.min,U O x.max,G x.has]⟩::(r++rs)) w':=g.push E h1 h3;exact⟨λ_=>⟨u.s.bx B.o,u.s.bx A.o,(u.s.cell off H.o F.o).1⟩,x,r,d,y,g1,v',rfl,b,u,g.teq E ht,p,m⟩
   refine Rp.o1 0 4 ?_;refine Rp.ht 3 (λa W C f hu j=>?_) ?_
   . have ao:=Rp.va f 9 13;have aq:=Rp.vu hu 2 12;obtain⟨D,x,r,d,y,g1,v',rfl,b,hl,ht,p,m⟩:=j;obtain⟨cc,ff⟩:=hl.s.cell off H.o F.o;have I:W.ownsRow R 120 3 v' (n+1) (cl++[U O x.min,U O x.max,G x.has]):=hl.s.own.tail.head;obtain⟨a',c',rfl⟩:=Qg I;refine⟨W.setCell ⟨R,off,none⟩ (S a' (n+1) c'),?_,?_⟩
     . clear f hu I;go_simp;try rfl
     exact⟨λh=>by omega,x,r,d,y,g1,_,rfl,b,hl.set off _,hl.tes ht off _,p,m⟩
   exact Rp.Qj.nil
 intro C a W f;have ea:=Rp.ca f [4,5,6,7,8,9,10,11,12,13];have j:=f.ph;simp only[Km,Tq,Rp.cv f 0 4,Rp.cv f 1 5,Rp.cv f 2 6,Rp.cv f 3 7,Rp.cv f 4 8,Rp.cv f 5 9,Rp.cu f 0 10,Rp.cu f 1 11,Rp.cu f 2 12,Rp.cv f 9 13]at ea;clear f;subst ea;obtain⟨-,x,r,d,y,g1,v',rfl,b,hl,ht,p,m⟩:=j;go_wp2;go_end0;exact⟨rfl,x,[U O x.min,U O x.max,G x.has],r,d,y,v',b,hl,ht,p,m⟩
def Fz_into154 (k:Nat)(us:List Vu)(W:J):Prop:=Rp.Fz (λW=>W.cell? ⟨b1,0,none⟩=some (ptr R 6)/\W.cell? ⟨b2,0,none⟩=some (fnV 94)/\W.cell? ⟨R,6,none⟩=some vl) 3 [λus W=>us=[]/\Ln W1 R q cells (⟨157,3,n,vl,cl⟩::rs) W/\Tw W q ws bad,λus W=>∃x r ws' bd,us=[Ag #[Xs x.nm,U O x.kind,U O x.ix]]/\(∀u∈([Xs x.nm,U O x.kind,U O x.ix]:List Vu),u.oneCell'=true)/\RExp x [Xs x.nm,U O x.kind,U O x.ix] r/\Ln W1 R q cells (r++⟨157,3,n,vl,cl⟩::rs) W/\Te W q ws' bd/\(bd=false->ws'=[]->bad=false/\XV ws=some x)/\(∀y,bad=false->XV ws=some y->bd=false/\ws'=[]/\x=y),λus W=>∃x r ws' bd g,us=[Ag #[Xs x.nm,U O x.kind,U O x.ix],S (some ⟨g,0,none⟩) 1 1]/\(∀u∈([Xs x.nm,U O x.kind,U O x.ix]:List Vu),u.oneCell'=true)/\RExp x [Xs x.nm,U O x.kind,U O x.ix] r/\Ln W1 R q cells (r++⟨157,3,n,vl,cl⟩::rs) W/\Te W q ws' bd/\((bd=false->ws'=[]->bad=false/\XV ws=some x)/\(∀y,bad=false->XV ws=some y->bd=false/\ws'=[]/\x=y))/\∀j u,([Xs x.nm,U O x.kind,U O x.ix]:List Vu)[j]?=some u->W.cell? ((⟨g,0,none⟩:Ad).add j)=some u,λus W=>∃x r ws' bd g v',us=[Ag #[Xs x.nm,U O x.kind,U O x.ix],S (some ⟨g,0,none⟩) 1 1,v']/\RExp x [Xs x.nm,U O x.kind,U O x.ix] r/\Ln W1 R q cells (⟨157,3,n+1,v',cl++[Xs x.nm,U O x.kind,U O x.ix]⟩::(r++rs)) W/\Te W q ws' bd/\(bd=false->ws'=[]->bad=false/\XV ws=some x)/\(∀y,bad=false->XV ws=some y->bd=false/\ws'=[]/\x=y),λus W=>∃x r ws' bd g v',us=[Ag #[Xs x.nm,U O x.kind,U O x.ix],S (some ⟨g,0,none⟩) 1 1,v',undef]/\RExp x [Xs x.nm,U O x.kind,U O x.ix] r/\Ln W1 R q (cells.set 6 v') (⟨157,3,n+1,v',cl++[Xs x.nm,U O x.kind,U O x.ix]⟩::(r++rs)) W/\Te W q ws' bd/\(bd=false->ws'=[]->bad=false/\XV ws=some x)/\(∀y,bad=false->XV ws=some y->bd=false/\ws'=[]/\x=y)] k us W
theorem info_into154:(Q.info? 157).map (λi=>(i.zero,i.size,i.bytes))=some (some (Ag #[Xs ByteArray.empty,U O 0,U O 0]),3,32):=by kernel_rfl
theorem intoX:(∀(W1:J) (R:Nat) (q:Nat) (cells:List Vu) (rs:List Qb) (V:J) (ws:List Wd) (bad:Bool) (n:Nat) (vl:Vu) (cl:List Vu) (b1:Nat) (b2:Nat) (h:Ln W1 R q cells (⟨143,9,n,vl,cl⟩::rs) V) (t:Tw V q ws bad) (h1:Bt W1 R b1 (ptr R 1)) (H:Bt W1 R b2 (fnV 88)) (hc:cells[1]?=some vl) (hn:n<=1048576) (hl:∀x∈ws,N x<=1048576) (hV:Vs R W1),Ec Q 150 #[ptr q 0,ptr b1 0,ptr b2 0] V (IntoP Xy RImp 1 143 9 n cl W1 R q cells rs ws bad))/\(∀(W1:J) (R:Nat) (q:Nat) (cells:List Vu) (rs:List Qb) (V:J) (ws:List Wd) (bad:Bool) (n:Nat) (vl:Vu) (cl:List Vu) (b1:Nat) (b2:Nat) (h:Ln W1 R q cells (⟨2,1,n,vl,cl⟩::rs) V) (t:Tw V q ws bad) (h1:Bt W1 R b1 (ptr R 2)) (H:Bt W1 R b2 (fnV 90)) (hc:cells[2]?=some vl) (hn:n<=1048576) (hl:∀x∈ws,N x<=1048576) (hV:Vs R W1),Ec Q 152 #[ptr q 0,ptr b1 0,ptr b2 0] V (IntoP uF RInt 2 2 1 n cl W1 R q cells rs ws bad))/\(∀(W1:J) (R:Nat) (q:Nat) (cells:List Vu) (rs:List Qb) (V:J) (ws:List Wd) (bad:Bool) (n:Nat) (vl:Vu) (cl:List Vu) (b1:Nat) (b2:Nat) (h:Ln W1 R q cells (⟨157,3,n,vl,cl⟩::rs) V) (t:Tw V q ws bad) (h1:Bt W1 R b1 (ptr R 6)) (H:Bt W1 R b2 (fnV 94)) (hc:cells[6]?=some vl) (hn:n<=1048576) (hl:∀x∈ws,N x<=1048576) (hV:Vs R W1),Ec Q 154 #[ptr q 0,ptr b1 0,ptr b2 0] V (IntoP XV RExp 6 157 3 n cl W1 R q cells rs ws bad)):=by
 refine⟨?c0,?c1,?c2⟩;case' c0=>have d:=0
 case' c1=>have b:=0
 case' c2=>have aw:=0
 all_goals
  intro W1 R q cells rs V ws bad n vl cl b1 b2 h t h1 H hc hn hl hV
  have y:=Hm h1;have v:=Hm H;have F:=Hm hc;have HN:=Hm hn
  first|(replace d:=d;have E:Hid (1<18):=by show 1<18;omega)|(replace b:=b;have E:Hid (2<18):=by show 2<18;omega)|(have E:Hid (6<18):=by show 6<18;omega)
  have u:=Hm h;have ad:=Hm t;have ae:=Hm hl;have ac:=Hm hV;clear hl hV;clear h t h1 H hc hn
  first|(replace d:=d;go_enter func150,ntmps150)|(replace b:=b;go_enter func152,ntmps152)|(go_enter func154,ntmps154)
  go_upto_region 0 with fail
  first|(replace d:=d;refine Rp.rg (nN:=14) [ptr R 1,ptr R 1,ptr R 1,vl,fnV 88,ptr q 0,undef,undef,undef,ptr R 1,undef] [6,7,8,10] 3 (Fz_into150 W1 R q cells rs ws bad n vl cl b1 b2) ?_ ?_ ?_)|(replace b:=b;refine Rp.rg (nN:=14) [ptr R 2,ptr R 2,ptr R 2,vl,fnV 90,ptr q 0,undef,undef,undef,ptr R 2,undef] [6,7,8,10] 3 (Fz_into152 W1 R q cells rs ws bad n vl cl b1 b2) ?_ ?_ ?_)|(refine Rp.rg (nN:=14) [ptr R 6,ptr R 6,ptr R 6,vl,fnV 94,ptr q 0,undef,undef,undef,ptr R 6,undef] [6,7,8,10] 3 (Fz_into154 W1 R q cells rs ws bad n vl cl b1 b2) ?_ ?_ ?_)
  . first|(replace d:=d;exact⟨λ_=>⟨u.o.s.bx y.o,u.o.s.bx v.o,(u.o.s.cell 1 F.o E.o).1⟩,rfl,u.o.below bFz.drew,ad.o.keep bFz.drew⟩)|(replace b:=b;exact⟨λ_=>⟨u.o.s.bx y.o,u.o.s.bx v.o,(u.o.s.cell 2 F.o E.o).1⟩,rfl,u.o.below bFz.drew,ad.o.keep bFz.drew⟩)|(exact⟨λ_=>⟨u.o.s.bx y.o,u.o.s.bx v.o,(u.o.s.cell 6 F.o E.o).1⟩,rfl,u.o.below bFz.drew,ad.o.keep bFz.drew⟩)
  . refine Rp.ls 1 (ptr b1 0) (λk L W hk D=>(D.1 hk).1) ?_
    refine Rp.ls 1 (ptr b1 0) (λk L W hk D=>(D.1 hk).1) ?_
    refine Rp.o1 1 5 ?_
    refine Rp.l1 2 6 (λk L W hk D=>(D.1 hk).2.2) ?_
    refine Rp.ls 2 (ptr b2 0) (λk L W hk D=>(D.1 hk).2.1) ?_
    refine Rp.os 0 (ptr q 0) ?_
    refine Rp.hc 0 (λa W L f hu D=>?_) ?_
    . have e8:=Rp.va f 4 8;have e9:=Rp.va f 5 9;obtain⟨X,rfl,hl,ht⟩:=D
      first|(replace d:=d;refine⟨88,#[ptr q 0],?_,?_⟩)|(replace b:=b;refine⟨90,#[ptr q 0],?_,?_⟩)|(refine⟨94,#[ptr q 0],?_,?_⟩)
      . clear f hu
        go_simp
        try rfl
      . first|(replace d:=d;refine(imported_c q ws bad W ht ae.o (hl.vs ac.o)).mono ?_)|(replace b:=b;refine(u32_e q ws bad W ht ae.o (hl.vs ac.o)).mono ?_)|(refine(exported_c q ws bad W ht ae.o (hl.vs ac.o)).mono ?_)
        rintro e w1 ⟨x,c,r,l,C,rfl,g,aj,B,A⟩;obtain⟨p,M⟩:=hl.read aj;obtain⟨rfl,Y⟩:=g
        first|(replace d:=d;exact⟨_,rfl,λ_=>⟨p.s.bx y.o,p.s.bx v.o,(p.s.cell 1 F.o E.o).1⟩,x,r,l,C,rfl,(by simp[Hq]),⟨rfl,Y⟩,p,M,B,A⟩)|(replace b:=b;exact⟨_,rfl,λ_=>⟨p.s.bx y.o,p.s.bx v.o,(p.s.cell 2 F.o E.o).1⟩,x,r,l,C,rfl,(by simp[Hq]),⟨rfl,Y⟩,p,M,B,A⟩)|(exact⟨_,rfl,λ_=>⟨p.s.bx y.o,p.s.bx v.o,(p.s.cell 6 F.o E.o).1⟩,x,r,l,C,rfl,(by simp[Hq]),⟨rfl,Y⟩,p,M,B,A⟩)
    refine Rp.hv 1 (λa W L f hu D=>?_) ?_
    . have az:=Rp.vu hu 0 10;obtain⟨X,x,r,l,C,rfl,z,g,hl,ht,B,A⟩:=D
      first|(replace d:=d;refine⟨(S (some ⟨W.heap.size,0,none⟩) 1 1),W.alloc (Fc #[Xs x.mod,Xs x.nm,U O x.kind,U O x.ty,U O x.lim.min,U O x.lim.max,G x.lim.has,U O x.gl.ty,G x.gl.mu] 143),?_,?_⟩)|(replace b:=b;refine⟨(S (some ⟨W.heap.size,0,none⟩) 1 1),W.alloc (Fc #[U O x] 2),?_,?_⟩)|(refine⟨(S (some ⟨W.heap.size,0,none⟩) 1 1),W.alloc (Fc #[Xs x.nm,U O x.kind,U O x.ix] 157),?_,?_⟩)
      . clear f hu
        go_simp
        try rfl
      . first|(replace d:=d;have hb:Bw W.heap.size W (W.alloc (Fc #[Xs x.mod,Xs x.nm,U O x.kind,U O x.ty,U O x.lim.min,U O x.lim.max,G x.lim.has,U O x.gl.ty,G x.gl.mu] 143)):=bFz.alloc lRz _)|(replace b:=b;have hb:Bw W.heap.size W (W.alloc (Fc #[U O x] 2)):=bFz.alloc lRz _)|(have hb:Bw W.heap.size W (W.alloc (Fc #[Xs x.nm,U O x.kind,U O x.ix] 157)):=bFz.alloc lRz _)
        have j:=hl.below hb
        first|(replace d:=d;exact⟨λ_=>⟨j.s.bx y.o,j.s.bx v.o,(j.s.cell 1 F.o E.o).1⟩,x,r,l,C,W.heap.size,rfl,z,g,j,ht.below hb,⟨B,A⟩,Qq _ _ _⟩)|(replace b:=b;exact⟨λ_=>⟨j.s.bx y.o,j.s.bx v.o,(j.s.cell 2 F.o E.o).1⟩,x,r,l,C,W.heap.size,rfl,z,g,j,ht.below hb,⟨B,A⟩,Qq _ _ _⟩)|(exact⟨λ_=>⟨j.s.bx y.o,j.s.bx v.o,(j.s.cell 6 F.o E.o).1⟩,x,r,l,C,W.heap.size,rfl,z,g,j,ht.below hb,⟨B,A⟩,Qq _ _ _⟩)
    refine Rp.ha 2 (λa W L f hu D Kc hK=>?_) ?_
    . have e7:=Rp.va f 3 7;have ab:=Rp.vu hu 1 11;obtain⟨X,x,r,l,C,g1,rfl,z,g,hl,ht,⟨B,A⟩,aa⟩:=D
      first|(replace d:=d;have j:=hl.perm (Hn (l₁:=r) (a:=⟨143,9,n,vl,cl⟩) (l₂:=rs)))|(replace b:=b;have j:=hl.perm (Hn (l₁:=r) (a:=⟨2,1,n,vl,cl⟩) (l₂:=rs)))|(have j:=hl.perm (Hn (l₁:=r) (a:=⟨157,3,n,vl,cl⟩) (l₂:=rs)))
      first|(replace d:=d;have I:W.ownsRow R 143 9 vl n cl:=j.s.own.tail.head)|(replace b:=b;have I:W.ownsRow R 2 1 vl n cl:=j.s.own.tail.head)|(have I:W.ownsRow R 157 3 vl n cl:=j.s.own.tail.head)
      first|(replace d:=d;refine Rp.ap (news:=[Xs x.mod,Xs x.nm,U O x.kind,U O x.ty,U O x.lim.min,U O x.lim.max,G x.lim.has,U O x.gl.ty,G x.gl.mu]) e7 I ab aa z info_into150 (by have:=HN.o;unfold maxLen;omega) (by have:=HN.o;omega) (Kf (Lv hl.s.lt) hl.s.gr.size) (λv' w' h1 H h3=>?_) hK)|(replace b:=b;refine Rp.ap (news:=[U O x]) e7 I ab aa z info_into152 (by have:=HN.o;unfold maxLen;omega) (by have:=HN.o;omega) (Kf (Lv hl.s.lt) hl.s.gr.size) (λv' w' h1 H h3=>?_) hK)|(refine Rp.ap (news:=[Xs x.nm,U O x.kind,U O x.ix]) e7 I ab aa z info_into154 (by have:=HN.o;unfold maxLen;omega) (by have:=HN.o;omega) (Kf (Lv hl.s.lt) hl.s.gr.size) (λv' w' h1 H h3=>?_) hK)
      first|(replace d:=d;have m:Ln W1 R q cells (⟨143,9,n+1,v',cl++[Xs x.mod,Xs x.nm,U O x.kind,U O x.ty,U O x.lim.min,U O x.lim.max,G x.lim.has,U O x.gl.ty,G x.gl.mu]⟩::(r++rs)) w':=j.push H h1 h3)|(replace b:=b;have m:Ln W1 R q cells (⟨2,1,n+1,v',cl++[U O x]⟩::(r++rs)) w':=j.push H h1 h3)|(have m:Ln W1 R q cells (⟨157,3,n+1,v',cl++[Xs x.nm,U O x.kind,U O x.ix]⟩::(r++rs)) w':=j.push H h1 h3)
      first|(replace d:=d;exact⟨λ_=>⟨m.s.bx y.o,m.s.bx v.o,(m.s.cell 1 F.o E.o).1⟩,x,r,l,C,g1,v',rfl,g,m,j.teq H ht,B,A⟩)|(replace b:=b;exact⟨λ_=>⟨m.s.bx y.o,m.s.bx v.o,(m.s.cell 2 F.o E.o).1⟩,x,r,l,C,g1,v',rfl,g,m,j.teq H ht,B,A⟩)|(exact⟨λ_=>⟨m.s.bx y.o,m.s.bx v.o,(m.s.cell 6 F.o E.o).1⟩,x,r,l,C,g1,v',rfl,g,m,j.teq H ht,B,A⟩)
    refine Rp.o1 0 4 ?_
    refine Rp.ht 3 (λa W L f hu D=>?_) ?_
    . have ax:=Rp.va f 9 13;have ay:=Rp.vu hu 2 12;obtain⟨X,x,r,l,C,g1,v',rfl,g,hl,ht,B,A⟩:=D
      first|(replace d:=d;obtain⟨cc,ff⟩:=hl.s.cell 1 F.o E.o)|(replace b:=b;obtain⟨cc,ff⟩:=hl.s.cell 2 F.o E.o)|(obtain⟨cc,ff⟩:=hl.s.cell 6 F.o E.o)
      first|(replace d:=d;have I:W.ownsRow R 143 9 v' (n+1) (cl++[Xs x.mod,Xs x.nm,U O x.kind,U O x.ty,U O x.lim.min,U O x.lim.max,G x.lim.has,U O x.gl.ty,G x.gl.mu]):=hl.s.own.tail.head)|(replace b:=b;have I:W.ownsRow R 2 1 v' (n+1) (cl++[U O x]):=hl.s.own.tail.head)|(have I:W.ownsRow R 157 3 v' (n+1) (cl++[Xs x.nm,U O x.kind,U O x.ix]):=hl.s.own.tail.head)
      obtain⟨a',c',rfl⟩:=Qg I
      first|(replace d:=d;refine⟨W.setCell ⟨R,1,none⟩ (S a' (n+1) c'),?_,?_⟩)|(replace b:=b;refine⟨W.setCell ⟨R,2,none⟩ (S a' (n+1) c'),?_,?_⟩)|(refine⟨W.setCell ⟨R,6,none⟩ (S a' (n+1) c'),?_,?_⟩)
      . clear f hu I
        go_simp
        try rfl
      . first|(replace d:=d;exact⟨λh=>by omega,x,r,l,C,g1,_,rfl,g,hl.set 1 _,hl.tes ht 1 _,B,A⟩)|(replace b:=b;exact⟨λh=>by omega,x,r,l,C,g1,_,rfl,g,hl.set 2 _,hl.tes ht 2 _,B,A⟩)|(exact⟨λh=>by omega,x,r,l,C,g1,_,rfl,g,hl.set 6 _,hl.tes ht 6 _,B,A⟩)
    exact Rp.Qj.nil
  . intro L a W f
    have ea:=Rp.ca f [4,5,6,7,8,9,10,11,12,13];have D:=f.ph
    simp only[Km,Tq,Rp.cv f 0 4,Rp.cv f 1 5,Rp.cv f 2 6,Rp.cv f 3 7,Rp.cv f 4 8,Rp.cv f 5 9,Rp.cu f 0 10,Rp.cu f 1 11,Rp.cu f 2 12,Rp.cv f 9 13]at ea
    clear f;subst ea;obtain⟨-,x,r,l,C,g1,v',rfl,g,hl,ht,B,A⟩:=D
    go_wp2
    go_end0
    first|(replace d:=d;exact⟨rfl,x,[Xs x.mod,Xs x.nm,U O x.kind,U O x.ty,U O x.lim.min,U O x.lim.max,G x.lim.has,U O x.gl.ty,G x.gl.mu],r,l,C,v',g,hl,ht,B,A⟩)|(replace b:=b;exact⟨rfl,x,[U O x],r,l,C,v',g,hl,ht,B,A⟩)|(exact⟨rfl,x,[Xs x.nm,U O x.kind,U O x.ix],r,l,C,v',g,hl,ht,B,A⟩)
def into150:=intoX.1
def into152:=intoX.2.1
def into154:=intoX.2.2
end
theorem Qn (w:J)(cs:Array Vu)(T:TypeId)(j:Nat)(h:cs.toList[j]?=some u):(w.alloc (Fc cs T)).cell? ⟨w.heap.size,j,none⟩=some u:=by
 have:=Qq w cs T j u h;rwa [show((⟨w.heap.size,0,none⟩:Ad).add j)=⟨w.heap.size,j,none⟩ by simp[Addr.add];omega]at this
section
variable (w:J) (ia:Option Ad) (il ic:Nat)
theorem whole101 (ha:Option Ad)(hl hc:Nat):Ec Q 101 #[S ha hl hc,S ia il ic] w λe w'=>e=Z (Ag #[S ia il ic,S ha hl hc])/\Bw w.heap.size w w':=by
 obtain⟨g,c⟩:∃g,g=w.heap.size:=⟨_,rfl⟩;obtain⟨W,f⟩:∃W,W=w.alloc (Fc #[S none 0 0,S none 0 0] 78):=⟨_,rfl⟩;have a:Mo g w [box 78 2 g [S none 0 0,S none 0 0]] W:=by have:=(⟨Own.nil _ _,bFz,lRz⟩:Mo w.heap.size w [] w).box (cur:=#[S none 0 0,S none 0 0]) 78 2 rfl;rw[f,c];exact this
 obtain⟨c0,q⟩:=a.b0 0;obtain⟨r,p⟩:=a.b0 1;have m:=Hm ((a.set 0 (S ia il ic)).set 1 (S ha hl hc));clear a;go_enter func101,ntmps101;go_upto_region 1 with fail
 rw[<- f,<- c];have n:=Hm c;clear f c;go_wp2;refine Jp (λj=>Mo g w [box 78 2 g [S ia il ic,S ha hl hc]] j) m.o ?_;intro j d;have l:=(d.b0 0).1;have k:=(d.b0 1).1;refine bodyPost_ret (v:=Ag #[S ia il ic,S ha hl hc]) (by simp[results,results101,go_sem,l,k]) rfl ⟨rfl,?_⟩;rw[<- n.o];exact d.b
theorem whole104 (ha:Option Ad)(hl hc:Nat):Ec Q 104 #[S ha hl hc,S ia il ic] w λe w'=>e=Z (Ag #[S ha hl hc,S ia il ic])/\Bw w.heap.size w w':=by
 obtain⟨g,c⟩:∃g,g=w.heap.size:=⟨_,rfl⟩;obtain⟨W,f⟩:∃W,W=w.alloc (Fc #[S none 0 0,S none 0 0] 81):=⟨_,rfl⟩;have a:Mo g w [box 81 2 g [S none 0 0,S none 0 0]] W:=by have:=(⟨Own.nil _ _,bFz,lRz⟩:Mo w.heap.size w [] w).box (cur:=#[S none 0 0,S none 0 0]) 81 2 rfl;rw[f,c];exact this
 obtain⟨c0,q⟩:=a.b0 0;obtain⟨r,p⟩:=a.b0 1;have m:=Hm ((a.set 0 (S ha hl hc)).set 1 (S ia il ic));clear a;go_enter func104,ntmps104;go_upto_region 1 with fail
 rw[<- f,<- c];have n:=Hm c;clear f c;go_wp2;refine Jp (λj=>Mo g w [box 81 2 g [S ha hl hc,S ia il ic]] j) m.o ?_;intro j d;have l:=(d.b0 0).1;have k:=(d.b0 1).1;refine bodyPost_ret (v:=Ag #[S ha hl hc,S ia il ic]) (by simp[results,results104,go_sem,l,k]) rfl ⟨rfl,?_⟩;rw[<- n.o];exact d.b
theorem whole107 (ha:Option Ad)(hl hc:Nat):Ec Q 107 #[S ha hl hc,S ia il ic] w λe w'=>e=Z (Ag #[S ia il ic,S ha hl hc])/\Bw w.heap.size w w':=by
 obtain⟨g,c⟩:∃g,g=w.heap.size:=⟨_,rfl⟩;obtain⟨W,f⟩:∃W,W=w.alloc (Fc #[S none 0 0,S none 0 0] 83):=⟨_,rfl⟩;have a:Mo g w [box 83 2 g [S none 0 0,S none 0 0]] W:=by have:=(⟨Own.nil _ _,bFz,lRz⟩:Mo w.heap.size w [] w).box (cur:=#[S none 0 0,S none 0 0]) 83 2 rfl;rw[f,c];exact this
 obtain⟨c0,q⟩:=a.b0 0;obtain⟨r,p⟩:=a.b0 1;have m:=Hm ((a.set 0 (S ia il ic)).set 1 (S ha hl hc));clear a;go_enter func107,ntmps107;go_upto_region 1 with fail
 rw[<- f,<- c];have n:=Hm c;clear f c;go_wp2;refine Jp (λj=>Mo g w [box 83 2 g [S ia il ic,S ha hl hc]] j) m.o ?_;intro j d;have l:=(d.b0 0).1;have k:=(d.b0 1).1;refine bodyPost_ret (v:=Ag #[S ia il ic,S ha hl hc]) (by simp[results,results107,go_sem,l,k]) rfl ⟨rfl,?_⟩;rw[<- n.o];exact d.b
theorem whole98 (ty:Int)(c:Bool):Ec Q 98 #[Ag #[U O ty,G c],S ia il ic] w λe w'=>e=Z (Ag #[U O ty,G c,S ia il ic])/\Bw w.heap.size w w':=by
 obtain⟨k,a⟩:∃g,g=w.heap.size:=⟨_,rfl⟩;obtain⟨q,d⟩:∃W,W=w.alloc (Fc #[U O ty,G c] 74):=⟨_,rfl⟩;obtain⟨g,m⟩:∃g,g=q.heap.size:=⟨_,rfl⟩;obtain⟨W,n⟩:∃W,W=q.alloc (Fc #[U O 0,G false,S none 0 0] 76):=⟨_,rfl⟩;have f:Mo k w [box 76 3 g [U O 0,G false,S none 0 0],box 74 2 k [U O ty,G c]] W:=by have p:=(⟨Own.nil _ _,bFz,lRz⟩:Mo w.heap.size w [] w).box (cur:=#[U O ty,G c]) 74 2 rfl;rw[<- d,<- a]at p;have:=p.box (cur:=#[U O 0,G false,S none 0 0]) 76 3 rfl;rw[n,m];exact this
 obtain⟨c0,C⟩:=f.b0 0;obtain⟨H,B⟩:=f.b0 1;obtain⟨F,A⟩:=f.b0 2;obtain⟨E,-⟩:=f.tail.b0 0;obtain⟨D,-⟩:=f.tail.b0 1;have y:=Hm (((f.set 0 (U O ty)).set 1 (G c)).set 2 (S ia il ic));clear f;go_enter func98,ntmps98;go_upto_region 1 with fail
 have j:k+1=g:=by rw[m,d,a];simp
 rw[<- d,<- a,j,<- n];clear j;have z:=Hm a;clear n m d a;go_wp2;refine Jp (λr=>Mo k w [box 76 3 g [U O ty,G c,S ia il ic],box 74 2 k [U O ty,G c]] r) y.o ?_;intro r l;have u:=(l.b0 0).1;have t:=(l.b0 1).1;have s:=(l.b0 2).1;refine bodyPost_ret (v:=Ag #[U O ty,G c,S ia il ic]) (by simp[results,results98,go_sem,u,t,s]) rfl ⟨rfl,?_⟩;rw[<- z.o];exact l.b
theorem nestNew_c:Ec Q 156 #[] w λe w'=>e=Z (S (some ⟨w.heap.size,0,none⟩) 1 1)/\w'=w.alloc (Fc #[G false] 4):=by
 go_enter func156,ntmps156;go_wp2;go_ret;exact⟨rfl,rfl⟩
end
theorem Ln.at_ {cells:List Vu}(h:Ln W1 R q cells rs V)(j:Nat)(a:j<18:=by decide):∃u,V.cell? ⟨R,j,none⟩=some u/\V.frozen? ⟨R,j,none⟩=false :=
 ⟨_,h.s.cell j (List.getElem?_eq_getElem (by rw[h.s.len];exact a)) a⟩
def HeadP {α:Type}(F:List Wd->Option α)(Rep:α->List Vu->List Qb->Prop)(kf TH szH:Nat)(W1:J)(R q:Nat)(cells:List Vu)(rs:List Qb)(ws:List Wd)(bad:Bool)(bl bw:Nat)(e:Ending)(w':J):Prop:=e=Z (.tuple #[])/\∃x c r ws' bd gh vn,Rep x c r/\Ln W1 R q (((cells.set 15 vn).set 16 (S none 0 0)).set 17 (.func (.func kf) #[] #[ptr bl 0,ptr bw 0,ptr gh 0])) (Q9 vn [false]::box TH szH gh c::(r++rs)) w'/\Te w' q ws' bd/\(bd=false->ws'=[]->bad=false/\F ws=some x)/\(∀y,bad=false->F ws=some y->bd=false/\ws'=[]/\x=y)
section
variable (W1:J) (R q:Nat) (cells:List Vu) (V:J) (ws:List Wd) (bad:Bool) (br:Nat)
def FzH (rs:List Qb)(k:Nat)(us:List Vu)(W:J):Prop:=Rp.Fz (fun W=>W.cell? ⟨br,0,none⟩=some (ptr R 0)) 3 [fun us W=>us=[]/\Ln W1 R q cells rs W/\Te W q ws bad,
 λus W=>∃g,us=[S (some ⟨g,0,none⟩) 1 1]/\Ln W1 R q cells (Q9 (S (some ⟨g,0,none⟩) 1 1) [false]::rs) W/\Te W q ws bad,
 λus W=>∃g,us=[S (some ⟨g,0,none⟩) 1 1,undef]/\Ln W1 R q (cells.set 15 (S (some ⟨g,0,none⟩) 1 1)) (Q9 (S (some ⟨g,0,none⟩) 1 1) [false]::rs) W/\Te W q ws bad,
 fun us W=>∃g,us=[S (some ⟨g,0,none⟩) 1 1,undef,undef]/\Ln W1 R q ((cells.set 15 (S (some ⟨g,0,none⟩) 1 1)).set 16 (S none 0 0)) (Q9 (S (some ⟨g,0,none⟩) 1 1) [false]::rs) W/\Te W q ws bad] k us W
theorem head155 (rs:List Qb)(bh H F:Nat)(h:Ln W1 R q cells rs V)(t:Tw V q ws bad)(h1:Bt W1 R bh (fnV 97))(Y:Bt W1 R br (ptr R 0)):Ec Q 155 #[ptr q 0,ptr bh 0,ptr br 0,ptr H 0,ptr F 0] V (HeadP gtF RGT 157 74 2 W1 R q cells rs ws bad H F):=by
 have n:=Hm Y;have K:=Hm (global_c q ws bad V t);have cb:=h.s.bx h1;have HL:=Hm h;clear h t h1 Y;go_enter func155,ntmps155;go_wp2_with fail
 refine K.o.mono ?_;rintro e I ⟨x,c,r,p,L,rfl,C,D,X,M⟩;clear K cb;obtain⟨E,A⟩:=HL.o.read D;obtain⟨rfl,B⟩:=C;have HX:=Hm (And.intro (show RGT x [U O x.ty,G x.mu] r from⟨rfl,B⟩) (And.intro X M));obtain⟨gh,v⟩:∃g,g=I.heap.size:=⟨_,rfl⟩;obtain⟨V1,m⟩:∃W,W=I.alloc (Fc #[U O x.ty,G x.mu] 74):=⟨_,rfl⟩;have y:Hid (Ln W1 R q cells (box 74 2 gh [U O x.ty,G x.mu]::(r++rs)) V1/\Te V1 q p L):=by
  refine⟨?_,?_⟩
  . rw[m,v];exact E.box (cur:=#[U O x.ty,G x.mu]) 74 2 rfl
  rw[m];exact A.below (bFz.alloc lRz _)
 clear E A D X M B HL;simp only[agV];go_upto_region 1 with fail
 rw[<- m,<- v];clear m v;refine Rp.rg (nN:=21) [ptr R 0,ptr R 0,undef,ptr R 0,ptr R 15,undef,ptr R 0,ptr R 16,undef] [2,5,8] 3 (FzH W1 R q cells p L br (box 74 2 gh [U O x.ty,G x.mu]::(r++rs))) ?_ ?_ ?_
 . exact⟨λ_=>y.o.1.s.bx n.o,rfl,y.o.1.below bFz.drew,y.o.2.below bFz.drew⟩
 . refine Rp.ls 2 (ptr br 0) (λk z W hk l=>l.1 hk) ?_;refine Rp.ls 2 (ptr br 0) (λk z W hk l=>l.1 hk) ?_;refine Rp.hc 0 (λa W z f hu l=>?_) ?_
   . obtain⟨j,rfl,d,ht⟩:=l;refine⟨156,#[],?_,?_⟩
     . clear f hu;go_simp;try rfl
     refine(nestNew_c W).mono ?_;rintro e I ⟨rfl,rfl⟩;have b:Ln W1 R q cells (Q9 (S (some ⟨W.heap.size,0,none⟩) 1 1) [false]::_) _:=d.box (cur:=#[G false]) 4 1 rfl;exact⟨_,rfl,λ_=>b.s.bx n.o,_,rfl,b,ht.below (bFz.alloc lRz _)⟩
   refine Rp.o1 0 10 ?_;refine Rp.o1 3 13 ?_;refine Rp.ht 1 (λa W z f hu l=>?_) ?_
   . have ak:=Rp.va f 4 14;have ao:=Rp.vu hu 0 12;obtain⟨j,g1,rfl,d,ht⟩:=l;obtain⟨u,cc,ff⟩:=d.at_ 15;refine⟨W.setCell ⟨R,15,none⟩ (S (some ⟨g1,0,none⟩) 1 1),?_,?_⟩
     . clear f hu;go_simp;try rfl
     have b:=d.set 15 (S (some ⟨g1,0,none⟩) 1 1);exact⟨λ_=>b.s.bx n.o,g1,rfl,b,d.tes ht 15 _⟩
   refine Rp.o1 1 11 ?_;refine Rp.o1 6 15 ?_;refine Rp.ht 2 (λa W z f hu l=>?_) ?_
   . have aj:=Rp.va f 7 16;obtain⟨j,g1,rfl,d,ht⟩:=l;obtain⟨u,cc,ff⟩:=d.at_ 16;refine⟨W.setCell ⟨R,16,none⟩ (S none 0 0),?_,?_⟩
     . clear f hu;go_simp;try rfl
     have b:=d.set 16 (S none 0 0);exact⟨λ_=>b.s.bx n.o,g1,rfl,b,d.tes ht 16 _⟩
   exact Rp.Qj.nil
 intro z a W f;have ea:=Rp.ca f [10,11,12,13,14,15,16];have l:=f.ph;simp only[Km,Tq,Rp.cv f 0 10,Rp.cv f 1 11,Rp.cu f 0 12,Rp.cv f 3 13,Rp.cv f 4 14,Rp.cv f 6 15,Rp.cv f 7 16]at ea;clear f;subst ea;obtain⟨j,g1,rfl,d,ht⟩:=l;have ai:=j (Cg 3);obtain⟨u,cc,ff⟩:=d.at_ 17;have HF:=Hm (And.intro (d.set 17 (.func (.func 157) #[] #[ptr H 0,ptr F 0,ptr gh 0])) (d.tes ht 17 (.func (.func 157) #[] #[ptr H 0,ptr F 0,ptr gh 0])));clear d ht j;go_wp2;go_end0;exact⟨rfl,x,[U O x.ty,G x.mu],r,p,L,gh,_,HX.o.1,HF.o.1,HF.o.2,HX.o.2⟩
theorem headX:(∀(W1:J) (R:Nat) (q:Nat) (cells:List Vu) (V:J) (ws:List Wd) (bad:Bool) (br:Nat) (rs:List Qb) (F n m:Nat) (h:Ln W1 R q cells rs V) (t:Tw V q ws bad) (h1:Bt W1 R F (fnV 100)) (h2:Bt W1 R br (ptr R 0)) (hl:∀x∈ws,N x<=1048576) (L:Vs R W1),Ec Q 160 #[ptr q 0,ptr F 0,ptr br 0,ptr n 0,ptr m 0] V (HeadP Xo RNums 161 25 1 W1 R q cells rs ws bad n m))/\(∀(W1:J) (R:Nat) (q:Nat) (cells:List Vu) (V:J) (ws:List Wd) (bad:Bool) (br:Nat) (rs:List Qb) (F n m:Nat) (h:Ln W1 R q cells rs V) (t:Tw V q ws bad) (h1:Bt W1 R F (fnV 103)) (h2:Bt W1 R br (ptr R 0)) (hl:∀x∈ws,N x<=1048576) (L:Vs R W1) (hn:N ws<=1048576),Ec Q 162 #[ptr q 0,ptr F 0,ptr br 0,ptr n 0,ptr m 0] V (HeadP Js RGrps 163 79 1 W1 R q cells rs ws bad n m))/\(∀(W1:J) (R:Nat) (q:Nat) (cells:List Vu) (V:J) (ws:List Wd) (bad:Bool) (br:Nat) (rs:List Qb) (F n m:Nat) (h:Ln W1 R q cells rs V) (t:Tw V q ws bad) (h1:Bt W1 R F (fnV 106)) (h2:Bt W1 R br (ptr R 0)) (hl:∀x∈ws,N x<=1048576) (L:Vs R W1),Ec Q 165 #[ptr q 0,ptr F 0,ptr br 0,ptr n 0,ptr m 0] V (HeadP datF RBy 166 22 1 W1 R q cells rs ws bad n m)):=by
 refine⟨?c0,?c1,?c2⟩;case' c0=>intro W1 R q cells V ws bad br rs F n m h t h1 h2 hl L;have d:=0
 case' c1=>intro W1 R q cells V ws bad br rs F n m h t h1 h2 hl L hn;have b:=0
 case' c2=>intro W1 R q cells V ws bad br rs F n m h t h1 h2 hl L;have M:=0
 all_goals
  have aa:=Hm h2
  first|(replace d:=d;have K:=Hm (u32s_c q ws bad V t hl (h.vs L)))|(replace b:=b;have K:=Hm (groups_c q ws bad V t hl hn (h.vs L)))|(have K:=Hm (str_e q ws bad V t hl (h.vs L)))
  have cb:=h.s.bx h1;have HL:=Hm h
  first|(replace b:=b;clear h t h1 h2 hl L hn)|(clear h t h1 h2 hl L)
  first|(replace d:=d;go_enter func160,ntmps160)|(replace b:=b;go_enter func162,ntmps162)|(go_enter func165,ntmps165)
  go_wp2_with fail
  refine K.o.mono ?_
  rintro e w1 ⟨x,c,r,y,bd,rfl,ag,C,k1,k2⟩;clear K cb;obtain⟨Y,X⟩:=HL.o.read C;obtain⟨v,rfl,z⟩:=ag
  first|(replace d:=d;have B:w1.ownsRow V.heap.size 2 1 v (N x) (I x):=Own.head (r:=nR v x) (rs:=[]) (z ▸ C.own))|(replace b:=b;have B:w1.ownsRow V.heap.size 206 2 v (N x) (gcs x):=Own.head (r:=⟨206,2,N x,v,gcs x⟩) (rs:=[]) (z ▸ C.own))|(have B:w1.ownsRow V.heap.size 5 1 v (Iy x).length (Uz0 (Iy x)):=Own.head (r:=bR v (Iy x)) (rs:=[]) (z ▸ C.own))
  first|(replace M:=M;rw[List.length_map]at B)|(skip)
  obtain⟨va,p,rfl⟩:=Qg B;clear B
  first|(replace d:=d;have HX:=Hm (And.intro (show RNums x [S va (N x) p] r from⟨_,rfl,z⟩) (And.intro k1 k2)))|(replace b:=b;have HX:=Hm (And.intro (show RGrps x [S va (N x) p] r from⟨_,rfl,z⟩) (And.intro k1 k2)))|(have HX:=Hm (And.intro (show RBy x [S va (N x) p] r from⟨_,rfl,z⟩) (And.intro k1 k2)))
  obtain⟨gh,D⟩:∃g,g=w1.heap.size:=⟨_,rfl⟩
  first|(replace d:=d;obtain⟨V1,j⟩:∃W,W=w1.alloc (Fc #[S va (N x) p] 25):=⟨_,rfl⟩)|(replace b:=b;obtain⟨V1,j⟩:∃W,W=w1.alloc (Fc #[S va (N x) p] 79):=⟨_,rfl⟩)|(obtain⟨V1,j⟩:∃W,W=w1.alloc (Fc #[S va (N x) p] 22):=⟨_,rfl⟩)
  first
  | (
   replace d:=d
   have H:Hid (Ln W1 R q cells (box 25 1 gh [S va (N x) p]::(r++rs)) V1/\Te V1 q y bd):=by
    refine⟨?_,?_⟩
    . rw[j,D];exact Y.box (cur:=#[S va (N x) p]) 25 1 rfl
    . rw[j];exact X.below (bFz.alloc lRz _))
  | (
   replace b:=b
   have H:Hid (Ln W1 R q cells (box 79 1 gh [S va (N x) p]::(r++rs)) V1/\Te V1 q y bd):=by
    refine⟨?_,?_⟩
    . rw[j,D];exact Y.box (cur:=#[S va (N x) p]) 79 1 rfl
    . rw[j];exact X.below (bFz.alloc lRz _))
  | (
   replace M:=M
   have H:Hid (Ln W1 R q cells (box 22 1 gh [S va (N x) p]::(r++rs)) V1/\Te V1 q y bd):=by
    refine⟨?_,?_⟩
    . rw[j,D];exact Y.box (cur:=#[S va (N x) p]) 22 1 rfl
    . rw[j];exact X.below (bFz.alloc lRz _))
  clear Y X C k1 k2 z HL
  simp only[oneV',List.getD_cons_zero]
  go_upto_region 1 with fail
  rw[<- j,<- D];clear j D
  first|(replace d:=d;refine Rp.rg (nN:=21) [ptr R 0,ptr R 0,undef,ptr R 0,ptr R 15,undef,ptr R 0,ptr R 16,undef] [2,5,8] 3 (FzH W1 R q cells y bd br (box 25 1 gh [S va (N x) p]::(r++rs))) ?_ ?_ ?_)|(replace b:=b;refine Rp.rg (nN:=21) [ptr R 0,ptr R 0,undef,ptr R 0,ptr R 15,undef,ptr R 0,ptr R 16,undef] [2,5,8] 3 (FzH W1 R q cells y bd br (box 79 1 gh [S va (N x) p]::(r++rs))) ?_ ?_ ?_)|(refine Rp.rg (nN:=21) [ptr R 0,ptr R 0,undef,ptr R 0,ptr R 15,undef,ptr R 0,ptr R 16,undef] [2,5,8] 3 (FzH W1 R q cells y bd br (box 22 1 gh [S va (N x) p]::(r++rs))) ?_ ?_ ?_)
  . exact⟨λ_=>H.o.1.s.bx aa.o,rfl,H.o.1.below bFz.drew,H.o.2.below bFz.drew⟩
  . refine Rp.ls 2 (ptr br 0) (λk us W hk E=>E.1 hk) ?_
    refine Rp.ls 2 (ptr br 0) (λk us W hk E=>E.1 hk) ?_
    refine Rp.hc 0 (λa W us f hu E=>?_) ?_
    . obtain⟨A,rfl,hl,ht⟩:=E
      refine⟨156,#[],?_,?_⟩
      . clear f hu
        go_simp
        try rfl
      . refine(nestNew_c W).mono ?_
        rintro e w1 ⟨rfl,rfl⟩;have l:Ln W1 R q cells (Q9 (S (some ⟨W.heap.size,0,none⟩) 1 1) [false]::_) _:=hl.box (cur:=#[G false]) 4 1 rfl
        exact⟨_,rfl,λ_=>l.s.bx aa.o,_,rfl,l,ht.below (bFz.alloc lRz _)⟩
    refine Rp.o1 0 10 ?_
    refine Rp.o1 3 13 ?_
    refine Rp.ht 1 (λa W us f hu E=>?_) ?_
    . have ay:=Rp.va f 4 14;have az:=Rp.vu hu 0 12;obtain⟨A,g1,rfl,hl,ht⟩:=E;obtain⟨u,cc,ff⟩:=hl.at_ 15
      refine⟨W.setCell ⟨R,15,none⟩ (S (some ⟨g1,0,none⟩) 1 1),?_,?_⟩
      . clear f hu
        go_simp
        try rfl
      . have l:=hl.set 15 (S (some ⟨g1,0,none⟩) 1 1)
        exact⟨λ_=>l.s.bx aa.o,g1,rfl,l,hl.tes ht 15 _⟩
    refine Rp.o1 1 11 ?_
    refine Rp.o1 6 15 ?_
    refine Rp.ht 2 (λa W us f hu E=>?_) ?_
    . have ax:=Rp.va f 7 16;obtain⟨A,g1,rfl,hl,ht⟩:=E;obtain⟨u,cc,ff⟩:=hl.at_ 16
      refine⟨W.setCell ⟨R,16,none⟩ (S none 0 0),?_,?_⟩
      . clear f hu
        go_simp
        try rfl
      . have l:=hl.set 16 (S none 0 0)
        exact⟨λ_=>l.s.bx aa.o,g1,rfl,l,hl.tes ht 16 _⟩
    exact Rp.Qj.nil
  . intro us a W f
    have ea:=Rp.ca f [10,11,12,13,14,15,16];have E:=f.ph
    simp only[Km,Tq,Rp.cv f 0 10,Rp.cv f 1 11,Rp.cu f 0 12,Rp.cv f 3 13,Rp.cv f 4 14,Rp.cv f 6 15,Rp.cv f 7 16]at ea
    clear f;subst ea;obtain⟨A,g1,rfl,hl,ht⟩:=E;have aw:=A (Cg 3);obtain⟨u,cc,ff⟩:=hl.at_ 17
    first|(replace d:=d;have HF:=Hm (And.intro (hl.set 17 (.func (.func 161) #[] #[ptr n 0,ptr m 0,ptr gh 0])) (hl.tes ht 17 (.func (.func 161) #[] #[ptr n 0,ptr m 0,ptr gh 0]))))|(replace b:=b;have HF:=Hm (And.intro (hl.set 17 (.func (.func 163) #[] #[ptr n 0,ptr m 0,ptr gh 0])) (hl.tes ht 17 (.func (.func 163) #[] #[ptr n 0,ptr m 0,ptr gh 0]))))|(have HF:=Hm (And.intro (hl.set 17 (.func (.func 166) #[] #[ptr n 0,ptr m 0,ptr gh 0])) (hl.tes ht 17 (.func (.func 166) #[] #[ptr n 0,ptr m 0,ptr gh 0]))))
    clear hl ht A
    go_wp2
    go_end0
    exact⟨rfl,x,[S va (N x) p],r,y,bd,gh,_,HX.o.1,HF.o.1,HF.o.2,HX.o.2⟩
def head160:=headX.1
def head162:=headX.2.1
def head165:=headX.2.2
end
def KeepP (off T sz n:Nat)(cl ec:List Vu)(W1:J)(R q:Nat)(cells:List Vu)(rs:List Qb)(ws:List Wd)(bad:Bool)(e:Ending)(w':J):Prop:=e=Z (.tuple #[])/\∃v',Ln W1 R q (cells.set off v') (⟨T,sz,n+1,v',cl++ec⟩::rs) w'/\Te w' q ws bad
theorem Ln.b1 {t n g:Nat}{cells cs:List Vu}{r:Qb}(h:Ln W1 R q cells (r::Yz.box t n g cs::rs) V)(j:Nat)(a:cs[j]?=some u:=by exact rfl)(hj:j<n:=by first|decide|omega):V.cell? ⟨g,j,none⟩=some u :=
 (h.s.mo.bx (t:=t) (n:=n) (g:=g) (cs:=cs) (by simp) j a hj).1
section
variable (W1:J) (R q:Nat) (cells:List Vu) (rs:List Qb) (V:J) (ws:List Wd) (bad:Bool) (n:Nat) (vl:Vu) (cl:List Vu) (b1 b2 gh:Nat) (ia:Option Ad) (il ic:Nat)
def Fz_keep157 (ty:Int)(mu:Bool)(k:Nat)(us:List Vu)(W:J):Prop:=Rp.Fz (λW=>W.cell? ⟨b1,0,none⟩=some (ptr R 5)/\W.cell? ⟨b2,0,none⟩=some (fnV 98)/\W.cell? ⟨R,5,none⟩=some vl/\W.cell? ⟨gh,0,none⟩=some (U O ty)/\W.cell? ⟨gh,1,none⟩=some (G mu)) 3 [λus W=>us=[]/\Ln W1 R q cells (⟨76,3,n,vl,cl⟩::box 74 2 gh [U O ty,G mu]::rs) W/\Te W q ws bad,λus W=>us=[Ag #[U O ty,G mu,S ia il ic]]/\Ln W1 R q cells (⟨76,3,n,vl,cl⟩::box 74 2 gh [U O ty,G mu]::rs) W/\Te W q ws bad,λus W=>∃g,us=[Ag #[U O ty,G mu,S ia il ic],S (some ⟨g,0,none⟩) 1 1]/\Ln W1 R q cells (⟨76,3,n,vl,cl⟩::box 74 2 gh [U O ty,G mu]::rs) W/\Te W q ws bad/\∀j u,([U O ty,G mu,S ia il ic]:List Vu)[j]?=some u->W.cell? ((⟨g,0,none⟩:Ad).add j)=some u,λus W=>∃g v',us=[Ag #[U O ty,G mu,S ia il ic],S (some ⟨g,0,none⟩) 1 1,v']/\Ln W1 R q cells (⟨76,3,n+1,v',cl++[U O ty,G mu,S ia il ic]⟩::box 74 2 gh [U O ty,G mu]::rs) W/\Te W q ws bad,λus W=>∃g v',us=[Ag #[U O ty,G mu,S ia il ic],S (some ⟨g,0,none⟩) 1 1,v',undef]/\Ln W1 R q (cells.set 5 v') (⟨76,3,n+1,v',cl++[U O ty,G mu,S ia il ic]⟩::box 74 2 gh [U O ty,G mu]::rs) W/\Te W q ws bad] k us W
theorem info_keep157:(Q.info? 76).map (λi=>(i.zero,i.size,i.bytes))=some (some (Ag #[U O 0,G false,S none 0 0]),3,40):=by kernel_rfl
theorem keep157 (ty:Int)(j:Bool)(h:Ln W1 R q cells (⟨76,3,n,vl,cl⟩::box 74 2 gh [U O ty,G j]::rs) V)(t:Te V q ws bad)(h1:Bt W1 R b1 (ptr R 5))(z:Bt W1 R b2 (fnV 98))(hc:cells[5]?=some vl)(F:n<=1048576):Ec Q 157 #[S ia il ic,ptr b1 0,ptr b2 0,ptr gh 0] V (KeepP 5 76 3 n cl [U O ty,G j,S ia il ic] W1 R q cells (box 74 2 gh [U O ty,G j]::rs) ws bad):=by
 have u:=Hm h1;have r:=Hm z;have A:=Hm hc;have I:=Hm F;have m:=Hm h;have E:=Hm t;clear h t h1 z hc F;go_enter func157,ntmps157;go_upto_region 0 with fail
 refine Rp.rg (nN:=16) [ptr R 5,ptr R 5,ptr R 5,vl,fnV 98,Ag #[U O ty,G j],S ia il ic,undef,undef,undef,ptr R 5,undef] [7,8,9,11] 3 (Fz_keep157 W1 R q cells rs ws bad n vl cl b1 b2 gh ia il ic ty j) ?_ ?_ ?_
 . exact⟨λ_=>⟨m.o.s.bx u.o,m.o.s.bx r.o,(m.o.s.cell 5 A.o).1,m.o.b1 0,m.o.b1 1⟩,rfl,m.o.below bFz.drew,E.o.below bFz.drew⟩
 . refine Rp.ls 1 (ptr b1 0) (λk p W hk d=>(d.1 hk).1) ?_;refine Rp.ls 1 (ptr b1 0) (λk p W hk d=>(d.1 hk).1) ?_;refine Rp.o1 1 6 ?_;refine Rp.l1 2 7 (λk p W hk d=>(d.1 hk).2.2.1) ?_;refine Rp.ls 2 (ptr b2 0) (λk p W hk d=>(d.1 hk).2.1) ?_;refine Rp.Qj.c (by kernel_rfl) (λa W kk p Kc f hk y hu d hK=>?_) ?_
   . have e3:a.tmps[3]?.getD undef=ptr gh 0:=(Rp.JQ f 3 (by kernel_rfl)).trans rfl;have hc:=(d.1 hk).2.2.2.1;have L:=(d.1 hk).2.2.2.2;refine Rp.QA (Ag #[U O ty,G j]) (Rp.Qd rfl) rfl ?_ hK;clear f hK d hu y;go_simp;try rfl
   refine Rp.os 0 (S ia il ic) ?_;refine Rp.hc 0 (λa W p f hu d=>?_) ?_
   . have e9:=Rp.va f 4 9;have ac:=Rp.va f 5 10;have ab:=Rp.va f 6 11;obtain⟨v,rfl,g,ht⟩:=d;refine⟨98,#[Ag #[U O ty,G j],S ia il ic],?_,?_⟩
     . clear f hu;go_simp;try rfl
     refine(whole98 W ia il ic ty j).mono ?_;rintro e w1 ⟨rfl,y⟩;have b:=g.below y;exact⟨_,rfl,λ_=>⟨b.s.bx u.o,b.s.bx r.o,(b.s.cell 5 A.o).1,b.b1 0,b.b1 1⟩,rfl,b,ht.below y⟩
   refine Rp.hv 1 (λa W p f hu d=>?_) ?_
   . have aa:=Rp.vu hu 0 12;obtain⟨v,rfl,g,ht⟩:=d;refine⟨(S (some ⟨W.heap.size,0,none⟩) 1 1),W.alloc (Fc #[U O ty,G j,S ia il ic] 76),?_,?_⟩
     . clear f hu;go_simp;try rfl
     have y:Bw W.heap.size W (W.alloc (Fc #[U O ty,G j,S ia il ic] 76)):=bFz.alloc lRz _;have b:=g.below y;exact⟨λ_=>⟨b.s.bx u.o,b.s.bx r.o,(b.s.cell 5 A.o).1,b.b1 0,b.b1 1⟩,W.heap.size,rfl,b,ht.below y,Qq _ _ _⟩
   refine Rp.ha 2 (λa W p f hu d Kc hK=>?_) ?_
   . have M:=Rp.va f 3 8;have D:=Rp.vu hu 1 13;obtain⟨v,g1,rfl,g,ht,C⟩:=d;have B:W.ownsRow R 76 3 vl n cl:=g.s.own.tail.head;refine Rp.ap (news:=[U O ty,G j,S ia il ic]) M B D C (by simp[Hq]) info_keep157 (by have:=I.o;unfold maxLen;omega) (by have:=I.o;omega) (Kf (Lv g.s.lt) g.s.gr.size) (λv' w' h1 z h3=>?_) hK;have l:Ln W1 R q cells (⟨76,3,n+1,v',cl++[U O ty,G j,S ia il ic]⟩::box 74 2 gh [U O ty,G j]::rs) w':=g.push z h1 h3;exact⟨λ_=>⟨l.s.bx u.o,l.s.bx r.o,(l.s.cell 5 A.o).1,l.b1 0,l.b1 1⟩,g1,v',rfl,l,g.teq z ht⟩
   refine Rp.o1 0 5 ?_;refine Rp.ht 3 (λa W p f hu d=>?_) ?_
   . have X:=Rp.va f 10 15;have Y:=Rp.vu hu 2 14;obtain⟨v,g1,v',rfl,g,ht⟩:=d;obtain⟨cc,ff⟩:=g.s.cell 5 A.o;have B:W.ownsRow R 76 3 v' (n+1) (cl++[U O ty,G j,S ia il ic]):=g.s.own.tail.head;obtain⟨a',c',rfl⟩:=Qg B;refine⟨W.setCell ⟨R,5,none⟩ (S a' (n+1) c'),?_,?_⟩
     . clear f hu B;go_simp;try rfl
     exact⟨λh=>by omega,g1,_,rfl,g.set 5 _,g.tes ht 5 _⟩
   exact Rp.Qj.nil
 intro p a W f;have H:=Rp.ca f [5,6,7,8,9,10,11,12,13,14,15];have d:=f.ph;simp only[Km,Tq,Rp.cv f 0 5,Rp.cv f 1 6,Rp.cv f 2 7,Rp.cv f 3 8,Rp.cv f 4 9,Rp.cv f 5 10,Rp.cv f 6 11,Rp.cu f 0 12,Rp.cu f 1 13,Rp.cu f 2 14,Rp.cv f 10 15]at H;clear f;subst H;obtain⟨-,g1,v',rfl,g,ht⟩:=d;go_wp2;go_end0;exact⟨rfl,v',g,ht⟩
def Fz_keep161 (ha:Option Ad)(hm hk_:Nat)(k:Nat)(us:List Vu)(W:J):Prop:=Rp.Fz (λW=>W.cell? ⟨b1,0,none⟩=some (ptr R 9)/\W.cell? ⟨b2,0,none⟩=some (fnV 101)/\W.cell? ⟨R,9,none⟩=some vl/\W.cell? ⟨gh,0,none⟩=some (S ha hm hk_)) 3 [λus W=>us=[]/\Ln W1 R q cells (⟨78,2,n,vl,cl⟩::box 25 1 gh [S ha hm hk_]::rs) W/\Te W q ws bad,λus W=>us=[Ag #[S ia il ic,S ha hm hk_]]/\Ln W1 R q cells (⟨78,2,n,vl,cl⟩::box 25 1 gh [S ha hm hk_]::rs) W/\Te W q ws bad,λus W=>∃g,us=[Ag #[S ia il ic,S ha hm hk_],S (some ⟨g,0,none⟩) 1 1]/\Ln W1 R q cells (⟨78,2,n,vl,cl⟩::box 25 1 gh [S ha hm hk_]::rs) W/\Te W q ws bad/\∀j u,([S ia il ic,S ha hm hk_]:List Vu)[j]?=some u->W.cell? ((⟨g,0,none⟩:Ad).add j)=some u,λus W=>∃g v',us=[Ag #[S ia il ic,S ha hm hk_],S (some ⟨g,0,none⟩) 1 1,v']/\Ln W1 R q cells (⟨78,2,n+1,v',cl++[S ia il ic,S ha hm hk_]⟩::box 25 1 gh [S ha hm hk_]::rs) W/\Te W q ws bad,λus W=>∃g v',us=[Ag #[S ia il ic,S ha hm hk_],S (some ⟨g,0,none⟩) 1 1,v',undef]/\Ln W1 R q (cells.set 9 v') (⟨78,2,n+1,v',cl++[S ia il ic,S ha hm hk_]⟩::box 25 1 gh [S ha hm hk_]::rs) W/\Te W q ws bad] k us W
theorem X7:(Q.info? 78).map (λi=>(i.zero,i.size,i.bytes))=some (some (Ag #[S none 0 0,S none 0 0]),2,48):=by kernel_rfl
def Fz_keep163 (ha:Option Ad)(hm hk_:Nat)(k:Nat)(us:List Vu)(W:J):Prop:=Rp.Fz (λW=>W.cell? ⟨b1,0,none⟩=some (ptr R 10)/\W.cell? ⟨b2,0,none⟩=some (fnV 104)/\W.cell? ⟨R,10,none⟩=some vl/\W.cell? ⟨gh,0,none⟩=some (S ha hm hk_)) 3 [λus W=>us=[]/\Ln W1 R q cells (⟨81,2,n,vl,cl⟩::box 79 1 gh [S ha hm hk_]::rs) W/\Te W q ws bad,λus W=>us=[Ag #[S ha hm hk_,S ia il ic]]/\Ln W1 R q cells (⟨81,2,n,vl,cl⟩::box 79 1 gh [S ha hm hk_]::rs) W/\Te W q ws bad,λus W=>∃g,us=[Ag #[S ha hm hk_,S ia il ic],S (some ⟨g,0,none⟩) 1 1]/\Ln W1 R q cells (⟨81,2,n,vl,cl⟩::box 79 1 gh [S ha hm hk_]::rs) W/\Te W q ws bad/\∀j u,([S ha hm hk_,S ia il ic]:List Vu)[j]?=some u->W.cell? ((⟨g,0,none⟩:Ad).add j)=some u,λus W=>∃g v',us=[Ag #[S ha hm hk_,S ia il ic],S (some ⟨g,0,none⟩) 1 1,v']/\Ln W1 R q cells (⟨81,2,n+1,v',cl++[S ha hm hk_,S ia il ic]⟩::box 79 1 gh [S ha hm hk_]::rs) W/\Te W q ws bad,λus W=>∃g v',us=[Ag #[S ha hm hk_,S ia il ic],S (some ⟨g,0,none⟩) 1 1,v',undef]/\Ln W1 R q (cells.set 10 v') (⟨81,2,n+1,v',cl++[S ha hm hk_,S ia il ic]⟩::box 79 1 gh [S ha hm hk_]::rs) W/\Te W q ws bad] k us W
theorem info_keep163:(Q.info? 81).map (λi=>(i.zero,i.size,i.bytes))=some (some (Ag #[S none 0 0,S none 0 0]),2,48):=by kernel_rfl
def Fz_keep166 (ha:Option Ad)(hm hk_:Nat)(k:Nat)(us:List Vu)(W:J):Prop:=Rp.Fz (λW=>W.cell? ⟨b1,0,none⟩=some (ptr R 11)/\W.cell? ⟨b2,0,none⟩=some (fnV 107)/\W.cell? ⟨R,11,none⟩=some vl/\W.cell? ⟨gh,0,none⟩=some (S ha hm hk_)) 3 [λus W=>us=[]/\Ln W1 R q cells (⟨83,2,n,vl,cl⟩::box 22 1 gh [S ha hm hk_]::rs) W/\Te W q ws bad,λus W=>us=[Ag #[S ia il ic,S ha hm hk_]]/\Ln W1 R q cells (⟨83,2,n,vl,cl⟩::box 22 1 gh [S ha hm hk_]::rs) W/\Te W q ws bad,λus W=>∃g,us=[Ag #[S ia il ic,S ha hm hk_],S (some ⟨g,0,none⟩) 1 1]/\Ln W1 R q cells (⟨83,2,n,vl,cl⟩::box 22 1 gh [S ha hm hk_]::rs) W/\Te W q ws bad/\∀j u,([S ia il ic,S ha hm hk_]:List Vu)[j]?=some u->W.cell? ((⟨g,0,none⟩:Ad).add j)=some u,λus W=>∃g v',us=[Ag #[S ia il ic,S ha hm hk_],S (some ⟨g,0,none⟩) 1 1,v']/\Ln W1 R q cells (⟨83,2,n+1,v',cl++[S ia il ic,S ha hm hk_]⟩::box 22 1 gh [S ha hm hk_]::rs) W/\Te W q ws bad,λus W=>∃g v',us=[Ag #[S ia il ic,S ha hm hk_],S (some ⟨g,0,none⟩) 1 1,v',undef]/\Ln W1 R q (cells.set 11 v') (⟨83,2,n+1,v',cl++[S ia il ic,S ha hm hk_]⟩::box 22 1 gh [S ha hm hk_]::rs) W/\Te W q ws bad] k us W
theorem X6:(Q.info? 83).map (λi=>(i.zero,i.size,i.bytes))=some (some (Ag #[S none 0 0,S none 0 0]),2,48):=by kernel_rfl
theorem keepX:(∀(W1:J) (R:Nat) (q:Nat) (cells:List Vu) (rs:List Qb) (V:J) (ws:List Wd) (bad:Bool) (n:Nat) (vl:Vu) (cl:List Vu) (b1:Nat) (b2:Nat) (gh:Nat) (ia:Option Ad) (il:Nat) (ic:Nat) (ha:Option Ad) (j b:Nat) (h:Ln W1 R q cells (⟨78,2,n,vl,cl⟩::box 25 1 gh [S ha j b]::rs) V) (t:Te V q ws bad) (h1:Bt W1 R b1 (ptr R 9)) (z:Bt W1 R b2 (fnV 101)) (hc:cells[9]?=some vl) (L:n<=1048576),Ec Q 161 #[S ia il ic,ptr b1 0,ptr b2 0,ptr gh 0] V (KeepP 9 78 2 n cl [S ia il ic,S ha j b] W1 R q cells (box 25 1 gh [S ha j b]::rs) ws bad))/\(∀(W1:J) (R:Nat) (q:Nat) (cells:List Vu) (rs:List Qb) (V:J) (ws:List Wd) (bad:Bool) (n:Nat) (vl:Vu) (cl:List Vu) (b1:Nat) (b2:Nat) (gh:Nat) (ia:Option Ad) (il:Nat) (ic:Nat) (ha:Option Ad) (j b:Nat) (h:Ln W1 R q cells (⟨81,2,n,vl,cl⟩::box 79 1 gh [S ha j b]::rs) V) (t:Te V q ws bad) (h1:Bt W1 R b1 (ptr R 10)) (z:Bt W1 R b2 (fnV 104)) (hc:cells[10]?=some vl) (L:n<=1048576),Ec Q 163 #[S ia il ic,ptr b1 0,ptr b2 0,ptr gh 0] V (KeepP 10 81 2 n cl [S ha j b,S ia il ic] W1 R q cells (box 79 1 gh [S ha j b]::rs) ws bad))/\(∀(W1:J) (R:Nat) (q:Nat) (cells:List Vu) (rs:List Qb) (V:J) (ws:List Wd) (bad:Bool) (n:Nat) (vl:Vu) (cl:List Vu) (b1:Nat) (b2:Nat) (gh:Nat) (ia:Option Ad) (il:Nat) (ic:Nat) (ha:Option Ad) (j b:Nat) (h:Ln W1 R q cells (⟨83,2,n,vl,cl⟩::box 22 1 gh [S ha j b]::rs) V) (t:Te V q ws bad) (h1:Bt W1 R b1 (ptr R 11)) (z:Bt W1 R b2 (fnV 107)) (hc:cells[11]?=some vl) (L:n<=1048576),Ec Q 166 #[S ia il ic,ptr b1 0,ptr b2 0,ptr gh 0] V (KeepP 11 83 2 n cl [S ia il ic,S ha j b] W1 R q cells (box 22 1 gh [S ha j b]::rs) ws bad)):=by
 refine⟨?c0,?c1,?c2⟩;case' c0=>have d:=0
 case' c1=>have c:=0
 case' c2=>have ad:=0
 all_goals
  intro W1 R q cells rs V ws bad n vl cl b1 b2 gh ia il ic ha j b h t h1 z hc L
  have u:=Hm h1;have r:=Hm z;have y:=Hm hc;have I:=Hm L;have p:=Hm h;have H:=Hm t;clear h t h1 z hc L
  first|(replace d:=d;go_enter func161,ntmps161)|(replace c:=c;go_enter func163,ntmps163)|(go_enter func166,ntmps166)
  go_upto_region 0 with fail
  first|(replace d:=d;refine Rp.rg (nN:=16) [ptr R 9,ptr R 9,ptr R 9,vl,fnV 101,S ha j b,S ia il ic,undef,undef,undef,ptr R 9,undef] [7,8,9,11] 3 (Fz_keep161 W1 R q cells rs ws bad n vl cl b1 b2 gh ia il ic ha j b) ?_ ?_ ?_)|(replace c:=c;refine Rp.rg (nN:=16) [ptr R 10,ptr R 10,ptr R 10,vl,fnV 104,S ha j b,S ia il ic,undef,undef,undef,ptr R 10,undef] [7,8,9,11] 3 (Fz_keep163 W1 R q cells rs ws bad n vl cl b1 b2 gh ia il ic ha j b) ?_ ?_ ?_)|(refine Rp.rg (nN:=16) [ptr R 11,ptr R 11,ptr R 11,vl,fnV 107,S ha j b,S ia il ic,undef,undef,undef,ptr R 11,undef] [7,8,9,11] 3 (Fz_keep166 W1 R q cells rs ws bad n vl cl b1 b2 gh ia il ic ha j b) ?_ ?_ ?_)
  . first|(replace d:=d;exact⟨λ_=>⟨p.o.s.bx u.o,p.o.s.bx r.o,(p.o.s.cell 9 y.o).1,p.o.b1 0⟩,rfl,p.o.below bFz.drew,H.o.below bFz.drew⟩)|(replace c:=c;exact⟨λ_=>⟨p.o.s.bx u.o,p.o.s.bx r.o,(p.o.s.cell 10 y.o).1,p.o.b1 0⟩,rfl,p.o.below bFz.drew,H.o.below bFz.drew⟩)|(exact⟨λ_=>⟨p.o.s.bx u.o,p.o.s.bx r.o,(p.o.s.cell 11 y.o).1,p.o.b1 0⟩,rfl,p.o.below bFz.drew,H.o.below bFz.drew⟩)
  . refine Rp.ls 1 (ptr b1 0) (λk C W hk v=>(v.1 hk).1) ?_
    refine Rp.ls 1 (ptr b1 0) (λk C W hk v=>(v.1 hk).1) ?_
    refine Rp.o1 1 6 ?_
    refine Rp.l1 2 7 (λk C W hk v=>(v.1 hk).2.2.1) ?_
    refine Rp.ls 2 (ptr b2 0) (λk C W hk v=>(v.1 hk).2.1) ?_
    refine Rp.ls 3 (ptr gh 0) (λk C W hk v=>(v.1 hk).2.2.2) ?_
    refine Rp.os 0 (S ia il ic) ?_
    refine Rp.hc 0 (λa W C f hu v=>?_) ?_
    . have e9:=Rp.va f 4 9;have ai:=Rp.va f 5 10;have ah:=Rp.va f 6 11;obtain⟨D,rfl,m,ht⟩:=v
      first|(replace d:=d;refine⟨101,#[S ha j b,S ia il ic],?_,?_⟩)|(replace c:=c;refine⟨104,#[S ha j b,S ia il ic],?_,?_⟩)|(refine⟨107,#[S ha j b,S ia il ic],?_,?_⟩)
      . clear f hu
        go_simp
        try rfl
      . first|(replace d:=d;refine(whole101 W ia il ic ha j b).mono ?_)|(replace c:=c;refine(whole104 W ia il ic ha j b).mono ?_)|(refine(whole107 W ia il ic ha j b).mono ?_)
        rintro e w1 ⟨rfl,A⟩;have g:=m.below A
        first|(replace d:=d;exact⟨_,rfl,λ_=>⟨g.s.bx u.o,g.s.bx r.o,(g.s.cell 9 y.o).1,g.b1 0⟩,rfl,g,ht.below A⟩)|(replace c:=c;exact⟨_,rfl,λ_=>⟨g.s.bx u.o,g.s.bx r.o,(g.s.cell 10 y.o).1,g.b1 0⟩,rfl,g,ht.below A⟩)|(exact⟨_,rfl,λ_=>⟨g.s.bx u.o,g.s.bx r.o,(g.s.cell 11 y.o).1,g.b1 0⟩,rfl,g,ht.below A⟩)
    refine Rp.hv 1 (λa W C f hu v=>?_) ?_
    . have ag:=Rp.vu hu 0 12;obtain⟨D,rfl,m,ht⟩:=v
      first|(replace d:=d;refine⟨(S (some ⟨W.heap.size,0,none⟩) 1 1),W.alloc (Fc #[S ia il ic,S ha j b] 78),?_,?_⟩)|(replace c:=c;refine⟨(S (some ⟨W.heap.size,0,none⟩) 1 1),W.alloc (Fc #[S ha j b,S ia il ic] 81),?_,?_⟩)|(refine⟨(S (some ⟨W.heap.size,0,none⟩) 1 1),W.alloc (Fc #[S ia il ic,S ha j b] 83),?_,?_⟩)
      . clear f hu
        go_simp
        try rfl
      . first|(replace d:=d;have A:Bw W.heap.size W (W.alloc (Fc #[S ia il ic,S ha j b] 78)):=bFz.alloc lRz _)|(replace c:=c;have A:Bw W.heap.size W (W.alloc (Fc #[S ha j b,S ia il ic] 81)):=bFz.alloc lRz _)|(have A:Bw W.heap.size W (W.alloc (Fc #[S ia il ic,S ha j b] 83)):=bFz.alloc lRz _)
        have g:=m.below A
        first|(replace d:=d;exact⟨λ_=>⟨g.s.bx u.o,g.s.bx r.o,(g.s.cell 9 y.o).1,g.b1 0⟩,W.heap.size,rfl,g,ht.below A,Qq _ _ _⟩)|(replace c:=c;exact⟨λ_=>⟨g.s.bx u.o,g.s.bx r.o,(g.s.cell 10 y.o).1,g.b1 0⟩,W.heap.size,rfl,g,ht.below A,Qq _ _ _⟩)|(exact⟨λ_=>⟨g.s.bx u.o,g.s.bx r.o,(g.s.cell 11 y.o).1,g.b1 0⟩,W.heap.size,rfl,g,ht.below A,Qq _ _ _⟩)
    refine Rp.ha 2 (λa W C f hu v Kc hK=>?_) ?_
    . have M:=Rp.va f 3 8;have F:=Rp.vu hu 1 13;obtain⟨D,g1,rfl,m,ht,E⟩:=v
      first|(replace d:=d;have B:W.ownsRow R 78 2 vl n cl:=m.s.own.tail.head)|(replace c:=c;have B:W.ownsRow R 81 2 vl n cl:=m.s.own.tail.head)|(have B:W.ownsRow R 83 2 vl n cl:=m.s.own.tail.head)
      first|(replace d:=d;refine Rp.ap (news:=[S ia il ic,S ha j b]) M B F E (by simp[Hq]) X7 (by have:=I.o;unfold maxLen;omega) (by have:=I.o;omega) (Kf (Lv m.s.lt) m.s.gr.size) (λv' w' h1 z h3=>?_) hK)|(replace c:=c;refine Rp.ap (news:=[S ha j b,S ia il ic]) M B F E (by simp[Hq]) info_keep163 (by have:=I.o;unfold maxLen;omega) (by have:=I.o;omega) (Kf (Lv m.s.lt) m.s.gr.size) (λv' w' h1 z h3=>?_) hK)|(refine Rp.ap (news:=[S ia il ic,S ha j b]) M B F E (by simp[Hq]) X6 (by have:=I.o;unfold maxLen;omega) (by have:=I.o;omega) (Kf (Lv m.s.lt) m.s.gr.size) (λv' w' h1 z h3=>?_) hK)
      first|(replace d:=d;have l:Ln W1 R q cells (⟨78,2,n+1,v',cl++[S ia il ic,S ha j b]⟩::box 25 1 gh [S ha j b]::rs) w':=m.push z h1 h3)|(replace c:=c;have l:Ln W1 R q cells (⟨81,2,n+1,v',cl++[S ha j b,S ia il ic]⟩::box 79 1 gh [S ha j b]::rs) w':=m.push z h1 h3)|(have l:Ln W1 R q cells (⟨83,2,n+1,v',cl++[S ia il ic,S ha j b]⟩::box 22 1 gh [S ha j b]::rs) w':=m.push z h1 h3)
      first|(replace d:=d;exact⟨λ_=>⟨l.s.bx u.o,l.s.bx r.o,(l.s.cell 9 y.o).1,l.b1 0⟩,g1,v',rfl,l,m.teq z ht⟩)|(replace c:=c;exact⟨λ_=>⟨l.s.bx u.o,l.s.bx r.o,(l.s.cell 10 y.o).1,l.b1 0⟩,g1,v',rfl,l,m.teq z ht⟩)|(exact⟨λ_=>⟨l.s.bx u.o,l.s.bx r.o,(l.s.cell 11 y.o).1,l.b1 0⟩,g1,v',rfl,l,m.teq z ht⟩)
    refine Rp.o1 0 5 ?_
    refine Rp.ht 3 (λa W C f hu v=>?_) ?_
    . have ae:=Rp.va f 10 15;have af:=Rp.vu hu 2 14;obtain⟨D,g1,v',rfl,m,ht⟩:=v
      first|(replace d:=d;obtain⟨cc,ff⟩:=m.s.cell 9 y.o)|(replace c:=c;obtain⟨cc,ff⟩:=m.s.cell 10 y.o)|(obtain⟨cc,ff⟩:=m.s.cell 11 y.o)
      first|(replace d:=d;have B:W.ownsRow R 78 2 v' (n+1) (cl++[S ia il ic,S ha j b]):=m.s.own.tail.head)|(replace c:=c;have B:W.ownsRow R 81 2 v' (n+1) (cl++[S ha j b,S ia il ic]):=m.s.own.tail.head)|(have B:W.ownsRow R 83 2 v' (n+1) (cl++[S ia il ic,S ha j b]):=m.s.own.tail.head)
      obtain⟨Y,X,rfl⟩:=Qg B
      first|(replace d:=d;refine⟨W.setCell ⟨R,9,none⟩ (S Y (n+1) X),?_,?_⟩)|(replace c:=c;refine⟨W.setCell ⟨R,10,none⟩ (S Y (n+1) X),?_,?_⟩)|(refine⟨W.setCell ⟨R,11,none⟩ (S Y (n+1) X),?_,?_⟩)
      . clear f hu B
        go_simp
        try rfl
      . first|(replace d:=d;exact⟨λh=>by omega,g1,_,rfl,m.set 9 _,m.tes ht 9 _⟩)|(replace c:=c;exact⟨λh=>by omega,g1,_,rfl,m.set 10 _,m.tes ht 10 _⟩)|(exact⟨λh=>by omega,g1,_,rfl,m.set 11 _,m.tes ht 11 _⟩)
    exact Rp.Qj.nil
  . intro C a W f
    have ea:=Rp.ca f [5,6,7,8,9,10,11,12,13,14,15];have v:=f.ph
    simp only[Km,Tq,Rp.cv f 0 5,Rp.cv f 1 6,Rp.cv f 2 7,Rp.cv f 3 8,Rp.cv f 4 9,Rp.cv f 5 10,Rp.cv f 6 11,Rp.cu f 0 12,Rp.cu f 1 13,Rp.cu f 2 14,Rp.cv f 10 15]at ea
    clear f;subst ea;obtain⟨-,g1,v',rfl,m,ht⟩:=v
    go_wp2
    go_end0
    exact⟨rfl,v',m,ht⟩
def keep161:=keepX.1
def keep163:=keepX.2.1
def keep166:=keepX.2.2
end
inductive Hd where
 |glob (t:Q8)
 |elem (fs:List Int)
 |code (ls:List Grp)
 |data (bs:Wd)
structure Pend where
 hd:Hd
 is:List In
 n:List Bool
structure St where
 m:Mod
 last:Int
 op:Option Pend
def St.sz (Sz0:St):Nat:=N Sz0.m.types+N Sz0.m.cj+N Sz0.m.jv+N Sz0.m.fk+N Sz0.m.jj+N Sz0.m.fq+N Sz0.m.fj+N Sz0.m.fw+N Sz0.m.gq+N Sz0.m.gj+N Sz0.m.gx+(match Sz0.op with|none=>0|some p=>N p.is+N p.n)
def Xsz0 (m:Mod)(is:List In):Hd->Mod
 |.glob t=>{ m with fq:=m.fq++[⟨t,is⟩] }
 |.elem fs=>{ m with fw:=m.fw++[⟨is,fs⟩] }
 |.code ls=>{ m with gq:=m.gq++[⟨ls,is⟩] }
 |.data bs=>{ m with gj:=m.gj++[⟨is,Iy bs⟩] }
inductive It where
 |mod (m:Mod)
 |hd (h:Hd)
def QN (k:Nat)(m:Mod)(r:List Wd):Option It:=match k with
 |1=>(ftF r).map λx=>.mod { m with types:=m.types++[x] }
 |2=>(Xy r).map λx=>.mod { m with cj:=m.cj++[x] }
 |3=>(uF r).map λx=>.mod { m with jv:=m.jv++[x] }
 |4=>(Q5 r).map λx=>.mod { m with fk:=m.fk++[x] }
 |5=>(Q5 r).map λx=>.mod { m with jj:=m.jj++[x] }
 |6=>(gtF r).map λx=>.hd (.glob x)
 |7=>(XV r).map λx=>.mod { m with fj:=m.fj++[x] }
 |8=>if m.gk then none else (uF r).map λx=>.mod { m with gk:=true,start:=x }
 |9=>(Xo r).map λx=>.hd (.elem x)
 |10=>(Js r).map λx=>.hd (.code x)
 |11=>(datF r).map λx=>.hd (.data x)
 |_=>none
def St.put (Sz0:St)(k:Int):It->St
 |.mod m=>⟨m,k,none⟩
 |.hd h=>⟨Sz0.m,k,some ⟨h,[],[false]⟩⟩
def HdR (W1:J)(R:Nat)(kv:Vu)(rh:List Qb):Hd->Prop
 |.glob t=>∃bl bw gh,kv=.func (.func 157) #[] #[ptr bl 0,ptr bw 0,ptr gh 0]/\Bt W1 R bl (ptr R 5)/\Bt W1 R bw (fnV 98)/\rh=[box 74 2 gh [U O t.ty,G t.mu]]
 |.elem fs=>∃bl bw gh a c,kv=.func (.func 161) #[] #[ptr bl 0,ptr bw 0,ptr gh 0]/\Bt W1 R bl (ptr R 9)/\Bt W1 R bw (fnV 101)/\rh=[box 25 1 gh [S a (N fs) c],nR (S a (N fs) c) fs]
 |.code ls=>∃bl bw gh a c,kv=.func (.func 163) #[] #[ptr bl 0,ptr bw 0,ptr gh 0]/\Bt W1 R bl (ptr R 10)/\Bt W1 R bw (fnV 104)/\rh=[box 79 1 gh [S a (N ls) c],⟨206,2,N ls,S a (N ls) c,gcs ls⟩]
 |.data bs=>∃bl bw gh a c,kv=.func (.func 166) #[] #[ptr bl 0,ptr bw 0,ptr gh 0]/\Bt W1 R bl (ptr R 11)/\Bt W1 R bw (fnV 107)/\rh=[box 22 1 gh [S a (N bs) c],bR (S a (N bs) c) (Iy bs)]
def PR (W1:J)(R:Nat)(cells:List Vu)(P:List Qb):Option Pend->Prop
 |none=>(∃a c,cells[15]?=some (S a 0 c))/\P=[]
 |some p=>∃vn vl kv r1 rh,cells[15]?=some vn/\cells[16]?=some vl/\cells[17]?=some kv/\LI' p.is vl r1/\HdR W1 R kv rh p.hd/\P=Q9 vn p.n::(r1++rh)/\p.n≠[]
structure SR (W1:J)(R:Nat)(mp:Vu)(Sz0:St)(cells:List Vu)(rs:List Qb):Prop where
 last:cells[13]?=some (U O Sz0.last)
 map:cells[14]?=some mp
 rep:∃L P,MR Sz0.m cells L/\rs.Perm (L.flatten++P)/\PR W1 R cells P Sz0.op
 ns:∀(j:Nat) (b:ByteArray),cells[j]?≠some (Pw b)
theorem Ju {cells:List Vu}(h:∀(j:Nat) (b:ByteArray),cells[j]?≠some (Pw b))(i:Nat)(a:∀b,u≠Xs b):∀(j:Nat) (b:ByteArray),(cells.set i u)[j]?≠some (Pw b):=by
 intro j b e;rw[List.getElem?_set]at e;split at e
 . split at e
   . cases e;exact a b rfl
   cases e
 exact h j b e
def XY (k:Nat)(W1:J)(R q:Nat)(mp:Vu)(Sz0:St)(r:List Wd)(bad:Bool)(e:Ending)(w':J):Prop:=e=Z (.tuple #[])/\∃cells rs ws bd,Ln W1 R q cells rs w'/\Te w' q ws bd/\(bd=false->ws=[]->bad=false/\(Sz0.op=none->∃i,QN k Sz0.m r=some i/\SR W1 R mp (Sz0.put Sz0.last i) cells rs))/\(bad=false->(QN k Sz0.m r).isSome->bd=false/\ws=[])
theorem PR.off {cells:List Vu}{P:List Qb}{o:Option Pend}(h:PR W1 R cells P o)(i:Nat)(hi:i<15)(u:Vu):PR W1 R (cells.set i u) P o:=by
 cases o with
 |none =>
  obtain⟨⟨a,c,e⟩,j⟩:=h
  exact⟨⟨a,c,by rw[Kz (by omega)];exact e⟩,j⟩
 |some p =>
  obtain⟨b,vl,g,f,d,n,m,l,k⟩:=h
  exact⟨b,vl,g,f,d,by rw[Kz (by omega)];exact n,by rw[Kz (by omega)];exact m,by rw[Kz (by omega)];exact l,k⟩
section
variable (W1:J) (R q:Nat) (mp:Vu) (cells:List Vu) (rs:List Qb) (V:J) (Sz0:St) (ws:List Wd) (bad:Bool) (h:Ln W1 R q cells rs V) (t:Tw V q ws bad) (hS:SR W1 R mp Sz0 cells rs) (hz:Sz0.sz<=1048576)
include h t hS hz
theorem item1 (b1 b2:Nat)(h1:Bt W1 R b1 (ptr R 0))(I:Bt W1 R b2 (fnV 86)):Ec Q 149 #[ptr q 0,ptr b1 0,ptr b2 0] V (XY 1 W1 R q mp Sz0 ws bad):=by
 obtain⟨L,P,n,F,f⟩:=hS.rep;obtain⟨v,B,kk,X,o,D⟩:=n.types.at_;have l:=F.trans ((D.append_right P).trans (by rw[Tv]));have p:=h.perm l;have H:N Sz0.m.types<=1048576:=by have:=hz;unfold St.sz at this;omega
 refine(into149 W1 R q cells _ V ws bad (N Sz0.m.types) v B b1 b2 p t h1 I X H).mono ?_;rintro e C ⟨rfl,x,c,r,j,Y,v',d,g,k,E,z⟩;refine⟨rfl,_,_,j,Y,g,k,λhb hw=>?_,λhb hs=>?_⟩
 . obtain⟨g1,M⟩:=E hb hw;refine⟨g1,λhop=>⟨.mod { Sz0.m with types:=Sz0.m.types++[x] },by simp only[QN,M,Lw],?_⟩⟩;rw[hop]at f;refine⟨by rw[Kz (by decide)];exact hS.last,by rw[Kz (by decide)];exact hS.map,⟨_,P,n.set_types (o.snoc d) (u:=v'),?_,?_⟩,Ju hS.ns _ (by
    obtain⟨a,b,rfl⟩:=Qg (show C.ownsRow R 137 2 v' (N Sz0.m.types+1) (B++c)from g.s.own.tail.head)
    intro b e;cases e)⟩
   . refine Ly ?_ ((Jd.back (by rw[n.ll];decide)).append_right P);simp only[Kb,Kj,Kg,Kk,Tv];refine Tp _ ?_;rw[<- Kd];refine Mg P ?_;refine List.perm_append_comm.trans ?_;rw[Kd]
   exact(show PR W1 R (cells.set 0 v') P none from PR.off f 0 (by decide) v')
 simp only[QN,Hf]at hs;obtain⟨y,A⟩:=Option.isSome_iff_exists.1 hs;exact⟨(z y hb A).1,(z y hb A).2.1⟩
theorem item2 (b1 b2:Nat)(h1:Bt W1 R b1 (ptr R 1))(M:Bt W1 R b2 (fnV 88))(hl:∀x∈ws,N x<=1048576)(I:Vs R W1):Ec Q 150 #[ptr q 0,ptr b1 0,ptr b2 0] V (XY 2 W1 R q mp Sz0 ws bad):=by
 obtain⟨L,P,n,F,f⟩:=hS.rep;obtain⟨v,B,kk,Y,o,D⟩:=n.cj.at_;have l:=F.trans ((D.append_right P).trans (by rw[Tv]));have p:=h.perm l;have H:N Sz0.m.cj<=1048576:=by have:=hz;unfold St.sz at this;omega
 refine(into150 W1 R q cells _ V ws bad (N Sz0.m.cj) v B b1 b2 p t h1 M Y H hl I).mono ?_;rintro e C ⟨rfl,x,c,r,j,bd,v',d,g,k,E,z⟩;refine⟨rfl,_,_,j,bd,g,k,λhb hw=>?_,λhb hs=>?_⟩
 . obtain⟨g1,X⟩:=E hb hw;refine⟨g1,λhop=>⟨.mod { Sz0.m with cj:=Sz0.m.cj++[x] },by simp only[QN,X,Lw],?_⟩⟩;rw[hop]at f;refine⟨by rw[Kz (by decide)];exact hS.last,by rw[Kz (by decide)];exact hS.map,⟨_,P,n.set_imps (o.snoc d) (u:=v'),?_,?_⟩,Ju hS.ns _ (by
    obtain⟨a,b,rfl⟩:=Qg (show C.ownsRow R 143 9 v' (N Sz0.m.cj+1) (B++c)from g.s.own.tail.head)
    intro b e;cases e)⟩
   . refine Ly ?_ ((Jd.back (by rw[n.ll];decide)).append_right P);simp only[Kb,Kj,Kg,Kk,Tv];refine Tp _ ?_;rw[<- Kd];refine Mg P ?_;refine List.perm_append_comm.trans ?_;rw[Kd]
   exact(show PR W1 R (cells.set 1 v') P none from PR.off f 1 (by decide) v')
 simp only[QN,Hf]at hs;obtain⟨y,A⟩:=Option.isSome_iff_exists.1 hs;exact⟨(z y hb A).1,(z y hb A).2.1⟩
theorem item3 (b1 b2:Nat)(h1:Bt W1 R b1 (ptr R 2))(M:Bt W1 R b2 (fnV 90))(hl:∀x∈ws,N x<=1048576)(I:Vs R W1):Ec Q 152 #[ptr q 0,ptr b1 0,ptr b2 0] V (XY 3 W1 R q mp Sz0 ws bad):=by
 obtain⟨L,P,n,F,f⟩:=hS.rep;obtain⟨v,B,kk,Y,o,D⟩:=n.jv.at_;have l:=F.trans ((D.append_right P).trans (by rw[Tv]));have p:=h.perm l;have H:N Sz0.m.jv<=1048576:=by have:=hz;unfold St.sz at this;omega
 refine(into152 W1 R q cells _ V ws bad (N Sz0.m.jv) v B b1 b2 p t h1 M Y H hl I).mono ?_;rintro e C ⟨rfl,x,c,r,j,bd,v',d,g,k,E,z⟩;refine⟨rfl,_,_,j,bd,g,k,λhb hw=>?_,λhb hs=>?_⟩
 . obtain⟨g1,X⟩:=E hb hw;refine⟨g1,λhop=>⟨.mod { Sz0.m with jv:=Sz0.m.jv++[x] },by simp only[QN,X,Lw],?_⟩⟩;rw[hop]at f;refine⟨by rw[Kz (by decide)];exact hS.last,by rw[Kz (by decide)];exact hS.map,⟨_,P,n.set_funcs (o.snoc d) (u:=v'),?_,?_⟩,Ju hS.ns _ (by
    obtain⟨a,b,rfl⟩:=Qg (show C.ownsRow R 2 1 v' (N Sz0.m.jv+1) (B++c)from g.s.own.tail.head)
    intro b e;cases e)⟩
   . refine Ly ?_ ((Jd.back (by rw[n.ll];decide)).append_right P);simp only[Kb,Kj,Kg,Kk,Tv];refine Tp _ ?_;rw[<- Kd];refine Mg P ?_;refine List.perm_append_comm.trans ?_;rw[Kd]
   exact(show PR W1 R (cells.set 2 v') P none from PR.off f 2 (by decide) v')
 simp only[QN,Hf]at hs;obtain⟨y,A⟩:=Option.isSome_iff_exists.1 hs;exact⟨(z y hb A).1,(z y hb A).2.1⟩
theorem item4 (b1 b2:Nat)(h1:Bt W1 R b1 (ptr R 3))(M:Bt W1 R b2 (fnV 92))(hl:∀x∈ws,N x<=1048576)(I:Vs R W1):Ec Q 153 #[ptr q 0,ptr b1 0,ptr b2 0] V (XY 4 W1 R q mp Sz0 ws bad):=by
 obtain⟨L,P,n,F,f⟩:=hS.rep;obtain⟨v,B,kk,Y,o,D⟩:=n.fk.at_;have l:=F.trans ((D.append_right P).trans (by rw[Tv]));have p:=h.perm l;have H:N Sz0.m.fk<=1048576:=by have:=hz;unfold St.sz at this;omega
 refine(into153 W1 R q cells _ V ws bad (N Sz0.m.fk) v B b1 b2 3 (by decide) p t h1 M Y H hl I).mono ?_;rintro e C ⟨rfl,x,c,r,j,bd,v',d,g,k,E,z⟩;refine⟨rfl,_,_,j,bd,g,k,λhb hw=>?_,λhb hs=>?_⟩
 . obtain⟨g1,X⟩:=E hb hw;refine⟨g1,λhop=>⟨.mod { Sz0.m with fk:=Sz0.m.fk++[x] },by simp only[QN,X,Lw],?_⟩⟩;rw[hop]at f;refine⟨by rw[Kz (by decide)];exact hS.last,by rw[Kz (by decide)];exact hS.map,⟨_,P,n.set_tabs (o.snoc d) (u:=v'),?_,?_⟩,Ju hS.ns _ (by
    obtain⟨a,b,rfl⟩:=Qg (show C.ownsRow R 120 3 v' (N Sz0.m.fk+1) (B++c)from g.s.own.tail.head)
    intro b e;cases e)⟩
   . refine Ly ?_ ((Jd.back (by rw[n.ll];decide)).append_right P);simp only[Kb,Kj,Kg,Kk,Tv];refine Tp _ ?_;rw[<- Kd];refine Mg P ?_;refine List.perm_append_comm.trans ?_;rw[Kd]
   exact(show PR W1 R (cells.set 3 v') P none from PR.off f 3 (by decide) v')
 simp only[QN,Hf]at hs;obtain⟨y,A⟩:=Option.isSome_iff_exists.1 hs;exact⟨(z y hb A).1,(z y hb A).2.1⟩
theorem item5 (b1 b2:Nat)(h1:Bt W1 R b1 (ptr R 4))(M:Bt W1 R b2 (fnV 92))(hl:∀x∈ws,N x<=1048576)(I:Vs R W1):Ec Q 153 #[ptr q 0,ptr b1 0,ptr b2 0] V (XY 5 W1 R q mp Sz0 ws bad):=by
 obtain⟨L,P,n,F,f⟩:=hS.rep;obtain⟨v,B,kk,Y,o,D⟩:=n.jj.at_;have l:=F.trans ((D.append_right P).trans (by rw[Tv]));have p:=h.perm l;have H:N Sz0.m.jj<=1048576:=by have:=hz;unfold St.sz at this;omega
 refine(into153 W1 R q cells _ V ws bad (N Sz0.m.jj) v B b1 b2 4 (by decide) p t h1 M Y H hl I).mono ?_;rintro e C ⟨rfl,x,c,r,j,bd,v',d,g,k,E,z⟩;refine⟨rfl,_,_,j,bd,g,k,λhb hw=>?_,λhb hs=>?_⟩
 . obtain⟨g1,X⟩:=E hb hw;refine⟨g1,λhop=>⟨.mod { Sz0.m with jj:=Sz0.m.jj++[x] },by simp only[QN,X,Lw],?_⟩⟩;rw[hop]at f;refine⟨by rw[Kz (by decide)];exact hS.last,by rw[Kz (by decide)];exact hS.map,⟨_,P,n.set_mems (o.snoc d) (u:=v'),?_,?_⟩,Ju hS.ns _ (by
    obtain⟨a,b,rfl⟩:=Qg (show C.ownsRow R 120 3 v' (N Sz0.m.jj+1) (B++c)from g.s.own.tail.head)
    intro b e;cases e)⟩
   . refine Ly ?_ ((Jd.back (by rw[n.ll];decide)).append_right P);simp only[Kb,Kj,Kg,Kk,Tv];refine Tp _ ?_;rw[<- Kd];refine Mg P ?_;refine List.perm_append_comm.trans ?_;rw[Kd]
   exact(show PR W1 R (cells.set 4 v') P none from PR.off f 4 (by decide) v')
 simp only[QN,Hf]at hs;obtain⟨y,A⟩:=Option.isSome_iff_exists.1 hs;exact⟨(z y hb A).1,(z y hb A).2.1⟩
theorem item7 (b1 b2:Nat)(h1:Bt W1 R b1 (ptr R 6))(M:Bt W1 R b2 (fnV 94))(hl:∀x∈ws,N x<=1048576)(I:Vs R W1):Ec Q 154 #[ptr q 0,ptr b1 0,ptr b2 0] V (XY 7 W1 R q mp Sz0 ws bad):=by
 obtain⟨L,P,n,F,f⟩:=hS.rep;obtain⟨v,B,kk,Y,o,D⟩:=n.fj.at_;have l:=F.trans ((D.append_right P).trans (by rw[Tv]));have p:=h.perm l;have H:N Sz0.m.fj<=1048576:=by have:=hz;unfold St.sz at this;omega
 refine(into154 W1 R q cells _ V ws bad (N Sz0.m.fj) v B b1 b2 p t h1 M Y H hl I).mono ?_;rintro e C ⟨rfl,x,c,r,j,bd,v',d,g,k,E,z⟩;refine⟨rfl,_,_,j,bd,g,k,λhb hw=>?_,λhb hs=>?_⟩
 . obtain⟨g1,X⟩:=E hb hw;refine⟨g1,λhop=>⟨.mod { Sz0.m with fj:=Sz0.m.fj++[x] },by simp only[QN,X,Lw],?_⟩⟩;rw[hop]at f;refine⟨by rw[Kz (by decide)];exact hS.last,by rw[Kz (by decide)];exact hS.map,⟨_,P,n.set_exps (o.snoc d) (u:=v'),?_,?_⟩,Ju hS.ns _ (by
    obtain⟨a,b,rfl⟩:=Qg (show C.ownsRow R 157 3 v' (N Sz0.m.fj+1) (B++c)from g.s.own.tail.head)
    intro b e;cases e)⟩
   . refine Ly ?_ ((Jd.back (by rw[n.ll];decide)).append_right P);simp only[Kb,Kj,Kg,Kk,Tv];refine Tp _ ?_;rw[<- Kd];refine Mg P ?_;refine List.perm_append_comm.trans ?_;rw[Kd]
   exact(show PR W1 R (cells.set 6 v') P none from PR.off f 6 (by decide) v')
 simp only[QN,Hf]at hs;obtain⟨y,A⟩:=Option.isSome_iff_exists.1 hs;exact⟨(z y hb A).1,(z y hb A).2.1⟩
end
