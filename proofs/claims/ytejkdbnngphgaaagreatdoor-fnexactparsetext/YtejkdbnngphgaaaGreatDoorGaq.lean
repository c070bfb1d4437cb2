import Derived.Test.YtejkdbnngphgaaaGreatDoorGae
import Derived.Test.YtejkdbnngphgaaaGreatDoorGab
set_option linter.all false
set_option maxHeartbeats 400000000
set_option maxRecDepth 100000
namespace Go.Proofs
open Value renaming int->U,slice->S,bool->G,agg->Ag
open IntKind renaming i64->O
open Ending renaming returned->Z
open Go renaming World->J,Calls->Ec,Value->Vu
open Tryz renaming prog->Q
open Tryz
open Value renaming slice->Ig,ownBlock->Lc
open List renaming length->N
namespace YtejkdbnngphgaaaGreatDoor
open Go.RowKit Go.Sort
theorem Qh {P:Program}{c:Code}{b:Exit->Act->J->Prop}{a:Act}{w:J}(R:J->Prop)(h:R w)(k:∀w',R w'->Code.wp P c b a w'):Code.wp P c b a w:=k w h
theorem oneJ (b:Int):∀u∈[Value.int O b],u.oneCell'=true:=by
 intro u a;simp at a;subst a;rfl
abbrev opV (kv:Vu)(dn bd:Bool):Vu:=Ag #[kv,G dn,G bd]
theorem next_done (B:Nat)(f:Vu)(d:List Int)(op:Int)(w:J)(g:B<=w.heap.size)(h:w.ownsRow B 2 1 f (N d) (I d)):Ec Q 24 #[opV f true false,U O op] w λe w'=>∃va vn vc,e=Z (opV (S va vn vc) true true)/\Gd B f.ownBlock (S va vn vc) w w':=by
 obtain⟨a,c,rfl⟩:=QL h;have j:=Hm (NX.start (dn:=true) (bd:=false) h g);clear h;go_enter func24,ntmps24;go_upto_region 1 with fail
 refine Qh (λW=>NX w B (Ig a (N d) c).ownBlock (S a (N d) c) true false d W) j.o ?_;rintro W b;clear j;have b0:=b.b0;have b1:=b.b1;have r:=b.b2;have q:=b.bf;have m:=b.r0;have l:=b.r1;have k:=b.r2;have p:=b.rf;have n:=Hm b;clear b;go_wp2;exact bodyPost_ret (v:=opV (S a (N d) c) true true) (by simp[results,results24,go_sem,m,l,k]) rfl ⟨_,_,_,rfl,((n.o.flag g true).2.fin g).2⟩
theorem nextX:(∀(B:Nat) (k:Vu) (f:List Int) (w:J) (n:B<=w.heap.size) (hl:N f<=4194304) (h:w.ownsRow B 2 1 k (N f) (I f)),Ec Q 24 #[opV k false false,U O 2] w λe w'=>∃kv',e=Z (opV kv' false false)/\w'.ownsRow B 2 1 kv' (f++[0]).length (I (f++[0]))/\Gd B k.ownBlock kv' w w')/\(∀(B:Nat) (k:Vu) (f:List Int) (w:J) (n:B<=w.heap.size) (hl:N f<=4194304) (h:w.ownsRow B 2 1 k (N f) (I f)),Ec Q 24 #[opV k false false,U O 3] w λe w'=>∃kv',e=Z (opV kv' false false)/\w'.ownsRow B 2 1 kv' (f++[0]).length (I (f++[0]))/\Gd B k.ownBlock kv' w w')/\(∀(B:Nat) (k:Vu) (f:List Int) (w:J) (n:B<=w.heap.size) (hl:N f<=4194304) (h:w.ownsRow B 2 1 k (N f) (I f)),Ec Q 24 #[opV k false false,U O 4] w λe w'=>∃kv',e=Z (opV kv' false false)/\w'.ownsRow B 2 1 kv' (f++[1]).length (I (f++[1]))/\Gd B k.ownBlock kv' w w'):=by
 refine⟨?c0,?c1,?c2⟩;case' c0=>have R:=0
 case' c1=>have M:=0
 case' c2=>have p:=0
 all_goals
  intro B k f w n hl h
  obtain⟨a,c,rfl⟩:=QL h;have F:=Hm (NX.start (dn:=false) (bd:=false) h n);clear h
  go_enter func24,ntmps24
  go_upto_region 1 with fail
  refine Qh (λW=>NX w B (Ig a (N f) c).ownBlock (S a (N f) c) false false f W) F.o ?_
  rintro W j;clear F;have b0:=j.b0;have b1:=j.b1;have E:=j.b2;have D:=j.bf;have C:=j.r0;have A:=j.r1;have z:=j.r2;have y:=j.rf;have lt:=j.lt;have own:=j.own;have q:=Hm j;clear j;have X:w.heap.size≠w.heap.size+1:=by omega
  first|(replace p:=p;go_wp2_with (at_builtin;refine wal info2 (own.alloc _) [U O 1] (cell_one_new _ _ _) (oneJ _) ?_;intro L H b d m g;have l:=Hm (q.o.pushed n b d g);obtain⟨⟨p0,p1,p2,Y⟩,u,t,s,V⟩:=l.o.2;obtain⟨va,r,rfl⟩:=QL b;clear b d m g own b0 b1 E C A z D y q))|(go_wp2_with (at_builtin;refine wal info2 (own.alloc _) [U O 0] (cell_one_new _ _ _) (oneJ _) ?_;intro L H b d m g;have l:=Hm (q.o.pushed n b d g);obtain⟨⟨p0,p1,p2,Y⟩,u,t,s,V⟩:=l.o.2;obtain⟨va,r,rfl⟩:=QL b;clear b d m g own b0 b1 E C A z D y q))
  exact bodyPost_ret (v:=opV (S va (N f+1) r) false false) (by simp[results,results24,go_sem,u,t,s,X]) rfl ⟨_,rfl,l.o.1.fin n⟩
def next_2:=nextX.1
def next_3:=nextX.2.1
def next_4:=nextX.2.2
theorem next_5n (B:Nat)(d:Vu)(w:J)(f:B<=w.heap.size)(h:w.ownsRow B 2 1 d ([]:List Int).length (I [])):Ec Q 24 #[opV d false false,U O 5] w λe w'=>∃va vn vc,e=Z (opV (S va vn vc) false true)/\Gd B d.ownBlock (S va vn vc) w w':=by
 obtain⟨a,c,rfl⟩:=QL h;have g:=Hm (NX.start (dn:=false) (bd:=false) h f);clear h;go_enter func24,ntmps24;go_upto_region 1 with fail
 refine Qh (λW=>NX w B (Ig a ([]:List Int).length c).ownBlock (S a ([]:List Int).length c) false false [] W) g.o ?_;rintro W b;clear g;have b0:=b.b0;have b1:=b.b1;have r:=b.b2;have q:=b.bf;have l:=b.r0;have k:=b.r1;have j:=b.r2;have p:=b.rf;have n:=Hm b;clear b;have m:w.heap.size≠w.heap.size+1:=by omega
 go_wp2;exact bodyPost_ret (v:=opV (S a 0 c) false true) (by simp[results,results24,go_sem,l,k,j,m]) rfl ⟨_,_,_,rfl,((n.o.flag f true).2.fin f).2⟩
theorem next_11n (B:Nat)(d:Vu)(w:J)(f:B<=w.heap.size)(h:w.ownsRow B 2 1 d ([]:List Int).length (I [])):Ec Q 24 #[opV d false false,U O 11] w λe w'=>∃kv',e=Z (opV kv' true false)/\w'.ownsRow B 2 1 kv' ([]:List Int).length (I [])/\Gd B d.ownBlock kv' w w':=by
 obtain⟨a,c,rfl⟩:=QL h;have g:=Hm (NX.start (dn:=false) (bd:=false) h f);clear h;go_enter func24,ntmps24;go_upto_region 1 with fail
 refine Qh (λW=>NX w B (Ig a ([]:List Int).length c).ownBlock (S a ([]:List Int).length c) false false [] W) g.o ?_;rintro W b;clear g;have b0:=b.b0;have b1:=b.b1;have r:=b.b2;have q:=b.bf;have l:=b.r0;have k:=b.r1;have j:=b.r2;have p:=b.rf;have n:=Hm b;clear b;have m:w.heap.size≠w.heap.size+1:=by omega
 go_wp2;exact bodyPost_ret (v:=opV (S a 0 c) true false) (by simp[results,results24,go_sem,l,k,j,m]) rfl ⟨_,rfl,((n.o.flag f true).1.fin f)⟩
theorem next_5z (B:Nat)(d:Vu)(m:List Int)(z:Int)(w:J)(f:B<=w.heap.size)(hl:N m<=4194304)(s:z=0)(h:w.ownsRow B 2 1 d (m++[z]).length (I (m++[z]))):Ec Q 24 #[opV d false false,U O 5] w λe w'=>∃va vn vc,e=Z (opV (S va vn vc) false true)/\Gd B d.ownBlock (S va vn vc) w w':=by
 rw[show(m++[z]).length=N m+1 by simp]at h;obtain⟨r,c,rfl,D,t,g⟩:=ownE_split h (by omega);have j:w.ownsRow B 2 1 (S (some ⟨r,0,none⟩) (N m+1) c) (m++[z]).length (I (m++[z])):=by rw[show(m++[z]).length=N m+1 by simp];exact h
 have k:=Hm (NX.start (dn:=false) (bd:=false) j f);clear h j;go_enter func24,ntmps24;go_upto_region 1 with fail
 refine Qh (λW=>NX w B (Ig (some ⟨r,0,none⟩) (N m+1) c).ownBlock (S (some ⟨r,0,none⟩) (N m+1) c) false false (m++[z]) W) k.o ?_;rintro W b;clear k;have b0:=b.b0;have b1:=b.b1;have H:=b.b2;have F:=b.bf;have p:=b.r0;have n:=b.r1;have l:=b.r2;have y:=b.rf;have own:=b.own;have u:=Hm b;clear b;have a:=own;rw[show(m++[z]).length=N m+1 by simp]at a;have E:W.cell? ⟨r,N m,none⟩=some (U O z):=by rw[a.cellAt (N m) (by omega)];simp
 clear a;have C:IntKind.i64.wrap (((N m+1:Nat):Int)-1)=N m:=by rw[IntKind.wrap_i64];omega
 have A:(N m:Int)<((N m+1:Nat):Int):=by omega
 have q:w.heap.size≠w.heap.size+1:=by omega
 clear own;subst s;go_wp2;exact bodyPost_ret (v:=opV (S (some ⟨r,0,none⟩) (N m+1) c) false true) (by simp[results,results24,go_sem,p,n,l,q]) rfl ⟨_,_,_,rfl,((u.o.flag f true).2.fin f).2⟩
theorem nextY:(∀(B:Nat) (f:Vu) (m:List Int) (z:Int) (w:J) (g:B<=w.heap.size) (hl:N m<=4194304) (u:z≠0) (h:w.ownsRow B 2 1 f (m++[z]).length (I (m++[z]))),Ec Q 24 #[opV f false false,U O 5] w λe w'=>∃kv',e=Z (opV kv' false false)/\w'.ownsRow B 2 1 kv' (m++[0]).length (I (m++[0]))/\Gd B f.ownBlock kv' w w')/\(∀(B:Nat) (f:Vu) (m:List Int) (z:Int) (w:J) (g:B<=w.heap.size) (hl:N m<=4194304) (h:w.ownsRow B 2 1 f (m++[z]).length (I (m++[z]))),Ec Q 24 #[opV f false false,U O 11] w λe w'=>∃kv',e=Z (opV kv' false false)/\w'.ownsRow B 2 1 kv' (N m) (I m)/\Gd B f.ownBlock kv' w w'):=by
 refine⟨?c0,?c1⟩;case' c0=>intro B f m z w g hl u h;have a:=0
 case' c1=>intro B f m z w g hl h;have j:=0
 all_goals
  rw[show(m++[z]).length=N m+1 by simp]at h;obtain⟨r,c,rfl,F,E,y⟩:=ownE_split h (by omega);have A:w.ownsRow B 2 1 (S (some ⟨r,0,none⟩) (N m+1) c) (m++[z]).length (I (m++[z])):=by rw[show(m++[z]).length=N m+1 by simp];exact h
  have C:=Hm (NX.start (dn:=false) (bd:=false) A g);clear h A
  go_enter func24,ntmps24
  go_upto_region 1 with fail
  refine Qh (λW=>NX w B (Ig (some ⟨r,0,none⟩) (N m+1) c).ownBlock (S (some ⟨r,0,none⟩) (N m+1) c) false false (m++[z]) W) C.o ?_
  rintro W d;clear C;have b0:=d.b0;have b1:=d.b1;have b2:=d.b2
  first
  | (
   replace j:=j;have Y:=d.bf)
  |skip
  have p:=d.r0;have n:=d.r1;have l:=d.r2;have H:=d.rf;have own:=d.own;have k:=Hm d;clear d;have b:=own;rw[show(m++[z]).length=N m+1 by simp]at b
  have X:W.cell? ⟨r,N m,none⟩=some (U O z):=by
   rw[b.cellAt (N m) (by omega)];simp
  first
  | (
   replace a:=a;have V:=b.frozenAt (N m))
  |skip
  clear b;have R:IntKind.i64.wrap (((N m+1:Nat):Int)-1)=N m:=by rw[IntKind.wrap_i64];omega
  first|(replace a:=a;have M:(N m:Int)<((N m+1:Nat):Int):=by omega)|(have L:(N m:Int)<=(c:Int):=by omega)
  have t:w.heap.size≠w.heap.size+1:=by omega
  have s:r≠w.heap.size:=λe=>k.o.n0 (by simp[Lc,e]);have q:r≠w.heap.size+1:=λe=>k.o.n1 (by simp[Lc,e]);clear own
  first
  | (
   replace a:=a;have D:(z==0)=false:=by simpa using u)
  |skip
  go_wp2
  first|(replace a:=a;exact bodyPost_ret (v:=opV (S (some ⟨r,0,none⟩) (N m+1) c) false false) (by simp[results,results24,go_sem,p,n,l,t,s,q]) rfl ⟨_,rfl,(k.o.set F 0).fin g⟩)|(exact bodyPost_ret (v:=opV (S (some ⟨r,0,none⟩) (N m) c) false false) (by simp[results,results24,go_sem,p,n,l,t,s,q]) rfl ⟨_,rfl,(k.o.drop g).fin g⟩)
def next_5:=nextY.1
def next_11:=nextY.2
theorem next_same (B:Nat)(f:Vu)(d:List Int)(op:Int)(w:J)(g:B<=w.heap.size)(o1:op≠2)(o2:op≠3)(o3:op≠4)(q:op≠5)(p:op≠11)(h:w.ownsRow B 2 1 f (N d) (I d)):Ec Q 24 #[opV f false false,U O op] w λe w'=>∃kv',e=Z (opV kv' false false)/\w'.ownsRow B 2 1 kv' (N d) (I d)/\Gd B f.ownBlock kv' w w':=by
 obtain⟨a,c,rfl⟩:=QL h;have j:=Hm (NX.start (dn:=false) (bd:=false) h g);clear h;go_enter func24,ntmps24;go_upto_region 1 with fail
 refine Qh (λW=>NX w B (Ig a (N d) c).ownBlock (S a (N d) c) false false d W) j.o ?_;rintro W b;clear j;have b0:=b.b0;have b1:=b.b1;have C:=b.b2;have m:=b.r0;have l:=b.r1;have k:=b.r2;have s:=b.rf;have r:=Hm b;clear b;have n:w.heap.size≠w.heap.size+1:=by omega
 have A:(op==2)=false:=by simpa using o1
 have z:(op==3)=false:=by simpa using o2
 have y:(op==4)=false:=by simpa using o3
 have u:(op==5)=false:=by simpa using q
 have t:(op==11)=false:=by simpa using p
 go_wp2;exact bodyPost_ret (v:=opV (S a (N d) c) false false) (by simp[results,results24,go_sem,m,l,k,n]) rfl ⟨_,rfl,r.o.fin g⟩
