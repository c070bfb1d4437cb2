import Derived.Test.YtaccbbndmmhenaaGreatGaw
set_option linter.all false
set_option maxHeartbeats 400000000
set_option maxRecDepth 100000
namespace Go.Proofs
open Value renaming int->U,slice->S,bool->G,pointer->Yp,nilIface->Nf,iface->If
open IntKind renaming i64->O
open Ending renaming returned->Z
open Go renaming World->J,Calls->Ec,Addr->Ad
open Go.RowKit renaming Below->Bw
open Tryz renaming prog->Q
open Tryz
open List renaming length->N
namespace YtaccbbndmmhenaaGreat.Va
open Go.RowKit Go.Sort
variable {md:Mod}
theorem ok_z (b:wfB md=true)(c:Mod.LB 1048576 md){n k:Nat}(d:1<=n)(a:n<=11)(g:k<=QG md n)(h:OkTo md n k):Zr md n k:=λj hj=>by
 rcases ent_meet b c d a (show j<QG md n by omega)with ⟨s,_,e⟩|⟨f,p,e,_⟩
 . rw[e]
 . rw[h j hj]at e;cases e
theorem fst_e (a:wfB md=true)(c:Mod.LB 1048576 md){n i:Nat}{er:Er}(h:Fst md n i er):FsE md n i/\XZ md n i=(er.1,er.2.getD 0):=by
 have d:=ent_meet a c h.h1 h.h11 h.hi;have b:XZ md n i=(er.1,er.2.getD 0)/\er.1≠0:=by
  rcases d with ⟨s,e,_⟩|⟨f,p,e,g,j⟩
  . rw[h.er]at e;cases e
  rw[h.er]at e;cases e;exact⟨j,g⟩
 refine⟨⟨h.h1,h.h11,λm h1 h2=>ok_z a c h1 (by have:=h.h11;omega) lRz (h.up m h1 h2),h.hi,ok_z a c h.h1 h.h11 (Nat.le_of_lt h.hi) h.ok,?_⟩,b.1⟩;rw[b.1];exact b.2
theorem ihasC_c (a:Option Ad)(n c:Nat)(i:Int)(w:J):Ec Q 41 #[S a n c,U O i] w λe w'=>e=Z (G (decide (0<=i/\i<n)))/\w=w':=by
 obtain⟨r,b⟩:∃r,r=decide (0<=i/\i<(n:Int)):=⟨_,rfl⟩;rw[<- b];by_cases f:0<=i
 . (have j:decide (0<=i)=true:=by simp[f]);by_cases g:i<(n:Int)
   . (have d:Hid (r=true):=by show _=_;simp[b,f,g]);clear b;go_enter func41,ntmps41;go_wp2;go_ret;exact⟨by rw[d.o];rfl,rfl⟩
   (have d:Hid (r=false):=by show _=_;simp[b,f,g]);clear b;go_enter func41,ntmps41;go_wp2;go_ret;exact⟨by rw[d.o];rfl,rfl⟩
 have d:Hid (r=false):=by show _=_;simp[b,f]
 clear b;go_enter func41,ntmps41;go_wp2;go_ret;exact⟨by rw[d.o];rfl,rfl⟩
theorem ihasI_c (a:Option Ad)(n c:Nat)(i:Int)(w:J):Ec Q 42 #[S a n c,U O i] w λe w'=>e=Z (G (decide (0<=i/\i<n)))/\w=w':=by
 obtain⟨r,b⟩:∃r,r=decide (0<=i/\i<(n:Int)):=⟨_,rfl⟩;rw[<- b];by_cases f:0<=i
 . (have j:decide (0<=i)=true:=by simp[f]);by_cases g:i<(n:Int)
   . (have d:Hid (r=true):=by show _=_;simp[b,f,g]);clear b;go_enter func42,ntmps42;go_wp2;go_ret;exact⟨by rw[d.o];rfl,rfl⟩
   (have d:Hid (r=false):=by show _=_;simp[b,f,g]);clear b;go_enter func42,ntmps42;go_wp2;go_ret;exact⟨by rw[d.o];rfl,rfl⟩
 have d:Hid (r=false):=by show _=_;simp[b,f]
 clear b;go_enter func42,ntmps42;go_wp2;go_ret;exact⟨by rw[d.o];rfl,rfl⟩
theorem vm_cases {w j:J}{e:Ending}(s:Mod.LB 1048576 md)(h:VmP w md e j):(¬Vd md/\Bw w.heap.size w j/\∃a u,e=Z (.tuple #[Yp none,If a u]))\/(Vd md/\Bw w.heap.size w j/\∃D d q go bd nv,w.heap.size<=D/\Bw w.heap.size w d/\CD D d/\e=Z (.tuple #[Yp (some ⟨q,0,none⟩),Nf])/\SSt D d q (cxF md) ((Q4 md (N md.cj)).length:Nat) go bd nv [] j):=by
 rcases h with ⟨c,f,r⟩|⟨c,n,i,er,F,f,r⟩|⟨c,y,D,C,b,q,l,t,B,A,f,d,z,p,_,k,_⟩
 . exact .inl ⟨(λv=>by rw[v.1]at c;cases c),r,_,_,f⟩
 . exact .inl ⟨λv=>(fst_e c s F).1.er (v.2 n F.h1 (by have:=F.h11;omega) i F.hi),r,_,_,f⟩
 have g:Bw w.heap.size w d:=B.trans (p.mono l);rw[cxF_at (by omega)]at k;have o:(Qy md 12 0).fo=((Q4 md (N md.cj)).length:Nat):=by simp[Qy,kk,QG]
 rw[o]at k;refine .inr ⟨⟨c,λm l t=>ok_z c s l (by omega) lRz (y m l t)⟩,g.trans (k.mo.b.mono (by omega)),D,d,q,_,_,_,by omega,g,A.sc z,f,k⟩
