import Derived.Test.YtaccbbndmmhenaaGreatDoorGai
set_option linter.all false
set_option maxHeartbeats 400000000
set_option maxRecDepth 100000
namespace Go.Proofs
open Value renaming int->U,slice->S,bool->G,agg->Ag
open IntKind renaming i64->O
open Ending renaming returned->Z
open Obj renaming cells->Fc
open Go renaming World->J,Calls->Ec
open Tryz renaming prog->Q
open Tryz
open Bool renaming true_and->Tg,not_eq_true->Eg,false_and->Rj
open List renaming drop_length->Ey,length->N
namespace YtaccbbndmmhenaaGreatDoor
open Go.RowKit Go.Sort
def Xz:List Grp->Int->Bool
 |[],_=>true
 |g::gs,n=>grpB g&&QB (n+g.n)&&Xz gs (n+g.n)
def Jm (c:Cod):Bool:=Xz c.locs 0&&QF c.body
theorem locs_at (l:List Grp)(k:Nat)(n:Int)(h:k<N l):Xz (l.drop k) n=(grpB (l.getD k Grp.z)&&QB (n+(l.getD k Grp.z).n)&&Xz (l.drop (k+1)) (n+(l.getD k Grp.z).n)):=by
 rw[List.drop_eq_getElem_cons h];simp[Xz,List.getD,List.getElem?_eq_getElem h]
theorem u32_r {n:Int}(h:QB n=true):0<=n/\n<4294967296:=by
 simp[QB]at h;omega
theorem igs_c (x:Cod)(F:Option Addr)(c1:Nat)(a2:Option Addr)(w:J)(X:Cod.Is 0 w x F a2)(R:Cod.LB 1048576 x):Ec Q 163 #[S F (N x.locs) c1] w λe w'=>e=Z (G (Xz x.locs 0))/\Below w.heap.size w w':=by
 obtain⟨⟨l0,_⟩,L⟩:=R;obtain⟨C,I⟩:=X;have R1:=Hm C;clear C I L;go_enter func163,ntmps163;go_wp2_with fail
 go_loopw [3,8] (λs i wr=>∃(k:Nat) (n:Int),k<=N x.locs/\i=U O k/\s=U O n/\0<=n/\n<4294967296/\Xz (x.locs.drop k) n=Xz x.locs 0/\Below w.heap.size w wr) (λ_ i _=>N x.locs-(intOf i).toNat)
 case atStart=>exact⟨0,0,Nat.zero_le _,rfl,rfl,by omega,by omega,rfl,bFz⟩
 obtain⟨k,n,hk,rfl,rfl,n0,n1,A,d⟩:=hrel;by_cases j:k<N x.locs
 . (have V:(k:Int)<(N x.locs:Int):=by omega);rcases R1.o.up (Qa d)with M|⟨b,o,Y,_,D⟩
   . rw[M]at j;simp at j
   have v:=D k j;subst Y;have f:=Hm (A.symm.trans (locs_at x.locs k n j));generalize x.locs.getD k Grp.z=g at v f;obtain⟨⟨g0,g1⟩,_⟩:=v;have q:=Hm d;clear A D d;have E:Below wr.heap.size wr (wr.alloc (Fc #[U O g.n,U O g.ty] 207)):=bFz.alloc lRz _;have t:=Hm E;clear E;have y:=Hm (igrp_c g (wr.alloc (Fc #[U O g.n,U O g.ty] 207)));by_cases l:grpB g=true
   . rw[l]at y;obtain⟨e0,e1⟩:=u32_r (by have:=l;simp[grpB]at this;exact this.1:QB g.n=true);rw[l,Tg]at f;have u:=λW=>Jw (XR (n+g.n) W);have u:=Hm u;by_cases m:QB (n+g.n)=true
     . rw[m]at u;rw[m,Tg]at f;obtain⟨s0,s1⟩:=u32_r m;clear l m;(go_wp2_with fail);refine y.o.mono ?_;rintro e B ⟨rfl,a⟩;have r:=Hm (t.o.trans (a.mono (by simp)));clear a;(go_wp2_with fail);refine(u.o _).mono ?_;rintro e H ⟨rfl,c⟩;have p:=r.o.trans (c.mono r.o.size);have d:=q.o.trans (p.mono q.o.size);clear r p c;go_wp2;(go_roundw);(case rel=>exact⟨k+1,n+g.n,by omega,by go_num,rfl,by omega,by omega,f.o.symm,d⟩);case measure=>simp[intOf];omega
     simp only[Eg]at m;rw[m]at u;rw[m,Rj]at f;clear l m;(go_wp2_with fail);refine y.o.mono ?_;rintro e B ⟨rfl,a⟩;have r:=Hm (t.o.trans (a.mono (by simp)));clear a;(go_wp2_with fail);refine(u.o _).mono ?_;rintro e H ⟨rfl,c⟩;have p:=r.o.trans (c.mono r.o.size);have d:=q.o.trans (p.mono q.o.size);clear r p c;go_wp2;go_ret;exact⟨by rw[f.o];rfl,d⟩
   simp only[Eg]at l;rw[l]at y;rw[l,Rj,Rj]at f;clear l;(go_wp2_with fail);refine y.o.mono ?_;rintro e B ⟨rfl,a⟩;have p:=t.o.trans (a.mono (by simp));have d:=q.o.trans (p.mono q.o.size);clear p a;go_wp2;go_ret;exact⟨by rw[f.o];rfl,d⟩
 have e:k=N x.locs:=by omega
 subst e;have f:Hid (Xz x.locs 0=true):=by show _=_;rw[<- A,Ey];rfl
 have q:=Hm d;clear A d;go_wp2;go_ret;exact⟨by rw[f.o];rfl,q.o⟩
theorem icod_c (x:Cod)(g:Option Addr)(c1:Nat)(d:Option Addr)(c2:Nat)(w:J)(m:Cod.Is 0 w x g d)(r:Cod.LB 1048576 x)(hp:QT x.body):Ec Q 126 #[Ag #[S g (N x.locs) c1,S d (N x.body) c2]] w λe w'=>e=Z (G (Jm x))/\Below w.heap.size w w':=by
 have s:=Hm (λ(W:J) (h:Cod.Is 0 W x g d)=>igs_c x g c1 d W h r);obtain⟨⟨D,_⟩,q⟩:=r;have HI:=Hm (λ(W:J) (b:Below w.heap.size w W)=>Cod.Is.up m (Qa b));have u:=Hm m.2;have v:=Hm q;have y:=Hm hp;clear m q hp;go_enter func126,ntmps126;go_upto_region 1 with fail
 refine Qp (λW=>Bk W w.heap.size [S g (N x.locs) c1,S d (N x.body) c2]/\Below w.heap.size w W) ⟨Bk.new,bFz.alloc lRz _⟩ ?_;rintro W ⟨n,b⟩;have t:=n.2.1 0 _ rfl;have A:=Hm n;have k:=Hm b;have c:=Hm (s.o W (HI.o W b));clear n b s;cases hM:Xz x.locs 0
 . (have p:Hid (Jm x=false):=by show _=_;simp[Jm,hM]);rw[hM]at c;clear hM;(go_wp2_with fail);refine c.o.mono ?_;rintro e l ⟨rfl,a⟩;have b:=k.o.trans (a.mono k.o.size);clear a;go_wp2;go_ret;exact⟨by rw[p.o];rfl,b⟩
 have p:Hid (Jm x=QF x.body):=by show _=_;simp[Jm,hM]
 rw[hM]at c;clear hM;go_wp2_with fail
 refine c.o.mono ?_;rintro e l ⟨rfl,a⟩;have b:=k.o.trans (a.mono k.o.size);have C:l.cell? ⟨w.heap.size,1,none⟩=some (S d (N x.body) c2):=(A.o.keep a).2.1 1 _ rfl;have z:=Hm (clo d c2 x.body l v.o y.o (u.o.up (Qa b)));have j:=Hm b;clear a b t;go_wp2_with fail
 refine z.o.mono ?_;rintro e B ⟨rfl,f⟩;have b:=j.o.trans (f.mono j.o.size);clear f;go_wp2;go_ret;exact⟨by rw[p.o];rfl,b⟩
theorem scod_c (x:Cod)(C:Option Addr)(c1:Nat)(A:Option Addr)(c2:Nat)(w:J)(X:Cod.Is 0 w x C A)(R:Cod.LB 1048576 x)(hp:QT x.body):Ec Q 58 #[Ag #[S C (N x.locs) c1,S A (N x.body) c2]] w λe w'=>e=Z (G (Jm x))/\Below w.heap.size w w':=by
 obtain⟨⟨l0,_⟩,I⟩:=R;obtain⟨E,D⟩:=X;have R1:=Hm E;have R2:=Hm D;have L1:=Hm I;have HP:=Hm hp;clear E D I hp;go_enter func58,ntmps58;go_upto_region 1 with fail
 refine Qp (λW=>Bk W w.heap.size [S C (N x.locs) c1,S A (N x.body) c2]/\Below w.heap.size w W) ⟨Bk.new,bFz.alloc lRz _⟩ ?_;rintro W ⟨f,c⟩;have H:=f.2.1 0 _ rfl;have F:=f.2.1 1 _ rfl;go_wp2_with fail
 go_loopw [3,4] (λs i wr=>∃(k:Nat) (n:Int),k<=N x.locs/\i=U O k/\s=U O n/\0<=n/\n<4294967296/\Xz (x.locs.drop k) n=Xz x.locs 0/\Bk wr w.heap.size [S C (N x.locs) c1,S A (N x.body) c2]/\Below w.heap.size w wr) (λ_ i _=>N x.locs-(intOf i).toNat)
 case atStart=>exact⟨0,0,Nat.zero_le _,rfl,rfl,by omega,by omega,rfl,f,c⟩
 clear f c H F;obtain⟨k,n,hk,rfl,rfl,n0,n1,B,f,c⟩:=hrel;have H:=f.2.1 0 _ rfl;have F:=f.2.1 1 _ rfl;by_cases j:k<N x.locs
 . (have V:(k:Int)<(N x.locs:Int):=by omega);rcases R1.o.up (Qa c)with M|⟨b,o,Y,_,L⟩
   . rw[M]at j;simp at j
   have v:=L k j;subst Y;have a:=Hm (B.symm.trans (locs_at x.locs k n j));generalize x.locs.getD k Grp.z=g at v a;obtain⟨⟨g0,g1⟩,_⟩:=v;have q:=Hm c;have BB:=Hm f;clear B L c f;have u:=Hm (X7 g.n wr);have t:=Hm (ty_c g.ty wr);have r:=Hm (X7 (n+g.n) wr);rw[show grpB g=(QB g.n&&tyB g.ty)from rfl]at a;by_cases d:QB g.n=true
   . rw[d]at u;rw[d,Tg]at a;obtain⟨e0,e1⟩:=u32_r d;by_cases p:tyB g.ty=true
     . rw[p]at t;rw[p,Tg]at a;by_cases m:QB (n+g.n)=true
       . rw[m]at r;rw[m,Tg]at a;obtain⟨s0,s1⟩:=u32_r m;clear d m p;(go_wp2_with (first|(refine u.o.mono ?_;rintro e l ⟨rfl,rfl⟩)|(refine t.o.mono ?_;rintro e l ⟨rfl,rfl⟩)|(refine r.o.mono ?_;rintro e l ⟨rfl,rfl⟩)));(go_roundw);(case rel=>exact⟨k+1,n+g.n,by omega,by go_num,rfl,by omega,by omega,a.o.symm,BB.o,q.o⟩);case measure=>simp[intOf];omega
       simp only[Eg]at m;rw[m]at r;rw[m,Rj]at a;clear d m p;(go_wp2_with (first|(refine u.o.mono ?_;rintro e l ⟨rfl,rfl⟩)|(refine t.o.mono ?_;rintro e l ⟨rfl,rfl⟩)|(refine r.o.mono ?_;rintro e l ⟨rfl,rfl⟩)));go_ret;exact⟨by rw[Jm,a.o];rfl,q.o⟩
     simp only[Eg]at p;rw[p]at t;rw[p,Rj,Rj]at a;clear d p r;(go_wp2_with (first|(refine u.o.mono ?_;rintro e l ⟨rfl,rfl⟩)|(refine t.o.mono ?_;rintro e l ⟨rfl,rfl⟩)));go_ret;exact⟨by rw[Jm,a.o];rfl,q.o⟩
   simp only[Eg]at d;rw[d]at u;rw[d,Rj,Rj,Rj]at a;clear d t r;(go_wp2_with (refine u.o.mono ?_;rintro e l ⟨rfl,rfl⟩));go_ret;exact⟨by rw[Jm,a.o];rfl,q.o⟩
 have e:k=N x.locs:=by omega
 subst e;have a:Hid (Xz x.locs 0=true):=by show _=_;rw[<- B,Ey];rfl
 have HC:=Hm (sclo A c2 x.body wr L1.o HP.o (R2.o.up (Qa c)));have q:=Hm c;clear B c f;go_wp2_with fail
 refine HC.o.mono ?_;rintro e w2 ⟨rfl,y⟩;have c:=q.o.trans (y.mono q.o.size);clear y;go_wp2;go_ret;exact⟨by rw[Jm,a.o,Tg];rfl,c⟩
