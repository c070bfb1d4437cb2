import Derived.Test.YtaccbbndmmhenaaGreatGan
set_option linter.all false
set_option maxHeartbeats 400000000
set_option maxRecDepth 100000
namespace Go.Proofs
open Value renaming int->U,slice->S,bool->G,pointer->Yp,nilIface->Nf
open IntKind renaming i64->O,u64->Ou
open Ending renaming returned->Z
open Obj renaming cells->Fc
open Go renaming World->J,Calls->Ec,Value->Vu,Addr->Ad
open Go.RowKit renaming Below->Bw
open Tryz renaming prog->Q
open Tryz
open List renaming length->N
namespace YtaccbbndmmhenaaGreat.Va
open Go.RowKit Go.Sort
variable {s:Fn}{w0 V:J}{ks:List Qb}{l:Lo}{D p q:Nat}
def FnX (D:Nat)(w0:J)(p:Nat)(sp:Vu)(l:Lo)(ks:List Qb)(r:R Fn)(e:Ending)(w':J):Prop:=(∃f,r=.error f/\e=Z (flt f)/\Mo D w0 ks w')\/∃s' ns,r=.ok s'/\e=Z Nf/\ISt D w0 p sp l (ns++ks) s' w'
theorem mem_app {ns:List Qb}:∀r∈ks,r∈ns++ks:=λr hr=>mR hr
theorem ity_0 (a b v:Int)(g:List Int)(k:Option Ad)(j:Nat)(h:ISt D w0 p (Yp (some ⟨q,0,none⟩)) l ks s V)(B:Bd s)(n:s.cq≠[])  :Ec Q 176 #[Yp (some ⟨p,0,none⟩),inV ⟨0,a,b,v,g⟩ k j] V (FnX D w0 p (Yp (some ⟨q,0,none⟩)) l ks (JC s [])):=by
 obtain⟨W,c⟩:∃W,W=V.alloc (Fc #[U O 0,U O a,U O b,U Ou v,S k (N g) j] 85):=⟨_,rfl⟩;have r:Bw V.heap.size V W:=by rw[c];exact bFz.alloc lRz _
 have kk:C5 W V.heap.size 0 (U O 0) (U O a) (U O b) (U Ou v) (S k (N g) j):=by rw[c];exact C5.new
 obtain⟨⟨L,I,H,F,E⟩,z⟩:=kk;have d:=h.keep r;have A:=Hm (ileave_c (S none 0 0) [] d (Ty.nil _ _ _ _ _) B.inv n B.bl B.st (by simp));clear d;clear h r z;go_enter func176,ntmps176;go_upto_region 1 with fail
 rw[<- c];clear c;go_wp2_with fail
 refine A.o.mono ?_;intro e C u;rcases u.cases with ⟨f,m,rfl,y⟩|⟨t,m,rfl,d⟩
 . go_wp2;go_ret;exact .inl ⟨f,m,rfl,y⟩
 go_wp2;go_ret;exact .inr ⟨t,[],m,rfl,d⟩
theorem ity_2 (a b v:Int)(j:List Int)(m:Option Ad)(k:Nat)(h:ISt D w0 p (Yp (some ⟨q,0,none⟩)) l ks s V)(B:Bd s)(H:s.cq≠[])  :Ec Q 176 #[Yp (some ⟨p,0,none⟩),inV ⟨2,a,b,v,j⟩ m k] V (FnX D w0 p (Yp (some ⟨q,0,none⟩)) l ks (.ok (QI s 2 (Qh a)))):=by
 obtain⟨W,g⟩:∃W,W=V.alloc (Fc #[U O 2,U O a,U O b,U Ou v,S m (N j) k] 85):=⟨_,rfl⟩;have E:Bw V.heap.size V W:=by rw[g];exact bFz.alloc lRz _
 have kk:C5 W V.heap.size 0 (U O 2) (U O a) (U O b) (U Ou v) (S m (N j) k):=by rw[g];exact C5.new
 obtain⟨⟨C,c1,c2,c3,Y⟩,L⟩:=kk;have A:=h.keep E;have r:=Hm A;have F:=Hm B;have t:=Hm (XL a W.drew);clear A;clear h E L;go_enter func176,ntmps176;go_upto_region 1 with fail
 rw[<- g];clear g;go_wp2_with fail
 go_region_law (first
  | (
   go_simp
   go_at_call 227
   refine t.o.mono ?_
   rintro e y ⟨z,rfl,own,c⟩;have d:Bw W.heap.size W y:=⟨c.os,c.tape,c.output,c.size,c.block⟩;have f:=r.o.new (ns:=[⟨2,1,(Qh a).length,z,I (Qh a)⟩]) d (Own.one own);have u:=Hm (ibegin_c 2 z (Qh a) f (.inr (by simp)) F.o.bl (by have:=F.o.st;omega));have X:y.cell? ⟨V.heap.size,0,none⟩=some (U O 2):=(d.cell (p:=⟨V.heap.size,0,none⟩) (World.block_lt_of_cell? W _ C)).trans C;obtain⟨va,R,rfl⟩:=Qg own;clear own c d f)
  | (
   go_simp
   go_at_call 104
   refine u.o.mono ?_
   rintro e M ⟨rfl,n⟩))
 all_goals
  go_wp2
  go_ret
  exact .inr ⟨_,_,rfl,rfl,n⟩
theorem ity_3 (a b v:Int)(j:List Int)(m:Option Ad)(k:Nat)(h:ISt D w0 p (Yp (some ⟨q,0,none⟩)) l ks s V)(B:Bd s)(H:s.cq≠[])  :Ec Q 176 #[Yp (some ⟨p,0,none⟩),inV ⟨3,a,b,v,j⟩ m k] V (FnX D w0 p (Yp (some ⟨q,0,none⟩)) l ks (.ok (QI s 3 (Qh a)))):=by
 obtain⟨W,g⟩:∃W,W=V.alloc (Fc #[U O 3,U O a,U O b,U Ou v,S m (N j) k] 85):=⟨_,rfl⟩;have E:Bw V.heap.size V W:=by rw[g];exact bFz.alloc lRz _
 have kk:C5 W V.heap.size 0 (U O 3) (U O a) (U O b) (U Ou v) (S m (N j) k):=by rw[g];exact C5.new
 obtain⟨⟨C,c1,c2,c3,Y⟩,L⟩:=kk;have A:=h.keep E;have r:=Hm A;have F:=Hm B;have t:=Hm (XL a W.drew);clear A;clear h E L;go_enter func176,ntmps176;go_upto_region 1 with fail
 rw[<- g];clear g;go_wp2_with fail
 go_region_law (first
  | (
   go_simp
   go_at_call 227
   refine t.o.mono ?_
   rintro e y ⟨z,rfl,own,c⟩;have d:Bw W.heap.size W y:=⟨c.os,c.tape,c.output,c.size,c.block⟩;have f:=r.o.new (ns:=[⟨2,1,(Qh a).length,z,I (Qh a)⟩]) d (Own.one own);have u:=Hm (ibegin_c 3 z (Qh a) f (.inr (by simp)) F.o.bl (by have:=F.o.st;omega));have X:y.cell? ⟨V.heap.size,0,none⟩=some (U O 3):=(d.cell (p:=⟨V.heap.size,0,none⟩) (World.block_lt_of_cell? W _ C)).trans C;obtain⟨va,R,rfl⟩:=Qg own;clear own c d f)
  | (
   go_simp
   go_at_call 104
   refine u.o.mono ?_
   rintro e M ⟨rfl,n⟩))
 all_goals
  go_wp2
  go_ret
  exact .inr ⟨_,_,rfl,rfl,n⟩
theorem ity_4 (a b v:Int)(k:List Int)(n:Option Ad)(m:Nat)(h:ISt D w0 p (Yp (some ⟨q,0,none⟩)) l ks s V)(B:Bd s)(t:s.cq≠[])  :Ec Q 176 #[Yp (some ⟨p,0,none⟩),inV ⟨4,a,b,v,k⟩ n m] V (FnX D w0 p (Yp (some ⟨q,0,none⟩)) l ks ((Q7 s 127).map (QI · 4 (Qh a)))):=by
 obtain⟨W,g⟩:∃W,W=V.alloc (Fc #[U O 4,U O a,U O b,U Ou v,S n (N k) m] 85):=⟨_,rfl⟩;have C:Bw V.heap.size V W:=by rw[g];exact bFz.alloc lRz _
 have kk:C5 W V.heap.size 0 (U O 4) (U O a) (U O b) (U Ou v) (S n (N k) m):=by rw[g];exact C5.new
 obtain⟨⟨c0,c1,c2,c3,c4⟩,M⟩:=kk;have j:=h.keep C;have u:=Hm j;have E:=Hm B;have y:=Hm (XL a W);clear j;clear h C M;go_enter func176,ntmps176;go_upto_region 1 with fail
 rw[<- g];clear g;go_wp2_with fail
 refine y.o.mono ?_;rintro e X ⟨A,rfl,own,c⟩;have d:=u.o.new (ns:=[⟨2,1,(Qh a).length,A,I (Qh a)⟩]) c (Own.one own);have z:=Hm (ibeginIf_c A (Qh a) d (.inr (by simp)) t E.o.bl E.o.st);obtain⟨va,Y,rfl⟩:=Qg own;clear own c d;go_wp2_with fail
 refine z.o.mono ?_;intro e R H;rcases H.cases with ⟨f,r,rfl,L⟩|⟨F,r,rfl,j⟩
 . go_wp2;go_ret;exact .inl ⟨f,r,rfl,L.tail⟩
 go_wp2;go_ret;exact .inr ⟨F,_,r,rfl,j⟩
theorem ity_5 (a b v:Int)(g:List Int)(k:Option Ad)(j:Nat)(h:ISt D w0 p (Yp (some ⟨q,0,none⟩)) l ks s V)(B:Bd s)(n:s.cq≠[])  :Ec Q 176 #[Yp (some ⟨p,0,none⟩),inV ⟨5,a,b,v,g⟩ k j] V (FnX D w0 p (Yp (some ⟨q,0,none⟩)) l ks ((Qw s).map λp=>QI p.2 5 p.1.results)):=by
 obtain⟨W,c⟩:∃W,W=V.alloc (Fc #[U O 5,U O a,U O b,U Ou v,S k (N g) j] 85):=⟨_,rfl⟩;have t:Bw V.heap.size V W:=by rw[c];exact bFz.alloc lRz _
 have kk:C5 W V.heap.size 0 (U O 5) (U O a) (U O b) (U Ou v) (S k (N g) j):=by rw[c];exact C5.new
 obtain⟨⟨L,I,H,F,E⟩,z⟩:=kk;have d:=h.keep t;have A:=Hm (iotherwise_c d B.inv n B.bl B.st (λb r=>by have:=B.rl b r;omega));clear d;clear h t z;go_enter func176,ntmps176;go_upto_region 1 with fail
 rw[<- c];clear c;go_wp2_with fail
 refine A.o.mono ?_;intro e C y;rcases y.cases with ⟨f,m,rfl,r⟩|⟨u,m,rfl,d⟩
 . go_wp2;go_ret;exact .inl ⟨f,m,rfl,r⟩
 go_wp2;go_ret;exact .inr ⟨u,[],m,rfl,d⟩
theorem ity_11 (a b v:Int)(g:List Int)(k:Option Ad)(j:Nat)(h:ISt D w0 p (Yp (some ⟨q,0,none⟩)) l ks s V)(B:Bd s)(n:s.cq≠[])  :Ec Q 176 #[Yp (some ⟨p,0,none⟩),inV ⟨11,a,b,v,g⟩ k j] V (FnX D w0 p (Yp (some ⟨q,0,none⟩)) l ks ((Qw s).bind λp=>if p.1.op=4/\p.1.results≠[]then .error 6 else .ok (push p.2 p.1.results))):=by
 obtain⟨W,c⟩:∃W,W=V.alloc (Fc #[U O 11,U O a,U O b,U Ou v,S k (N g) j] 85):=⟨_,rfl⟩;have t:Bw V.heap.size V W:=by rw[c];exact bFz.alloc lRz _
 have kk:C5 W V.heap.size 0 (U O 11) (U O a) (U O b) (U Ou v) (S k (N g) j):=by rw[c];exact C5.new
 obtain⟨⟨L,I,H,F,E⟩,z⟩:=kk;have d:=h.keep t;have A:=Hm (iend_c d B.inv n B.bl B.st (λb r=>by have:=B.rl b r;omega));clear d;clear h t z;go_enter func176,ntmps176;go_upto_region 1 with fail
 rw[<- c];clear c;go_wp2_with fail
 refine A.o.mono ?_;intro e C y;rcases y.cases with ⟨f,m,rfl,r⟩|⟨u,m,rfl,d⟩
 . go_wp2;go_ret;exact .inl ⟨f,m,rfl,r⟩
 go_wp2;go_ret;exact .inr ⟨u,[],m,rfl,d⟩
theorem ity_12 (j:Nat)(b v:Int)(u:List Int)(z:Option Ad)(y:Nat)(h:ISt D w0 p (Yp (some ⟨q,0,none⟩)) l ks s V)(B:Bd s)(C:s.cq≠[])(E:j<N s.cq):Ec Q 176 #[Yp (some ⟨p,0,none⟩),inV ⟨12,(j:Int),b,v,u⟩ z y] V (FnX D w0 p (Yp (some ⟨q,0,none⟩)) l ks (JC s (label s j).gj)):=by
 obtain⟨W,t⟩:∃W,W=V.alloc (Fc #[U O 12,U O (j:Int),U O b,U Ou v,S z (N u) y] 85):=⟨_,rfl⟩;have F:Bw V.heap.size V W:=by rw[t];exact bFz.alloc lRz _
 have kk:C5 W V.heap.size 0 (U O 12) (U O (j:Int)) (U O b) (U Ou v) (S z (N u) y):=by rw[t];exact C5.new
 obtain⟨⟨c0,c1,c2,c3,c4⟩,cf⟩:=kk;have a:=h.keep F;obtain⟨g,k,c,tv,rv,X,d5,dt,_,r,_⟩:=a.lab E;obtain⟨I,H,d,_⟩:=r.st a;have R:k<=1048577:=by have:=B.bl;omega
 have m:=Hm (ilabel_c p g k c (j:Int) W d5 (by omega) (by omega) (by omega));simp only[Int.toNat_natCast]at m;have hl:=B.tl _ (Xc E);rw[d]at dt r;have HC:=Hm (λn=>ileave_c (S I (label s j).gj.length H) (label s j).gj (a.keep (W:=W.drewN n) ⟨rfl,rfl,rfl,lRz,λ_ _=>rfl⟩) r B.inv C B.bl B.st (by omega));clear a X r d E;clear h F cf;go_enter func176,ntmps176;go_upto_region 1 with fail
 rw[<- t];clear t;go_wp2_with fail
 refine m.o.mono ?_;rintro e w2 ⟨rfl,n,rfl⟩;go_wp2_with fail
 refine(HC.o n).mono ?_;intro e w1 M;rcases M.cases with ⟨f,A,rfl,Y⟩|⟨L,A,rfl,a⟩
 . go_wp2;go_ret;exact .inl ⟨f,A,rfl,Y⟩
 go_wp2;go_ret;exact .inr ⟨L,[],A,rfl,a⟩
theorem ity_14 (j:Nat)(b v:Int)(c:List Int)(g:Option Ad)(d:Nat)(h:ISt D w0 p (Yp (some ⟨q,0,none⟩)) l ks s V)(B:Bd s)(F:s.cq≠[])(H:j<N s.cq)(z:Ty D w0 [] (S g (N c) d) c)(t:N c<=1048577)(k:∀i∈c,0<=i/\i<N s.cq):Ec Q 176 #[Yp (some ⟨p,0,none⟩),inV ⟨14,(j:Int),b,v,c⟩ g d] V (FnX D w0 p (Yp (some ⟨q,0,none⟩)) l ks ((Q7 s 127).bind λa=>if c.all (λi=>decide ((label a i).gj=(label a j).gj))then JC a (label a j).gj else .error 6)):=by
 obtain⟨W,m⟩:∃W,W=V.alloc (Fc #[U O 14,U O (j:Int),U O b,U Ou v,S g (N c) d] 85):=⟨_,rfl⟩;have A:Bw V.heap.size V W:=by rw[m];exact bFz.alloc lRz _
 have kk:C5 W V.heap.size 0 (U O 14) (U O (j:Int)) (U O b) (U Ou v) (S g (N c) d):=by rw[m];exact C5.new
 obtain⟨⟨c0,c1,Y,X,R⟩,I⟩:=kk;have n:=h.keep A;obtain⟨M,y⟩:∃M,M=((Q7 s 127).bind λa=>if c.all (λi=>decide ((label a i).gj=(label a j).gj))then JC a (label a j).gj else .error 6):=⟨_,rfl⟩;rw[<- y];have C:=Hm (ibrTable_c j b v c g d n B.inv H B.bl B.st (λb u=>by have:=B.tl b u;omega) z t k);rw[<- y]at C;clear n y z k;clear h A I;go_enter func176,ntmps176;go_upto_region 1 with fail
 rw[<- m];clear m;go_wp2_with fail
 refine C.o.mono ?_;intro e L E;rcases E.cases with ⟨f,r,rfl,u⟩|⟨a,r,rfl,n⟩
 . go_wp2;go_ret;exact .inl ⟨f,r,rfl,u⟩
 go_wp2;go_ret;exact .inr ⟨a,[],r,rfl,n⟩
theorem ity_15 (a b v:Int)(A:List Int)(E:Option Ad)(C:Nat)(h:ISt D w0 p (Yp (some ⟨q,0,none⟩)) l ks s V)(B:Bd s)(m:s.cq≠[])  :Ec Q 176 #[Yp (some ⟨p,0,none⟩),inV ⟨15,a,b,v,A⟩ E C] V (FnX D w0 p (Yp (some ⟨q,0,none⟩)) l ks (JC s (s.cq.headD ⟨0,[],[],0,false⟩).results)):=by
 obtain⟨W,y⟩:∃W,W=V.alloc (Fc #[U O 15,U O a,U O b,U Ou v,S E (N A) C] 85):=⟨_,rfl⟩;have ba:Bw V.heap.size V W:=by rw[y];exact bFz.alloc lRz _
 have kk:C5 W V.heap.size 0 (U O 15) (U O a) (U O b) (U Ou v) (S E (N A) C):=by rw[y];exact C5.new
 obtain⟨⟨c0,c1,c2,c3,c4⟩,cf⟩:=kk;have r:=h.keep ba;obtain⟨u,H⟩:∃u,N s.cq=u+1:=⟨N s.cq-1,by have:=List.length_pos_iff.2 m;omega⟩;obtain⟨g,k,c,tv,rv,X,d5,_,dr,_,n⟩:=r.lab (j:=u) (by omega);have I:k=u:=by omega
 subst I;rw[Nat.sub_self,Nat.zero_mul,Nat.zero_add]at dr;have d:label s k=s.cq.headD ⟨0,[],[],0,false⟩:=by
  rw[label,Int.toNat_natCast,X,Nat.add_sub_cancel,Nat.sub_self];cases L:s.cq with
  |nil=>exact absurd L m
  |cons z zs=>rfl
 have M:=B.rl _ (Xc (s:=s) (j:=k) (by omega));rw[d]at n M;obtain⟨R,Y⟩:∃R,R=(s.cq.headD ⟨0,[],[],0,false⟩).results:=⟨_,rfl⟩;rw[<- Y]at n M⊢;obtain⟨ta,tc,t,_⟩:=n.st r;rw[t]at dr n;have HC:=Hm (ileave_c (S ta (N R) tc) R r n B.inv m B.bl B.st (by omega));clear r X n t Y d H;clear h ba cf;go_enter func176,ntmps176;go_upto_region 1 with fail
 rw[<- y];clear y;go_wp2_with fail
 refine HC.o.mono ?_;intro e w1 hp;rcases hp.cases with ⟨f,F,rfl,L⟩|⟨s',F,rfl,r⟩
 . go_wp2;go_ret;exact .inl ⟨f,F,rfl,L⟩
 go_wp2;go_ret;exact .inr ⟨s',[],F,rfl,r⟩
theorem ity_26 (a b v:Int)(g:List Int)(k:Option Ad)(j:Nat)(h:ISt D w0 p (Yp (some ⟨q,0,none⟩)) l ks s V)(B:Bd s)(n:s.cq≠[])  :Ec Q 176 #[Yp (some ⟨p,0,none⟩),inV ⟨26,a,b,v,g⟩ k j] V (FnX D w0 p (Yp (some ⟨q,0,none⟩)) l ks (Q7 s 0)):=by
 obtain⟨W,c⟩:∃W,W=V.alloc (Fc #[U O 26,U O a,U O b,U Ou v,S k (N g) j] 85):=⟨_,rfl⟩;have r:Bw V.heap.size V W:=by rw[c];exact bFz.alloc lRz _
 have kk:C5 W V.heap.size 0 (U O 26) (U O a) (U O b) (U Ou v) (S k (N g) j):=by rw[c];exact C5.new
 obtain⟨⟨R,M,L,I,H⟩,A⟩:=kk;have d:=h.keep r;have C:=Hm (ipop_c 0 d n B.bl B.st);clear d;clear h r A;go_enter func176,ntmps176;go_upto_region 1 with fail
 rw[<- c];clear c;go_wp2_with fail
 refine C.o.mono ?_;rintro e E ⟨y,F⟩;rcases y.cases with ⟨f,m,rfl,z⟩|⟨u,t,m,rfl,d⟩
 . go_wp2;go_ret;exact .inl ⟨f,by rw[Q7,m];rfl,rfl,z⟩
 go_wp2;go_ret;exact .inr ⟨t,[],by rw[Q7,m];rfl,rfl,d⟩
theorem ity_27 (a b v:Int)(g:List Int)(k:Option Ad)(j:Nat)(h:ISt D w0 p (Yp (some ⟨q,0,none⟩)) l ks s V)(B:Bd s)(n:s.cq≠[])  :Ec Q 176 #[Yp (some ⟨p,0,none⟩),inV ⟨27,a,b,v,g⟩ k j] V (FnX D w0 p (Yp (some ⟨q,0,none⟩)) l ks ((Q7 s 127).bind λs1=>(pop s1 0).bind λp=>(pop p.2 p.1).map λq=>push q.2 [q.1])):=by
 obtain⟨W,c⟩:∃W,W=V.alloc (Fc #[U O 27,U O a,U O b,U Ou v,S k (N g) j] 85):=⟨_,rfl⟩;have r:Bw V.heap.size V W:=by rw[c];exact bFz.alloc lRz _
 have kk:C5 W V.heap.size 0 (U O 27) (U O a) (U O b) (U Ou v) (S k (N g) j):=by rw[c];exact C5.new
 obtain⟨⟨L,I,H,F,E⟩,z⟩:=kk;have d:=h.keep r;have A:=Hm (ichoose_c d n B.bl B.st);clear d;clear h r z;go_enter func176,ntmps176;go_upto_region 1 with fail
 rw[<- c];clear c;go_wp2_with fail
 refine A.o.mono ?_;intro e C u;rcases u.cases with ⟨f,m,rfl,y⟩|⟨t,m,rfl,d⟩
 . go_wp2;go_ret;exact .inl ⟨f,m,rfl,y⟩
 go_wp2;go_ret;exact .inr ⟨t,[],m,rfl,d⟩
theorem ity_e (op a b v:Int)(j:List Int)(n:Option Ad)(m:Nat)(h:ISt D w0 p (Yp (some ⟨q,0,none⟩)) l ks s V)(B:Bd s)(H:s.cq≠[])(c:∀k∈([0,2,3,4,5,11,12,14,15,26,27]:List Int),op≠k)(t:Qc)(F:N t.ps<=1048577)(C:N t.rs<=1048577)(g:∀W,Bw V.heap.size V W->Ec Q 236 #[Yp (some ⟨p,0,none⟩),inV ⟨op,a,b,v,j⟩ n m] W (ItP D w0 ks W t)):Ec Q 176 #[Yp (some ⟨p,0,none⟩),inV ⟨op,a,b,v,j⟩ n m] V (FnX D w0 p (Yp (some ⟨q,0,none⟩)) l ks (apply s t)):=by
 obtain⟨W,u⟩:∃W,W=V.alloc (Fc #[U O op,U O a,U O b,U Ou v,S n (N j) m] 85):=⟨_,rfl⟩;have I:Bw V.heap.size V W:=by rw[u];exact bFz.alloc lRz _
 have kk:C5 W V.heap.size 0 (U O op) (U O a) (U O b) (U Ou v) (S n (N j) m):=by rw[u];exact C5.new
 obtain⟨⟨c0,c1,c2,c3,c4⟩,cf⟩:=kk;have y:=h.keep I;have M:=Hm y;have R:=Hm B;have o0:(op==0)=false:=by simpa using c 0 (by simp)
 have o2:(op==2)=false:=by simpa using c 2 (by simp)
 have o3:(op==3)=false:=by simpa using c 3 (by simp)
 have o4:(op==4)=false:=by simpa using c 4 (by simp)
 have o5:(op==5)=false:=by simpa using c 5 (by simp)
 have ah:(op==11)=false:=by simpa using c 11 (by simp)
 have ag:(op==12)=false:=by simpa using c 12 (by simp)
 have af:(op==14)=false:=by simpa using c 14 (by simp)
 have ae:(op==15)=false:=by simpa using c 15 (by simp)
 have ad:(op==26)=false:=by simpa using c 26 (by simp)
 have ac:(op==27)=false:=by simpa using c 27 (by simp)
 have L:=Hm (g W I);clear y c g;clear h I cf;go_enter func176,ntmps176;go_upto_region 1 with fail
 rw[<- u];clear u;go_wp2_with fail
 refine L.o.mono ?_;rintro e w1 ⟨pv,rv,ns,rfl,r,own,A,z⟩;have d:=M.o.new r own;have X:=Hm (iapply_c pv rv t d A z R.o.inv H R.o.bl R.o.st F C);obtain⟨pa,pc,rfl,_⟩:=A.st d;obtain⟨ra,rc,rfl,_⟩:=z.st d;clear d r own A z;go_wp2_with fail
 refine X.o.mono ?_;intro e w2 hp;rcases hp.cases with ⟨f,E,rfl,r⟩|⟨Y,E,rfl,y⟩
 . go_wp2;go_ret;exact .inl ⟨f,E,rfl,r.right⟩
 go_wp2;go_ret;exact .inr ⟨Y,_,E,rfl,y⟩
theorem imem_c (op:Int)(w:J):Ec Q 175 #[U O op] w λe w'=>e=Z (U O (Jm op))/\w=w':=by
 go_enter func175,ntmps175;go_wp2
 all_goals
  go_ret
  exact⟨by simp_all[Jm],rfl⟩
theorem ityped_c {x:Ctx}{fo go bd:Int}{m:Spc}(y:In)(n:Option Ad)(g:Nat)(h:ISt D w0 p (Yp (some ⟨q,0,none⟩)) l ks s V)(X:SpR D w0 q x fo go bd m ks)(Y:JM D w0 ks l s.ps s.gq)(B:Bd s)(C:CxB x)(c:s.cq≠[])(z:0<=y.a)(u:y.a<=4294967295)(t:N y.l<=1048577)(tL:Ty D w0 [] (S n (N y.l) g) y.l)(A:∀i∈y.l,0<=i)(r:Qk x frm s y=true):Ec Q 176 #[Yp (some ⟨p,0,none⟩),inV y n g] V (FnX D w0 p (Yp (some ⟨q,0,none⟩)) l ks (JQ x oty s y)):=by
 obtain⟨f,a,b,v,d⟩:=y;dsimp only at z u t tL A;by_cases h0:f=0
 . subst h0;have:=ity_0 a b v d n g h B c;simpa[JQ]using this
 by_cases h2:f=2
 . subst h2;have:=ity_2 a b v d n g h B c;simpa[JQ]using this
 by_cases h3:f=3
 . subst h3;have:=ity_3 a b v d n g h B c;simpa[JQ]using this
 by_cases h4:f=4
 . subst h4;have:=ity_4 a b v d n g h B c;simpa[JQ]using this
 by_cases h5:f=5
 . subst h5;have:=ity_5 a b v d n g h B c;simpa[JQ]using this
 by_cases M:f=11
 . subst M;have:=ity_11 a b v d n g h B c;simpa[JQ]using this
 by_cases L:f=12
 . subst L;obtain⟨j,rfl⟩:∃j:Nat,a=j:=⟨a.toNat,by omega⟩;(have R:j<N s.cq:=by(have:Qk x frm s ⟨12,j,b,v,d⟩=decide ((j:Int)<N s.cq):=by simp[Qk,show frm 12=2 by decide +kernel]);rw[this]at r;simp at r;exact r);have:=ity_12 j b v d n g h B c R;simpa[JQ]using this
 by_cases I:f=14
 . subst I;obtain⟨j,rfl⟩:∃j:Nat,a=j:=⟨a.toNat,by omega⟩;(have R:(∀i∈d,i<N s.cq)/\j<N s.cq:=by(have:Qk x frm s ⟨14,j,b,v,d⟩=(d.all (λi=>decide (i<N s.cq))&&decide ((j:Int)<N s.cq)):=by simp[Qk,show frm 14=3 by decide +kernel]);rw[this]at r;simp at r;exact r);have:=ity_14 j b v d n g h B c R.2 tL t (λi hi=>⟨A i hi,R.1 i hi⟩);simpa[JQ]using this
 by_cases H:f=15
 . subst H;have:=ity_15 a b v d n g h B c;simpa[JQ]using this
 by_cases F:f=26
 . subst F;have:=ity_26 a b v d n g h B c;simpa[JQ]using this
 by_cases E:f=27
 . subst E;have:=ity_27 a b v d n g h B c;simpa[JQ]using this
 have e:JQ x oty s ⟨f,a,b,v,d⟩=apply s (QW x oty s ⟨f,a,b,v,d⟩):=by simp[JQ,h0,h2,h3,h4,h5,M,L,I,H,F,E]
 rw[e];have o:=λW (hb:Bw V.heap.size V W)=>iit_c (V:=W) ⟨f,a,b,v,d⟩ n g (h.keep hb) X Y B C z u r;exact ity_e f a b v d n g h B c (by intro k hk;simp at hk;rcases hk with rfl|rfl|rfl|rfl|rfl|rfl|rfl|rfl|rfl|rfl|rfl<;>assumption) _ (o V bFz).2.1 (o V bFz).2.2 (λW hb=>(o W hb).1)
theorem ihasAll_c {x:Ctx}{fo go bd:Int}{m:Spc}(y:In)(la)(z:Nat)(h:ISt D w0 p (Yp (some ⟨q,0,none⟩)) l ks s V)(j:SpR D w0 q x fo go bd m ks)(o:JM D w0 ks l s.ps s.gq)(B:Bd s)(f:0<=y.a)(d:y.a<=4294967295)(c:N y.l<=1048577)(A:Has V la y.l)(g:∀i∈y.l,0<=i):Ec Q 173 #[Yp (some ⟨p,0,none⟩),inV y la z] V λe w'=>e=Z (G (Qk x frm s y))/\Bw V.heap.size V w':=by
 obtain⟨u,a,b,v,t⟩:=y;dsimp only at f d c A g;have F:=B.nn;have n:=B.pl;have r:=B.gl;by_cases E:frm u=5
 . have:=ihas_m5 u a b v t la z h j o F n r f d c A g E;simpa[Qk,E]using this
 by_cases C:frm u=6
 . have:=ihas_m6 u a b v t la z h j o F n r f d c A g C;simpa[Qk,C]using this
 by_cases ac:u=12
 . subst ac;have:=ihas_12 a b v t la z h j o F n r f d c A g;simpa[Qk,E,C]using this
 by_cases ab:u=13
 . subst ab;have:=ihas_13 a b v t la z h j o F n r f d c A g;simpa[Qk,E,C]using this
 by_cases aa:u=14
 . subst aa;have:=ihas_14 a b v t la z h j o F n r f d c A g;simpa[Qk,E,C]using this
 by_cases Y:u=16
 . subst Y;have:=ihas_16 a b v t la z h j o F n r f d c A g;simpa[Qk,E,C]using this
 by_cases X:u=17
 . subst X;have:=ihas_17 a b v t la z h j o F n r f d c A g;simpa[Qk,E,C]using this
 by_cases R:u=32
 . subst R;(have e:Qk x frm s ⟨32,a,b,v,t⟩=decide (a<N s.ps+QJ s.gq):=by simp only[Qk,E,C,Xj,QJ];simp;first|done|exact decide_eq_decide.2 Iff.rfl|rfl);rw[e];exact ihas_32 a b v t la z h j o F n r f d c A g
 by_cases M:u=33
 . subst M;(have e:Qk x frm s ⟨33,a,b,v,t⟩=decide (a<N s.ps+QJ s.gq):=by simp only[Qk,E,C,Xj,QJ];simp;first|done|exact decide_eq_decide.2 Iff.rfl|rfl);rw[e];exact ihas_33 a b v t la z h j o F n r f d c A g
 by_cases L:u=34
 . subst L;(have e:Qk x frm s ⟨34,a,b,v,t⟩=decide (a<N s.ps+QJ s.gq):=by simp only[Qk,E,C,Xj,QJ];simp;first|done|exact decide_eq_decide.2 Iff.rfl|rfl);rw[e];exact ihas_34 a b v t la z h j o F n r f d c A g
 by_cases I:u=35
 . subst I;have:=ihas_35 a b v t la z h j o F n r f d c A g;simpa[Qk,E,C]using this
 by_cases H:u=36
 . subst H;have:=ihas_36 a b v t la z h j o F n r f d c A g;simpa[Qk,E,C]using this
 have:=ihas_e u a b v t la z h j o F n r f d c A g (by simpa using E) (by simpa using C) (by intro k hk;simp at hk;rcases hk with rfl|rfl|rfl|rfl|rfl|rfl|rfl|rfl|rfl|rfl<;>assumption);simpa[Qk,E,C,ac,ab,aa,Y,X,R,M,L,I,H]using this
