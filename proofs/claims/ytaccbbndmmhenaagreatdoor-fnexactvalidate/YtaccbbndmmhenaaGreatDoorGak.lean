import Derived.Test.YtaccbbndmmhenaaGreatDoorGai
set_option linter.all false
set_option maxHeartbeats 400000000
set_option maxRecDepth 100000
namespace Go.Proofs
open Value renaming int->U,slice->S,bool->G,pointer->Yp,agg->Ag,nilIface->Nf
open IntKind renaming i64->O
open Ending renaming returned->Z
open Obj renaming cells->Fc
open Go renaming World->J,Calls->Ec,Value->Vu
open Tryz renaming prog->Q
open Tryz
open List renaming length_cons->Ex,nil_append->Pg,cons_append->Ry,length->N
open _root_.Array renaming getElem?_push_size->Px
open World renaming block_lt_of_cell?->Kk,cell?_of_block->Tz
namespace YtaccbbndmmhenaaGreatDoor.Va
open Go.RowKit Go.Sort Go.Shelf
variable {s:Fn}{w0 V W w':J}{ks:List Qc}{l:Lo}{D p:Nat}{r:R Fn}{sp:Vu}
attribute [local go_sem] Oper.semAt_some
def upto {α:Type}(f:Nat->α)(k:Nat):List α:=(List.range k).map f
theorem upto_succ {α:Type}(f:Nat->α)(k:Nat):upto f (k+1)=upto f k++[f k]:=by simp[upto,List.range_succ]
theorem upto_length {α:Type}(f:Nat->α)(k:Nat):(upto f k).length=k:=by simp[upto]
abbrev bk (zs:List Int)(j:Nat):Int × Int:=(((N zs:Int)-1-j),zs[N zs-1-j]?.getD 0)
theorem bw1_in (F:Fence)(n:Nat)(hf:F.fn 264)(H:F.round=none)(hn:1<=n)(l Bs:Nat)(a:Option Addr)(X:Nat)(c:List Int)(D:N c<=1099511627776)(Kp:J->J->Prop) (t:∀W,Kp W W) (L:∀{A B C:J},Kp A B->Kp B C->Kp A C) (d Jx:List (Int × Int)->J->Prop) (hY:∀pre x W,d pre W->N pre<N c->YieldAt F (n-1) Q l #[U O x.1,U O x.2] W fun e W' => (e=Z (G true)/\d (pre++[x]) W'/\Kp W W')\/(e=Z (G false)/\Jx (pre++[x]) W')) (W:J) (p:∀W',Kp W W'->W'.cell? ⟨Bs,0,none⟩=some (S a (N c) X)) (hc:c=[]\/∃b off,a=some ⟨b,off,none⟩/\∀W',Kp W W'->∀j,j<N c->W'.cell? ⟨b,off+j,none⟩=some (U O (c[j]?.getD 0))) (h0:d [] W):CallsIn F n Q 264 #[.func (.yield l) #[] #[],Yp (some ⟨Bs,0,none⟩)] W λe W'=>(∃v,e=Z v) /\ ((∃ys,ys=upto (bk c) (N c)/\d ys W')\/(∃pre,(∃k,k<=N c/\pre=upto (bk c) k)/\Jx pre W')):=by
 refine callsIn_of_wp func264 rfl hf ?_ H;simp only[ntmps264,List.size_toArray,Ex,List.length_nil,Nat.reduceAdd,Nat.reduceSub,Array.replicate_succ,Array.replicate_zero,List.push_toArray,List.append_toArray,Pg,Ry];have c0:=p W (t W);have hw:IntKind.i64.wrap ((N c:Int)-1)=(N c:Int)-1:=by rw[IntKind.wrap_i64];omega
 have HC:=Hm hc;have Y:=Hm p;clear hc p;gi_wp2
 gi_loopw [3] (λi wr=>∃k:Nat,k<=N c/\i=U O ((N c:Int)-1-k)/\d (upto (bk c) k) wr/\Kp W wr)
  (λi _=>((intOf i)+1).toNat)
 case atStart=>exact⟨0,Nat.zero_le _,by simp,h0,t _⟩
 obtain⟨k,hk,rfl,u,g⟩:=hrel;have d0:=Y.o wr g;by_cases r:k<N c
 . rcases HC.o with hz|⟨b,off,ea,s⟩
   . subst hz;simp at r
   subst ea;obtain⟨j,hj⟩:∃j:Nat,j=N c-1-k:=⟨_,rfl⟩;(have m:(N c:Int)-1-k=j:=by omega);(have I:j<N c:=by omega);have d1:=s wr g j I;obtain⟨y,f⟩:∃y,y=c[j]?.getD 0:=⟨_,rfl⟩;rw[<- f]at d1;have z:=Hm f;clear f;obtain⟨fn,aa,E,ad,hy,hR⟩:=hY _ ((j:Int),y) wr u (by rw[upto_length];exact r);dsimp only at hy;rw[m];(have i1:(0:Int)<=(j:Int):=by omega);(have i2:(j:Int)<(N c:Int):=by omega);(have ak:IntKind.i64.wrap ((j:Int)-1)=(j:Int)-1:=by rw[IntKind.wrap_i64];omega);have HJ:=Hm hj;have q:=Hm m;clear hj m hw s HC;(gi_wp2);refine hR.mono ?_;rintro e W3 (⟨rfl,hJ3,hk3⟩|⟨rfl,hJx3⟩)
   . (gi_wp2);go_roundw
     case rel=>
      (have V:bk c k=((j:Int),y):=by have R:=q.o;have M:=HJ.o;simp only[bk,R,<- M,<- z.o]);refine⟨k+1,by omega,?_,?_,L g hk3⟩
      . have:=q.o;congr 1;push_cast;omega
      rw[upto_succ,V];exact hJ3
     case measure=>simp[intOf]
   (gi_wp2);refine bodyPost_ret (results_none rfl _ _ _) rfl ?_;refine⟨⟨_,rfl⟩,.inr ⟨_,⟨k+1,by omega,?_⟩,hJx3⟩⟩;(have V:bk c k=((j:Int),y):=by have R:=q.o;have M:=HJ.o;simp only[bk,R,<- M,<- z.o]);rw[upto_succ,V]
 obtain rfl:k=N c:=by omega
 have i1:¬((0:Int)<=(N c:Int)-1-(N c:Int)):=by omega
 gi_wp2
 go_end0;exact⟨⟨_,rfl⟩,.inl u⟩
theorem bw_c (F:Fence)(n:Nat)(d:F.fn 260)(c:F.round=none)(a:Option Addr)(len b:Nat)(w:J):CallsIn F n Q 260 #[S a len b] w λe w'=>e=Z (.func (.func 264) #[] #[Yp (some ⟨w.heap.size,0,none⟩)])/\w'=w.alloc (Fc #[S a len b] 24):=by
 refine callsIn_of_wp func260 rfl d ?_ c;simp only[ntmps260,List.size_toArray,Ex,List.length_nil,Nat.reduceAdd,Nat.reduceSub,Array.replicate_succ,Array.replicate_zero,List.push_toArray,List.append_toArray,Pg,Ry];gi_wp2
 go_ret;exact⟨rfl,rfl⟩
theorem Mo.turn {B:Nat}{rs}{row:Option Nat}(h:Mo D w0 rs V)(f:V.grownBy W row)(n:D<=B)(hr:∀r,row=some r->B<=r/\∃o:Obj,V.heap[r]?=some o/\o.isCells=false):Mo D w0 rs W:=by
 refine⟨h.own.grown f λk e hk=>?_,h.b.grown f h.le λk e=>Nat.le_trans n (hr k e).1,Nat.le_trans h.le f.size⟩;obtain⟨r,d,c⟩:=Jg.1 hk;obtain⟨o,l,m⟩:=(hr k e).2;rcases(h.own.all r d).2 with ⟨p,_⟩|⟨g,s,q,j,_,a,_⟩
 . rw[p]at c;cases c
 rw[j]at c;simp[Value.ownBlock]at c;subst c;rw[l]at a;cases a;cases m
theorem ISt.turn {B:Nat}{row:Option Nat}(h:ISt D w0 p sp l ks s V)(c:V.grownBy W row)(d:D<=B)(hr:∀r,row=some r->B<=r/\∃o:Obj,V.heap[r]?=some o/\o.isCells=false):ISt D w0 p sp l ks s W:=by
 obtain⟨b,j,a,g,f⟩:=h;exact⟨b,j,a,g.turn c d hr,f⟩
theorem bk_rev (a:List Int):(upto (bk a) (N a)).map (·.2)=a.reverse:=by
 apply List.ext_getElem
 . simp[upto]
 intro i c b;simp at b;simp[upto,bk,List.getElem_reverse,show(N a)-1-i<N a by omega]
theorem bk_pre (a:List Int)(k:Nat)(c:k<=N a):∃r,a.reverse=(upto (bk a) k).map (·.2)++r:=by
 refine⟨a.reverse.drop k,?_⟩;have e:(upto (bk a) k).map (·.2)=a.reverse.take k:=by
  apply List.ext_getElem
  . simp[upto];omega
  intro i d b;simp at b;simp[upto,bk,List.getElem_reverse,show(N a)-1-i<N a by omega]
 rw[e,List.take_append_drop]
theorem popR_app (s:Fn):∀(c b:List Int),XJ s (c++b)=(XJ s c).bind λs'=>XJ s' b
 |[],b=>rfl
 |a::c,b=>by
  rw[Ry,XJ,XJ]
  cases Q4 s a with
  |error f=>rfl
  |ok s1=>exact popR_app s1 c b
theorem popR_snoc (s:Fn)(a:List Int)(b:Int):XJ s (a++[b])=(XJ s a).bind λs'=>Q4 s' b:=by
 rw[popR_app];congr 1
 funext s'
 show(Q4 s' b).bind (λs'=>XJ s' [])=Q4 s' b;cases Q4 s' b<;>rfl
theorem ISt.box1 (h:ISt D w0 p sp l ks s V)(x:Vu)(e:Nat):ISt D w0 p sp l (box e 1 V.heap.size [x]::ks) s (V.alloc (Fc #[x] e)):=by
 refine h.new (ns:=[box e 1 V.heap.size [x]]) (bFz.alloc lRz _) (Own.one ?_);refine⟨rfl,.inr ⟨V.heap.size,1,#[x],rfl,lRz,?_,lRz,by decide,rfl,rfl⟩⟩;show(V.heap.push _)[V.heap.size]?=_;exact Px
theorem ISt.bxn (h:ISt D w0 p sp l ks s V)(cur:Array Vu)(e n:Nat)(hn:cur.size=n):ISt D w0 p sp l (box e n V.heap.size cur.toList::ks) s (V.alloc (Fc cur e)):=by
 refine h.new (ns:=[box e n V.heap.size cur.toList]) (bFz.alloc lRz _) (Own.one ?_);subst hn;refine⟨by simp,.inr ⟨V.heap.size,1,cur,rfl,lRz,?_,lRz,by decide,by simp,?_⟩⟩
 . show(V.heap.push _)[V.heap.size]?=_;exact Px
 show cur.toList.take (1*cur.size)=cur.toList;rw[List.take_of_length_le (by simp)]
theorem Ty.cons {v:Vu}{xs:List Int}(t:Ty D w0 ks v xs)(r:Qc):Ty D w0 (r::ks) v xs:=t.sub λ_ h=>mC h
theorem ISt.less {ns:List Qc}(h:ISt D w0 p sp l (ns++ks) s V)(hn:∀r∈ns,r.e≠2):ISt D w0 p sp l ks s V:=by
 obtain⟨f,g,d,m,k⟩:=h;have j:(bxR p sp l f g::stR s f::blR (N s.blocks) g d::(ns++ks)).Perm (ns++(bxR p sp l f g::stR s f::blR (N s.blocks) g d::ks)):=by
  classical
  rw[List.perm_iff_count];intro a;simp[List.count_cons,List.count_append];omega
 refine⟨f,g,d,(m.perm j).right,k.mono λb c ⟨tv,rv,e,t1,t2⟩=>⟨tv,rv,e,?_,?_⟩⟩
 . rcases t1 with t|t
   . exact .inl t
   rcases List.mem_append.1 t with t|t
   . exact absurd rfl (hn _ t)
   exact .inr t
 rcases t2 with t|t
 . exact .inl t
 rcases List.mem_append.1 t with t|t
 . exact absurd rfl (hn _ t)
 exact .inr t
theorem ISt.un {r:Qc}(h:ISt D w0 p sp l (r::ks) s V)(hn:(r.e==2)=false):ISt D w0 p sp l ks s V:=ISt.less (ns:=[r]) h (λx hx=>by simp at hx hn;subst hx;exact hn)
theorem Ty.off {a:Option Addr}{c:Nat}{xs:List Int}(t:Ty D w0 ks (S a (N xs) c) xs)(h:ISt D w0 p sp l ks s V):xs=[]\/∃b off,a=some ⟨b,off,none⟩/\b≠p/\b<V.heap.size/\∀i,i<N xs->V.cell? ⟨b,off+i,none⟩=some (U O (xs[i]?.getD 0)):=by
 obtain⟨C,A,e,u⟩:=t.st h;cases e;obtain⟨j,k,m,q,z⟩:=h;have r:=(q.lt (T:=337) (sz:=6) (n:=1) (g:=p) (c:=1) (cs:=ib sp l j k) (by simp));rcases u with d|⟨b,off,rfl,o⟩
 . exact .inl d
 by_cases d:xs=[]
 . exact .inl d
 have f:0<N xs:=List.length_pos_iff.2 d;refine .inr ⟨b,off,rfl,?_,Kk V _ (o 0 f),λi hi=>by simpa[List.getD]using o i hi⟩;rcases t with ⟨a,c,e,t⟩|t
 . cases e;rcases t with t|⟨B,v,e,y,_⟩
   . exact absurd t d
   cases e;omega
 intro e;subst e;exact Own.disj (a:=[bxR b sp l j k]) (b:=stR s j::blR (N s.blocks) k m::ks) q.own (Jg.2 ⟨_,List.mem_singleton.2 rfl,rfl⟩) (Jg.2 ⟨_,by simp;exact .inr (.inr t),rfl⟩)
theorem PopP.cases {r:R (Int × Fn)}{e:Ending}(h:PopP D w0 p sp l ks r e w'):(∃f,r=.error f/\e=Z (.tuple #[U O 0,flt f])/\Mo D w0 ks w')\/∃t s',r=.ok (t,s')/\e=Z (.tuple #[U O t,Nf])/\ISt D w0 p sp l ks s' w':=by
 unfold PopP at h;split at h
 . exact .inl ⟨_,rfl,h⟩
 exact .inr ⟨_,_,rfl,h⟩
theorem set_id {g o:Nat}{v:Vu}(h:W.cell? ⟨g,o,none⟩=some v):W.setCell ⟨g,o,none⟩ v=W:=by
 have b:(W.setCell ⟨g,o,none⟩ v).heap=W.heap:=by
  apply Array.ext
  . simp
  intro i q l;unfold World.setCell;simp only[Array.getElem_modify];split
  · rename_i e;subst e;unfold World.cell? at h;rw[Array.getElem?_eq_getElem l]at h;dsimp only at h;split at h
    . rename_i c x y f;(have a:W.heap[g]=Fc c x y:=by simpa using f);rw[a];(have d:c[o]?=some v:=by simpa using h);have p:o<c.size:=(Array.getElem?_eq_some_iff.1 d).1;have k:c[o]=v:=(Array.getElem?_eq_some_iff.1 d).2;show Obj.cells (c.setIfInBounds o v) x y=Obj.cells c x y;(congr 1);apply Array.ext
      . simp
      intro j n m;by_cases e:o=j
      . subst e;rw[Array.getElem_setIfInBounds_self];exact k.symm
      rw[Array.getElem_setIfInBounds_ne _ e]
    cases h
  rfl
 cases W;simp only[World.setCell]at b⊢;rw[b]
theorem ipopAll_c (v:Vu)(xs:List Int)(h:ISt D w0 p sp l ks s V)(t:Ty D w0 ks v xs)(i:Inv s)(a6:s.blocks≠[])(a8:N s.blocks<=1048577)(b7:N s.stack<=1099511627776)(a4:N xs<=1099511627776):Ec Q 251 #[Yp (some ⟨p,0,none⟩),v] V (FnP D w0 p sp l ks (Xm s xs)):=by
 obtain⟨a,c,rfl,hh⟩:=t.st h;have ak:=t.off h;have b8:p<V.heap.size:=by obtain⟨sv,bv,az,R,h2⟩:=h;exact(R.lt (T:=337) (sz:=6) (n:=1) (g:=p) (c:=1) (cs:=ib sp l sv bv) (by simp)).2
 have cd:=h.mo.le;have cc:D<=p:=by obtain⟨sv,bv,az,R,h2⟩:=h;exact(R.lt (T:=337) (sz:=6) (n:=1) (g:=p) (c:=1) (cs:=ib sp l sv bv) (by simp)).1
 refine(callsIn_wide (n:=8)).1 ?_;refine callsIn_of_wp_marks func251 rfl trivial ?_ rfl;simp only[ntmps251,List.size_toArray,Ex,List.length_nil,Nat.reduceAdd,Nat.reduceSub,Array.replicate_succ,Array.replicate_zero,List.push_toArray,List.append_toArray,Pg,Ry];gi_wp2_with (refine⟨trivial,?_⟩;gi_at_call 260;refine(bw_c Fence.wide _ trivial rfl _ _ _ _).mono ?_;rintro e w' ⟨rfl,rfl⟩)
 obtain⟨F,H⟩:∃F,F=(((V.alloc (Fc #[Yp (some ⟨p,0,none⟩)] 327)).alloc (Fc #[Nf] 84)).alloc (Fc #[S a (N xs) c] 24)):=⟨_,rfl⟩;rw[<- H];obtain⟨X,z⟩:∃X:List Qc,X=[box 24 1 (V.heap.size+1+1) [S a (N xs) c],box 84 1 (V.heap.size+1) [Nf],box 327 1 V.heap.size [Yp (some ⟨p,0,none⟩)]]:=⟨_,rfl⟩;have a1:=Hm z;have ax:ISt D w0 p sp l (X++ks) s F:=by have:=((h.box1 (Yp (some ⟨p,0,none⟩)) 327).box1 Nf 84).box1 (S a (N xs) c) 24;rw[H,z];simpa using this
 have b6:F.heap.size=V.heap.size+3:=by rw[H];simp
 have av:Below V.heap.size V F:=by rw[H];exact((bFz.alloc lRz _).alloc (by simp) _).alloc (by simp;omega) _
 have a5:∀r∈X,r.e≠2:=by rw[z];intro r m;simp at m;rcases m with rfl|rfl|rfl<;>simp
 have C:∀{u:Fn} {W:J},ISt D w0 p sp l (X++ks) u W->W.cell? ⟨V.heap.size,0,none⟩=some (Yp (some ⟨p,0,none⟩))/\W.cell? ⟨V.heap.size+1,0,none⟩=some Nf/\W.frozen? ⟨V.heap.size+1,0,none⟩=false:=by intro u W I;have hm:=I.mo;have r1:=hm.bx (t:=327) (n:=1) (g:=V.heap.size) (cs:=[Yp (some ⟨p,0,none⟩)]) (by rw[z];simp) 0;have r2:=hm.bx (t:=84) (n:=1) (g:=V.heap.size+1) (cs:=[Nf]) (by rw[z];simp) 0;exact⟨r1.1,r2.1,r2.2⟩
 have cB:F.cell? ⟨V.heap.size+1+1,0,none⟩=some (S a (N xs) c):=(ax.mo.bx (t:=24) (n:=1) (g:=V.heap.size+1+1) (cs:=[S a (N xs) c]) (by rw[z];simp) 0).1;have ao:SeqStopsK Fence.wide 7 Q 264 #[Yp (some ⟨V.heap.size+1+1,0,none⟩)] (λx:Int × Int=>#[Value.int O x.1,Value.int O x.2]) (λW W'=>∀k,k<F.heap.size->k≠p->W'.heap[k]?=W.heap[k]?) (λys=>ys=upto (bk xs) (N xs)) (λd=>∃k,k<=N xs/\d=upto (bk xs) k) (N xs) F:=λl Jz0 Jx W hW _ _ hY h0=>by
  refine(bw1_in Fence.wide 7 trivial rfl (by omega) l (V.heap.size+1+1) a c xs a4 _ (λW k _ _=>rfl) (λR h2 k E q=>(h2 k E q).trans (R k E q)) Jz0 Jx hY W (λW' E=>?_) ?_ h0).mono λe W' hh=>hh
  . rw[Tz (E (V.heap.size+1+1) (by omega) (by omega)),hW.cell (p:=⟨V.heap.size+1+1,0,none⟩) (by show V.heap.size+1+1<_;omega)];exact cB
  rcases ak with hx|⟨b,off,ea,a7,au,hc⟩
  . exact .inl hx
  refine .inr ⟨b,off,ea,λW' E j hj=>?_⟩;rw[Tz (E b (by omega) a7),hW.cell (p:=⟨b,off+j,none⟩) (by show b<_;omega),av.cell (p:=⟨b,off+j,none⟩) au];exact hc j hj
 clear H z
 refine wpIn_rangeFunc_ownF rfl (by omega) (gf:=264) (lb:=#[Yp (some ⟨V.heap.size+1+1,0,none⟩)]) rfl trivial (enters_of func264 (by kernel_rfl) rfl) ao
  (λR h2 k E q=>(h2 k E q).trans (R k E q)) (λW l o o' hl hW _ _ k E q=>World.putObj_heap_other (by omega)) bFz (λ_=>rfl)
  (λd W=>∃u,XJ s (d.map (·.2))=.ok u/\ISt D w0 p sp l (X++ks) u W)
  (λc d W=>c=.ret/\∃f,XJ s (d.map (·.2))=.error f/\W.cell? ⟨V.heap.size+1,0,none⟩=some (flt f)/\Mo D w0 ks W)
  (λd A B row ⟨u,e,hs⟩ M m=>⟨u,e,hs.turn M (by omega) m⟩)
  (λc d A B row ⟨e0,f,e,hc,hb⟩ M m=>⟨e0,f,e,cell_kept hc M (λr e=>(m r e).2),hb.turn M (by omega) m⟩)
  ⟨s,rfl,ax⟩
  (λx=>{ tmps:=#[Yp (some ⟨p,0,none⟩),S a (N xs) c,Yp (some ⟨V.heap.size,0,none⟩),undef,Yp (some ⟨V.heap.size+1,0,none⟩),undef,U O x.2,undef,undef,S a (N xs) c,.func (.func 264) #[] #[Yp (some ⟨V.heap.size+1+1,0,none⟩)],U O x.1,U O x.2,undef,undef,undef,undef,undef,undef,undef,undef,undef],defers:=[] }) ?assign ?body ?done ?stop
 case assign=>
  intro l x W K hK;gi_wp2
  exact hK
 case body=>
  rintro l' d x W ⟨u,y,I⟩ _;obtain⟨b1,b2,b3,b4,b5⟩:=popR_spec y i;obtain⟨d0,d1,d2⟩:=C I;have HP:=Hm (ipop_c x.2 I (by rw[b1];exact a6) (by rw[b1];exact a8) (by omega));have HS:=Hm y;have ca:W.heap.size=W.heap.size:=rfl;have bn:(1:Nat)<=8-1-1:=by omega
  clear y;gi_wp2_with (refine⟨trivial,?_⟩;gi_at_call 239;refine(CallsIn.inRound l' (callsIn_wide.2 HP.o)).mono ?_)
  intro e w1 q M;have ap:KeepsOthers W w1:=KeepsOthers.of_grownBy M λj o e ho=>by
   cases e;obtain⟨sv,bv,az,R,h2⟩:=I;have m:W.ownsRow D 337 6 (S (some ⟨p,0,none⟩) 1 1) 1 (ib sp l sv bv):=R.row (r:=bxR p sp l sv bv) (by simp);rcases m.2 with ⟨e0,_⟩|⟨g,ck,cj,hv,_,aq,_⟩
   . cases e0
   cases hv;rw[ho]at aq;cases aq;rfl
  have L:∀k,k<F.heap.size->k≠p->w1.heap[k]?=W.heap[k]?:=fun k E L=>M.block k (by
   have:F.heap.size<=W.heap.size:=by
    have h3:=Kk W _ d1;have h4:=I.mo.bx (t:=24) (n:=1) (g:=V.heap.size+1+1) (cs:=[S a (N xs) c]) (by simp only[a1.o];simp) 0;have h5:=Kk W _ h4.1
    simp at h5;omega
   omega) (by simpa using L)
  have Y:XJ s ((d++[x]).map (·.2))=(XJ s (d.map (·.2))).bind λu=>Q4 u x.2:=by rw[List.map_append];exact popR_snoc s _ _
  rw[HS.o]at Y;have a2:=Hm ap;have ad:=Hm L;have a0:=Hm Y;clear ap L Y;rcases q.cases with ⟨f,m,rfl,hb⟩|⟨t2,s2,m,rfl,bb⟩
  . (have HR:Hid (XJ s ((d++[x]).map (·.2))=.error f):=by show XJ s _=_;rw[a0.o];show Q4 u x.2=_;rw[Q4,m];rfl);have g1:w1.cell? ⟨V.heap.size+1,0,none⟩=some Nf:=(Tz (ad.o (V.heap.size+1) (by omega) (by omega))).trans d1;have g2:w1.frozen? ⟨V.heap.size+1,0,none⟩=false:=(World.frozen?_of_block (ad.o (V.heap.size+1) (by omega) (by omega))).trans d2;(have a9:Mo D w0 ks (w1.setCell ⟨V.heap.size+1,0,none⟩ (flt f)):=by rw[a1.o]at hb;have ba:=(hb.tail.set 0 (flt f)).tail.tail;exact ba);clear m q HP M;(gi_wp2);refine⟨a2.o.trans (KeepsOthers.setCell _ _ _),rfl,f,HR.o,World.cell?_setCell_same' _ _ _ (by rw[g1];rfl),a9⟩
  have HR:Hid (XJ s ((d++[x]).map (·.2))=.ok s2):=by show XJ s _=_;rw[a0.o];show Q4 u x.2=_;rw[Q4,m];rfl
  clear m q HP M;gi_wp2
  exact⟨a2.o,ad.o,s2,HR.o,bb⟩
 case done=>
  rintro D' ys W hD rfl ⟨u,y,I⟩ hK;rw[bk_rev]at y;obtain⟨d0,d1,d2⟩:=C I;have q:Xm s xs=.ok u:=y;have bg:=Hm q;have HI:=Hm I;have b9:D'≠V.heap.size+1:=by omega
  clear y q I;gi_wp2
  have ay:=(KeepsOthers.setCell W ⟨V.heap.size+1,0,none⟩ Nf).same D' _ hK rfl;refine⟨by simp,.inl ⟨_,_,rfl,run_takeDeferred ay,?_⟩⟩;have hS:ISt D w0 p sp l (X++ks) u (W.setCell ⟨V.heap.size+1,0,none⟩ Nf):=by have aa:W.setCell ⟨V.heap.size+1,0,none⟩ Nf=W:=set_id d1;rw[aa];exact HI.o
  have aw:=hS.turn (B:=F.heap.size) (grownBy_putObj' _ D' (.deferred none)) (by omega) (λr e=>by cases e;exact⟨hD,_,ay,rfl⟩);have ab:=(C aw).2.1;refine⟨Nf,by simp[results,results251,go_sem,ab],?_⟩;rw[bg.o];exact⟨rfl,aw.less a5⟩
 rintro D' c' d W hD ⟨k,E,rfl⟩ ⟨rfl,f,hf,hc,hb⟩ hK;obtain⟨r,m⟩:=bk_pre xs k E;have q:Xm s xs=.error f:=by show XJ s xs.reverse=_;rw[m,popR_app,hf];rfl
 rw[q];clear q m hf;gi_wp2
 refine⟨by simp,.inl ⟨_,_,rfl,run_takeDeferred hK,?_⟩⟩;have ab:=cell_kept hc (grownBy_putObj' _ D' (.deferred none)) (λr e=>by cases e;exact⟨_,hK,rfl⟩);exact⟨flt f,by simp[results,results251,go_sem,ab],rfl,hb.turn (B:=F.heap.size) (grownBy_putObj' _ D' (.deferred none)) (by omega) (λr e=>by cases e;exact⟨hD,_,hK,rfl⟩)⟩
open Go.RowKit Go.Sort
section
variable {D:Nat}{w0:J}{p:Nat}{sp:Vu}{l:Lo}{ks:List Qc}{s:Fn}{V W V1:J}
theorem FnP.cases {e:Ending}(h:FnP D w0 p sp l ks r e w'):(∃f,r=.error f/\e=Z (flt f)/\Mo D w0 ks w')\/∃s',r=.ok s'/\e=Z Nf/\ISt D w0 p sp l ks s' w':=by
 unfold FnP at h;split at h
 . exact .inl ⟨_,rfl,h⟩
 exact .inr ⟨_,rfl,h⟩
theorem FnP.err {f:Int}{w'}(h:r=.error f)(a:Mo D w0 ks w'):FnP D w0 p sp l ks r (Z (flt f)) w':=by subst h;exact⟨rfl,a⟩
theorem FnP.ok {a:Fn}(h:r=.ok a)(b:ISt D w0 p sp l ks a w'):FnP D w0 p sp l ks r (Z Nf) w':=by subst h;exact⟨rfl,b⟩
end
theorem iapply_c (pv rv:Vu)(t:Qe)(h:ISt D w0 p sp l ks s V)(v:Ty D w0 ks pv t.ps)(u:Ty D w0 ks rv t.rs)(i:Inv s)(C:s.blocks≠[])(F:N s.blocks<=1048577)(z:N s.stack<=1099511627776)(aa:N t.ps<=1048577)(A:N t.rs<=1048577):Ec Q 241 #[Yp (some ⟨p,0,none⟩),Ag #[pv,rv]] V (FnP D w0 p sp l ks (apply s t)):=by
 obtain⟨q,n,rfl,_⟩:=v.st h;obtain⟨m,k,rfl,_⟩:=u.st h;have c:=h.bxn #[S q (N t.ps) n,S m (N t.rs) k] 148 2 rfl;obtain⟨W,H⟩:∃W,W=V.alloc (Fc #[S q (N t.ps) n,S m (N t.rs) k] 148):=⟨_,rfl⟩;obtain⟨g,E⟩:∃g,g=V.heap.size:=⟨_,rfl⟩;rw[<- H,<- E]at c;have d:=Hm (ipopAll_c (S q (N t.ps) n) t.ps c (v.cons _) i C F z (by omega));have R:∀{y:Fn} {W:J},ISt D w0 p sp l (box 148 2 g [S q (N t.ps) n,S m (N t.rs) k]::ks) y W->W.cell? ⟨g,0,none⟩=some (S q (N t.ps) n)/\W.cell? ⟨g,1,none⟩=some (S m (N t.rs) k):=λc=>⟨(c.mo.b0 0).1,(c.mo.b0 1).1⟩;obtain⟨e0,e1⟩:=R c;have HT:=Hm u;have hi:=Hm i;clear h v u c;go_enter func241,ntmps241;go_wp2_with fail
 rw[<- H,<- E];clear H E;refine d.o.mono ?_;intro e w1 B;rcases B.cases with ⟨f,r,rfl,hb⟩|⟨y,r,rfl,b⟩
 . (have a:apply s t=.error f:=by simp only[apply,r];rfl);have j:=Hm a;clear B r a d;go_wp2;go_ret;exact FnP.err j.o hb.tail
 obtain⟨b1,b2,b3,b4,b5⟩:=Jt r hi.o;have a:apply s t=.ok (push y t.rs):=by simp only[apply,r];rfl
 have j:=Hm a;obtain⟨d0,d1⟩:=R b;obtain⟨Y,X,e,M⟩:=Ty.st (HT.o.cons (box 148 2 g [S q (N t.ps) n,S m (N t.rs) k])) b;cases e;have L:=Hm (ipush_c m k t.rs b M A (by omega));clear B r a d b M b1 b2 b3 b5;go_wp2_with (go_at_call 254;refine L.o.mono ?_;rintro e w2 ⟨rfl,I⟩)
 go_ret;exact FnP.ok j.o (I.un rfl)
