import Derived.Test.YtaccbbndmmhenaaGreatGah
import Derived.Lib.AppendZeros
import Derived.Test.YtaccbbndmmhenaaGreatGai
set_option linter.all false
set_option maxHeartbeats 400000000
set_option maxRecDepth 100000
namespace Go.Proofs
open Value renaming int->U,slice->S,bool->G,pointer->Yp,agg->Ag,nilIface->Nf
open IntKind renaming i64->O,u64->Ou
open Ending renaming returned->Z
open Obj renaming cells->Fc
open Go renaming World->J,Calls->Ec,Value->Vu,Addr->Ad
open Go.RowKit renaming Below->Bw
open Tryz renaming prog->Q
open Tryz
open World renaming block_lt_of_cell?->Kk,setCell->Ev,cell?->Pq,cell?_of_block->Kd,ownsRow_nil->Tq,ownsRow_lit->Hk
open Act renaming eval->Tc,put->Hw
open Nat renaming le_trans->Kq,reduceAdd->Ej,reduceSub->Ek,zero_le->Kw
open List renaming size_toArray->Rx,length_cons->Mh,length_nil->Pw,push_toArray->Ry,append_toArray->Rz,nil_append->Hh,cons_append->Lz,ext_getElem->Pb,getElem_reverse->Ic,perm_iff_count->Kn,count_cons->Th,getD->Kx,map_append->Tf,getElem?_eq_getElem->Kj,all_eq_true->Hf,pairwise_append->Pc,dropLast_sublist->Ih,map_dropLast->Eb,length->N
open _root_.Array renaming replicate_succ->Pn,replicate_zero->Pm,getElem?_push_size->Lw
open IntKind renaming wrap_i64->Kz
open Value renaming ownBlock->Tg,int->Px,slice->Tv
open Int renaming toNat_natCast->Kc
namespace YtaccbbndmmhenaaGreat.Va
open Go.RowKit Go.Sort
variable {b:Blk}{x:Ctx}{s s' s1:Fn}{fo go bd:Int}{V W w0 w':J}{xs:List Int}{ks:List Qb}{cs:List Vu}{l:Lo}{B e n D p c g q j:Nat}{r:R Fn}{rv v sp c0 c1:Vu}
section
variable {D:Nat}{w0:J}{p:Nat}{sp:Vu}{l:Lo}{ks:List Qb}{s:Fn}{V W V1:J}
theorem ISt.begun {a:Option Ad}{sc:Nat}{bv v' tv:Vu}{bcs:List Vu}(h:Mo D w0 (bxR p sp l (S a (N s.jj) sc) bv::stR s (S a (N s.jj) sc)::blR (N s.cq) bv bcs::ks) V)(m:Fl (IRep D w0 ks) s.cq bcs)(n:Bw V.heap.size V V1) (c:W.ownsRow D 221 5 v' (N s.cq+1) (bcs++[tv,U O b.gk,U O b.op,rv,G b.jq])) (k:V1.grownBy W bv.ownBlock) (d:v'.ownBlock=bv.ownBlock\/v'.ownBlock=some V1.heap.size) (j:Ty D w0 ks tv b.gj) (g:Ty D w0 ks rv b.results):ISt D w0 p sp l ks { s with cq:=s.cq++[b] } (W.setCell ⟨p,5,none⟩ v')/\W.cell? ⟨p,5,none⟩=some bv/\W.frozen? ⟨p,5,none⟩=false:=by
 have r:=(h.perm XK).push (r':=blR (N s.cq+1) v' (bcs++[tv,U O b.gk,U O b.op,rv,G b.jq])) n k c d;have f:=r.perm (rs':=bxR p sp l (S a (N s.jj) sc) bv::blR (N s.cq+1) v' (bcs++[tv,U O b.gk,U O b.op,rv,G b.jq])::stR s (S a (N s.jj) sc)::ks) (List.Perm.swap _ _ _);have q:=(f.set 5 v').perm ((List.Perm.swap _ _ _).cons _);have o:=f.b0 5;refine⟨⟨S a (N s.jj) sc,v',_,?_,m.app (Fl.one ⟨tv,rv,rfl,j,g⟩)⟩,o⟩;have e:(s.cq++[b]).length=N s.cq+1:=by simp
 rw[e];exact q
end
theorem Qb.Ok.keep' {sz:Nat}(h:V.ownsRow B e sz v n cs)(a:Bw V.heap.size V W):W.ownsRow B e sz v n cs:=Qb.Ok.cq (r:=⟨e,sz,n,v,cs⟩) h λk hk=>a.block k (World.ownsRow.lt h k hk).2
theorem Qg {w:J}{sz:Nat}{b:List Vu}(h:w.ownsRow B e sz v n b):∃a c,v=S a n c:=by
 rcases h.2 with ⟨e,f⟩|⟨g,cap,j,d,_⟩
 . rw[f];exact⟨_,_,e⟩
 exact⟨_,_,d⟩
theorem Qf {w:J}{b o:Nat}{u:Vu}{x:Obj}(h:w.cell? ⟨b,o,none⟩=some u):(w.alloc x).cell? ⟨b,o,none⟩=some u:=(World.cell?_alloc_past _ _ _ (Kk w _ h)).trans h
theorem one5 {a b:Vu}{x y:Int}{z:Bool}(f:a.oneCell'=true)(d:b.oneCell'=true):∀u∈[a,U O x,U O y,b,G z],u.oneCell'=true:=by
 intro u c;simp at c;rcases c with rfl|rfl|rfl|rfl|rfl
 . exact f
 . rfl
 . rfl
 . exact d
 rfl
theorem ibegin_c (op:Int)(v:Vu)(xs:List Int)(h:ISt D w0 p sp l ks s V)(t:Ty D w0 ks v xs)(a2:N s.cq<=1048577)(a1:N s.jj<=2199023255552):Ec Q 104 #[Yp (some ⟨p,0,none⟩),U O op,v] V λe w'=>e=Z (.tuple #[])/\ISt D w0 p sp l ks (QI s op xs) w':=by
 obtain⟨i0,hi,M,L,I⟩:=info_parts info221;obtain⟨sa,sc,bv,z,B,hf,q4,q5,f4,f5⟩:=h.opnS;have R:V.ownsRow D 221 5 bv (N s.cq) z:=B.row (r:=blR _ bv z) (by simp);obtain⟨m,C,rfl⟩:∃a c,bv=S a (N s.cq) c:=by
  rcases R.2 with ⟨e,h0⟩|⟨g,cap,a9,hv,_⟩
  . rw[h0];exact⟨_,_,e⟩
  exact⟨_,_,hv⟩
 obtain⟨va,j,rfl,_⟩:=t.st h;have Y:=B.le;have X:=(B.lt (T:=116) (sz:=6) (n:=1) (g:=p) (c:=1) (cs:=ib sp l (S sa (N s.jj) sc) (S m (N s.cq) C)) (by simp)).2;by_cases H:op=3
 . (have k3:(op != 3)=false:=by simp[H]);have HP:=Hm (λV1 W v'=>ISt.begun (V1:=V1) (W:=W) (v':=v') (tv:=S none 0 0) (rv:=S va (N xs) j) (b:=⟨op,[],xs,N s.jj,false⟩) B hf);have HT:=Hm t;(have he:QI s op xs={ s with cq:=s.cq++[⟨op,[],xs,N s.jj,false⟩] }:=by simp[QI,H]);rw[he];have OW:=Hm R;clear B hf h R t H he;go_enter func104,ntmps104;(go_upto_region 4 with fail);obtain⟨W,y⟩:∃W,W=V.alloc (Fc #[S none 0 0,U O (N s.jj),U O op,S va (N xs) j,G false] 221):=⟨_,rfl⟩;rw[<- y];(have u:Bw V.heap.size V W:=by rw[y];exact bFz.alloc lRz _);have E:=Hm (Qb.Ok.keep' OW.o u);(have kk:Bk W V.heap.size [S none 0 0,U O (N s.jj),U O op,S va (N xs) j,G false]:=by rw[y];exact Bk.new);have e0:=kk.2.1 0 _ rfl;have e1:=kk.2.1 1 _ rfl;have e2:=kk.2.1 2 _ rfl;have e3:=kk.2.1 3 _ rfl;have e4:=kk.2.1 4 _ rfl;have A:W.cell? ⟨p,5,none⟩=some (S m (N s.cq) C):=(u.cell (p:=⟨p,5,none⟩) X).trans q5;have kd:∀o,(W.alloc o).cell? ⟨p,5,none⟩=some (S m (N s.cq) C):=λo=>Qf A;have aj:V.heap.size<=W.heap.size:=u.size;have HB:Hid (∀o,Bw V.heap.size V ((W.alloc o).drew)):=λo=>u.trans (⟨rfl,rfl,rfl,by show W.heap.size<=(W.alloc o).heap.size;simp,λk hk=>QN W o k (by omega)⟩);clear y kk q4 q5 u
   go_region_law (first
    | (
     refine Qs rfl (.tmp 26) (.tmp 28) 114 rfl D 221 i0 (Ag #[S none 0 0,U O 0,U O 0,S none 0 0,G false]) 5 72 underlying114 hi M L I rfl (by decide) (S m (N s.cq) C) (N s.cq) z (by first|rfl|simp[Tc,Hw]) (World.ownsRow.alloc E.o _) ⟨W.heap.size,0,none⟩ 1 1 [S none 0 0,U O (N s.jj),U O op,S va (N xs) j,G false] (by first|rfl|simp[Tc,Hw]) (by first|rfl|simp) (Jo W [S none 0 0,U O (N s.jj),U O op,S va (N xs) j,G false] 221) (one5 rfl rfl) (by unfold maxLen;omega) (by omega) (Kq Y (HB.o _).size) ?_
     intro v2 w5 d q f
     have F:=Hm (HP.o _ w5 v2 (HB.o _) d q f (Ty.nil _ _ _ _ _) HT.o);have ao:=F.o.2.1;have ak:=F.o.2.2;obtain⟨ah,ag,rfl⟩:=Qg d;clear d q f))
   all_goals
    go_wp2_with fail
    go_end0
    exact⟨rfl,F.o.1⟩
 have k3:(op != 3)=true:=by simp[H]
 have HP:=Hm (λV1 W v'=>ISt.begun (V1:=V1) (W:=W) (v':=v') (tv:=S va (N xs) j) (rv:=S va (N xs) j) (b:=⟨op,xs,xs,N s.jj,false⟩) B hf);have HT:=Hm t;have he:QI s op xs={ s with cq:=s.cq++[⟨op,xs,xs,N s.jj,false⟩] }:=by simp[QI,H]
 rw[he];have OW:=Hm R;clear B hf h R t H he;go_enter func104,ntmps104;go_upto_region 4 with fail
 obtain⟨W,y⟩:∃W,W=V.alloc (Fc #[S va (N xs) j,U O (N s.jj),U O op,S va (N xs) j,G false] 221):=⟨_,rfl⟩;rw[<- y];have u:Bw V.heap.size V W:=by rw[y];exact bFz.alloc lRz _
 have E:=Hm (Qb.Ok.keep' OW.o u);have kk:Bk W V.heap.size [S va (N xs) j,U O (N s.jj),U O op,S va (N xs) j,G false]:=by rw[y];exact Bk.new
 have e0:=kk.2.1 0 _ rfl;have e1:=kk.2.1 1 _ rfl;have e2:=kk.2.1 2 _ rfl;have e3:=kk.2.1 3 _ rfl;have e4:=kk.2.1 4 _ rfl;have A:W.cell? ⟨p,5,none⟩=some (S m (N s.cq) C):=(u.cell (p:=⟨p,5,none⟩) X).trans q5;have kd:∀o,(W.alloc o).cell? ⟨p,5,none⟩=some (S m (N s.cq) C):=λo=>Qf A;have aj:V.heap.size<=W.heap.size:=u.size;have HB:Hid (∀o,Bw V.heap.size V ((W.alloc o).drew)):=λo=>u.trans (⟨rfl,rfl,rfl,by show W.heap.size<=(W.alloc o).heap.size;simp,λk hk=>QN W o k (by omega)⟩);clear y kk q4 q5 u
 go_region_law (first
  | (
   refine Qs rfl (.tmp 26) (.tmp 28) 114 rfl D 221 i0 (Ag #[S none 0 0,U O 0,U O 0,S none 0 0,G false]) 5 72 underlying114 hi M L I rfl (by decide) (S m (N s.cq) C) (N s.cq) z (by first|rfl|simp[Tc,Hw]) (World.ownsRow.alloc E.o _) ⟨W.heap.size,0,none⟩ 1 1 [S va (N xs) j,U O (N s.jj),U O op,S va (N xs) j,G false] (by first|rfl|simp[Tc,Hw]) (by first|rfl|simp) (Jo W [S va (N xs) j,U O (N s.jj),U O op,S va (N xs) j,G false] 221) (one5 rfl rfl) (by unfold maxLen;omega) (by omega) (Kq Y (HB.o _).size) ?_
   intro v2 w5 d q f
   have F:=Hm (HP.o _ w5 v2 (HB.o _) d q f HT.o HT.o);have ao:=F.o.2.1;have ak:=F.o.2.2;obtain⟨ah,ag,rfl⟩:=Qg d;clear d q f))
 all_goals
  go_wp2_with fail
  go_end0
  exact⟨rfl,F.o.1⟩
open Go.RowKit Go.Sort Go.Shelf
attribute [local go_sem] Oper.semAt_some
def upto {α:Type}(f:Nat->α)(k:Nat):List α:=(List.range k).map f
theorem upto_succ {α:Type}(f:Nat->α)(k:Nat):upto f (k+1)=upto f k++[f k]:=by simp[upto,List.range_succ]
theorem upto_length {α:Type}(f:Nat->α)(k:Nat):(upto f k).length=k:=by simp[upto]
abbrev bk (zs:List Int)(j:Nat):Int × Int:=(((N zs:Int)-1-j),zs[N zs-1-j]?.getD 0)
theorem bw1_in (F:Fence)(n:Nat)(hf:F.fn 282)(H:F.round=none)(hn:1<=n)(l Bs:Nat)(a:Option Ad)(cap:Nat)(c:List Int)(D:N c<=1099511627776)(Kp:J->J->Prop) (t:∀W,Kp W W) (L:∀{A B C:J},Kp A B->Kp B C->Kp A C) (d Jx:List (Int × Int)->J->Prop) (hY:∀pre x W,d pre W->N pre<N c->YieldAt F (n-1) Q l #[U O x.1,U O x.2] W fun e W' => (e=Z (G true)/\d (pre++[x]) W'/\Kp W W')\/(e=Z (G false)/\Jx (pre++[x]) W')) (W:J) (p:∀W',Kp W W'->W'.cell? ⟨Bs,0,none⟩=some (S a (N c) cap)) (hc:c=[]\/∃b off,a=some ⟨b,off,none⟩/\∀W',Kp W W'->∀j,j<N c->W'.cell? ⟨b,off+j,none⟩=some (U O (c[j]?.getD 0))) (h0:d [] W):CallsIn F n Q 282 #[.func (.yield l) #[] #[],Yp (some ⟨Bs,0,none⟩)] W λe W'=>(∃v,e=Z v) /\ ((∃ys,ys=upto (bk c) (N c)/\d ys W')\/(∃pre,(∃k,k<=N c/\pre=upto (bk c) k)/\Jx pre W')):=by
 refine callsIn_of_wp func282 rfl hf ?_ H;simp only[ntmps282,Rx,Mh,Pw,Ej,Ek,Pn,Pm,Ry,Rz,Hh,Lz];have c0:=p W (t W);have hw:IntKind.i64.wrap ((N c:Int)-1)=(N c:Int)-1:=by rw[Kz];omega
 have HC:=Hm hc;have X:=Hm p;clear hc p;gi_wp2
 gi_loopw [3] (λi wr=>∃k:Nat,k<=N c/\i=U O ((N c:Int)-1-k)/\d (upto (bk c) k) wr/\Kp W wr)
  (λi _=>((intOf i)+1).toNat)
 case atStart=>exact⟨0,Kw _,by simp,h0,t _⟩
 obtain⟨k,hk,rfl,u,g⟩:=hrel;have d0:=X.o wr g;by_cases r:k<N c
 . rcases HC.o with hz|⟨b,off,ea,s⟩
   . subst hz;simp at r
   subst ea;obtain⟨j,hj⟩:∃j:Nat,j=N c-1-k:=⟨_,rfl⟩;(have m:(N c:Int)-1-k=j:=by omega);(have I:j<N c:=by omega);have d1:=s wr g j I;obtain⟨y,f⟩:∃y,y=c[j]?.getD 0:=⟨_,rfl⟩;rw[<- f]at d1;have z:=Hm f;clear f;obtain⟨fn,Y,E,ac,hy,hR⟩:=hY _ ((j:Int),y) wr u (by rw[upto_length];exact r);dsimp only at hy;rw[m];(have i1:(0:Int)<=(j:Int):=by omega);(have i2:(j:Int)<(N c:Int):=by omega);(have aj:IntKind.i64.wrap ((j:Int)-1)=(j:Int)-1:=by rw[Kz];omega);have HJ:=Hm hj;have q:=Hm m;clear hj m hw s HC;(gi_wp2);refine hR.mono ?_;rintro e W3 (⟨rfl,hJ3,hk3⟩|⟨rfl,hJx3⟩)
   . (gi_wp2);go_roundw
     case rel=>
      (have V:bk c k=((j:Int),y):=by have R:=q.o;have M:=HJ.o;simp only[bk,R,<- M,<- z.o]);refine⟨k+1,by omega,?_,?_,L g hk3⟩
      . have:=q.o;congr 1;push_cast;omega
      rw[upto_succ,V];exact hJ3
     case measure=>simp[intOf]
   (gi_wp2);refine bodyPost_ret (results_none rfl _ _ _) rfl ?_;refine⟨⟨_,rfl⟩,.inr ⟨_,⟨k+1,by omega,?_⟩,hJx3⟩⟩;(have V:bk c k=((j:Int),y):=by have R:=q.o;have M:=HJ.o;simp only[bk,R,<- M,<- z.o]);rw[upto_succ,V]
 obtain rfl:k=N c:=by omega
 have i1:¬((0:Int)<=(N c:Int)-1-(N c:Int)):=by omega
 gi_wp2
 go_end0;exact⟨⟨_,rfl⟩,.inl u⟩
theorem bw_c (F:Fence)(n:Nat)(c:F.fn 278)(b:F.round=none)(a:Option Ad)(len cap:Nat)(w:J):CallsIn F n Q 278 #[S a len cap] w λe w'=>e=Z (.func (.func 282) #[] #[Yp (some ⟨w.heap.size,0,none⟩)])/\w'=w.alloc (Fc #[S a len cap] 24):=by
 refine callsIn_of_wp func278 rfl c ?_ b;simp only[ntmps278,Rx,Mh,Pw,Ej,Ek,Pn,Pm,Ry,Rz,Hh,Lz];gi_wp2
 go_ret;exact⟨rfl,rfl⟩
theorem Mo.turn {rs}{row:Option Nat}(h:Mo D w0 rs V)(f:V.grownBy W row)(n:D<=B)(hr:∀r,row=some r->B<=r/\∃o:Obj,V.heap[r]?=some o/\o.isCells=false):Mo D w0 rs W:=by
 refine⟨h.own.grown f λk e hk=>?_,h.b.grown f h.le λk e=>Kq n (hr k e).1,Kq h.le f.size⟩;obtain⟨r,d,c⟩:=Jy.1 hk;obtain⟨o,l,m⟩:=(hr k e).2;rcases(h.own.all r d).2 with ⟨p,_⟩|⟨g,cap,q,j,_,a,_⟩
 . rw[p]at c;cases c
 rw[j]at c;simp[Tg]at c;subst c;rw[l]at a;cases a;cases m
theorem ISt.turn {row:Option Nat}(h:ISt D w0 p sp l ks s V)(c:V.grownBy W row)(d:D<=B)(hr:∀r,row=some r->B<=r/\∃o:Obj,V.heap[r]?=some o/\o.isCells=false):ISt D w0 p sp l ks s W:=by
 obtain⟨b,j,a,g,f⟩:=h;exact⟨b,j,a,g.turn c d hr,f⟩
theorem bk_rev (a:List Int):(upto (bk a) (N a)).map (·.2)=a.reverse:=by
 apply Pb
 . simp[upto]
 intro i c b;simp at b;simp[upto,bk,Ic,show(N a)-1-i<N a by omega]
theorem bk_pre (a:List Int)(k:Nat)(c:k<=N a):∃r,a.reverse=(upto (bk a) k).map (·.2)++r:=by
 refine⟨a.reverse.drop k,?_⟩;have e:(upto (bk a) k).map (·.2)=a.reverse.take k:=by
  apply Pb
  . simp[upto];omega
  intro i d b;simp at b;simp[upto,bk,Ic,show(N a)-1-i<N a by omega]
 rw[e,List.take_append_drop]
theorem popR_app (s:Fn):∀(b bs:List Int),XN s (b++bs)=(XN s b).bind λs'=>XN s' bs
 |[],bs=>rfl
 |a::b,bs=>by
  rw[Lz,XN,XN]
  cases Q7 s a with
  |error f=>rfl
  |ok s1=>exact popR_app s1 b bs
theorem popR_snoc (s:Fn)(a:List Int)(b:Int):XN s (a++[b])=(XN s a).bind λs'=>Q7 s' b:=by
 rw[popR_app];congr 1
 funext s'
 show(Q7 s' b).bind (λs'=>XN s' [])=Q7 s' b;cases Q7 s' b<;>rfl
theorem ISt.box1 (h:ISt D w0 p sp l ks s V)(x:Vu)(e:Nat):ISt D w0 p sp l (box e 1 V.heap.size [x]::ks) s (V.alloc (Fc #[x] e)):=by
 refine h.new (ns:=[box e 1 V.heap.size [x]]) (bFz.alloc lRz _) (Own.one ?_);refine⟨rfl,.inr ⟨V.heap.size,1,#[x],rfl,lRz,?_,lRz,by decide,rfl,rfl⟩⟩;show(V.heap.push _)[V.heap.size]?=_;exact Lw
theorem ISt.bxn (h:ISt D w0 p sp l ks s V)(cur:Array Vu)(e n:Nat)(hn:cur.size=n):ISt D w0 p sp l (box e n V.heap.size cur.toList::ks) s (V.alloc (Fc cur e)):=by
 refine h.new (ns:=[box e n V.heap.size cur.toList]) (bFz.alloc lRz _) (Own.one ?_);subst hn;refine⟨by simp,.inr ⟨V.heap.size,1,cur,rfl,lRz,?_,lRz,by decide,by simp,?_⟩⟩
 . show(V.heap.push _)[V.heap.size]?=_;exact Lw
 show cur.toList.take (1*cur.size)=cur.toList;rw[List.take_of_length_le (by simp)]
theorem Ty.cons (t:Ty D w0 ks v xs)(r:Qb):Ty D w0 (r::ks) v xs:=t.sub λ_ h=>mC h
theorem ISt.less {ns:List Qb}(h:ISt D w0 p sp l (ns++ks) s V)(hn:∀r∈ns,r.e≠2):ISt D w0 p sp l ks s V:=by
 obtain⟨f,g,d,m,k⟩:=h;have j:(bxR p sp l f g::stR s f::blR (N s.cq) g d::(ns++ks)).Perm (ns++(bxR p sp l f g::stR s f::blR (N s.cq) g d::ks)):=by
  classical
  rw[Kn];intro a;simp[Th,List.count_append];omega
 refine⟨f,g,d,(m.perm j).right,k.mono λb c ⟨tv,rv,e,t1,t2⟩=>⟨tv,rv,e,?_,?_⟩⟩
 . rcases t1 with t|t
   . exact .inl t
   rcases List.mem_append.1 t with t|t
   . exact absurd rfl (hn _ t)
   exact .inr t
 rcases t2 with t|t
 . exact .inl t
 rcases List.mem_append.1 t with t|t
 . exact absurd rfl (hn _ t)
 exact .inr t
theorem ISt.un {r:Qb}(h:ISt D w0 p sp l (r::ks) s V)(hn:(r.e==2)=false):ISt D w0 p sp l ks s V:=ISt.less (ns:=[r]) h (λx hx=>by simp at hx hn;subst hx;exact hn)
theorem Ty.off {a:Option Ad}(t:Ty D w0 ks (S a (N xs) c) xs)(h:ISt D w0 p sp l ks s V):xs=[]\/∃b off,a=some ⟨b,off,none⟩/\b≠p/\b<V.heap.size/\∀i,i<N xs->V.cell? ⟨b,off+i,none⟩=some (U O (xs[i]?.getD 0)):=by
 obtain⟨C,A,e,u⟩:=t.st h;cases e;obtain⟨j,k,m,q,z⟩:=h;have r:=(q.lt (T:=116) (sz:=6) (n:=1) (g:=p) (c:=1) (cs:=ib sp l j k) (by simp));rcases u with d|⟨b,off,rfl,o⟩
 . exact .inl d
 by_cases d:xs=[]
 . exact .inl d
 have f:0<N xs:=List.length_pos_iff.2 d;refine .inr ⟨b,off,rfl,?_,Kk V _ (o 0 f),λi hi=>by simpa[Kx]using o i hi⟩;rcases t with ⟨a,c,e,t⟩|t
 . cases e;rcases t with t|⟨B,v,e,y,_⟩
   . exact absurd t d
   cases e;omega
 intro e;subst e;exact Own.disj (a:=[bxR b sp l j k]) (b:=stR s j::blR (N s.cq) k m::ks) q.own (Jy.2 ⟨_,List.mem_singleton.2 rfl,rfl⟩) (Jy.2 ⟨_,by simp;exact .inr (.inr t),rfl⟩)
theorem PopP.cases {r:R (Int × Fn)}{e:Ending}(h:PopP D w0 p sp l ks r e w'):(∃f,r=.error f/\e=Z (.tuple #[U O 0,flt f])/\Mo D w0 ks w')\/∃t s',r=.ok (t,s')/\e=Z (.tuple #[U O t,Nf])/\ISt D w0 p sp l ks s' w':=by
 unfold PopP at h;split at h
 . exact .inl ⟨_,rfl,h⟩
 exact .inr ⟨_,_,rfl,h⟩
theorem set_id {o:Nat}(h:W.cell? ⟨g,o,none⟩=some v):W.setCell ⟨g,o,none⟩ v=W:=by
 have b:(W.setCell ⟨g,o,none⟩ v).heap=W.heap:=by
  apply Array.ext
  . simp
  intro i q l;unfold Ev;simp only[Array.getElem_modify];split
  · rename_i e;subst e;unfold Pq at h;rw[Array.getElem?_eq_getElem l]at h;dsimp only at h;split at h
    . rename_i c x y f;(have a:W.heap[g]=Fc c x y:=by simpa using f);rw[a];(have d:c[o]?=some v:=by simpa using h);have p:o<c.size:=(Array.getElem?_eq_some_iff.1 d).1;have k:c[o]=v:=(Array.getElem?_eq_some_iff.1 d).2;show Obj.cells (c.setIfInBounds o v) x y=Obj.cells c x y;(congr 1);apply Array.ext
      . simp
      intro j n m;by_cases e:o=j
      . subst e;rw[Array.getElem_setIfInBounds_self];exact k.symm
      rw[Array.getElem_setIfInBounds_ne _ e]
    cases h
  rfl
 cases W;simp only[Ev]at b⊢;rw[b]
theorem ipopAll_c (v:Vu)(xs:List Int)(h:ISt D w0 p sp l ks s V)(t:Ty D w0 ks v xs)(i:Inv s)(a5:s.cq≠[])(a7:N s.cq<=1048577)(b6:N s.jj<=1099511627776)(a3:N xs<=1099511627776):Ec Q 264 #[Yp (some ⟨p,0,none⟩),v] V (FnP D w0 p sp l ks (Xq s xs)):=by
 obtain⟨a,c,rfl,hh⟩:=t.st h;have aj:=t.off h;have b7:p<V.heap.size:=by obtain⟨sv,bv,ay,M,h2⟩:=h;exact(M.lt (T:=116) (sz:=6) (n:=1) (g:=p) (c:=1) (cs:=ib sp l sv bv) (by simp)).2
 have cc:=h.mo.le;have cb:D<=p:=by obtain⟨sv,bv,ay,M,h2⟩:=h;exact(M.lt (T:=116) (sz:=6) (n:=1) (g:=p) (c:=1) (cs:=ib sp l sv bv) (by simp)).1
 refine(callsIn_wide (n:=8)).1 ?_;refine callsIn_of_wp_marks func264 rfl trivial ?_ rfl;simp only[ntmps264,Rx,Mh,Pw,Ej,Ek,Pn,Pm,Ry,Rz,Hh,Lz];gi_wp2_with (refine⟨trivial,?_⟩;gi_at_call 278;refine(bw_c Fence.wide _ trivial rfl _ _ _ _).mono ?_;rintro e w' ⟨rfl,rfl⟩)
 obtain⟨E,F⟩:∃E,E=(((V.alloc (Fc #[Yp (some ⟨p,0,none⟩)] 107)).alloc (Fc #[Nf] 102)).alloc (Fc #[S a (N xs) c] 24)):=⟨_,rfl⟩;rw[<- F];obtain⟨R,y⟩:∃R:List Qb,R=[box 24 1 (V.heap.size+1+1) [S a (N xs) c],box 102 1 (V.heap.size+1) [Nf],box 107 1 V.heap.size [Yp (some ⟨p,0,none⟩)]]:=⟨_,rfl⟩;have a0:=Hm y;have aw:ISt D w0 p sp l (R++ks) s E:=by have:=((h.box1 (Yp (some ⟨p,0,none⟩)) 107).box1 Nf 102).box1 (S a (N xs) c) 24;rw[F,y];simpa using this
 have bz:E.heap.size=V.heap.size+3:=by rw[F];simp
 have au:Bw V.heap.size V E:=by rw[F];exact((bFz.alloc lRz _).alloc (by simp) _).alloc (by simp;omega) _
 have a4:∀r∈R,r.e≠2:=by rw[y];intro r m;simp at m;rcases m with rfl|rfl|rfl<;>simp
 have z:∀{s':Fn} {W:J},ISt D w0 p sp l (R++ks) s' W->W.cell? ⟨V.heap.size,0,none⟩=some (Yp (some ⟨p,0,none⟩))/\W.cell? ⟨V.heap.size+1,0,none⟩=some Nf/\W.frozen? ⟨V.heap.size+1,0,none⟩=false:=by intro s' W H;have hm:=H.mo;have r1:=hm.bx (t:=107) (n:=1) (g:=V.heap.size) (cs:=[Yp (some ⟨p,0,none⟩)]) (by rw[y];simp) 0;have r2:=hm.bx (t:=102) (n:=1) (g:=V.heap.size+1) (cs:=[Nf]) (by rw[y];simp) 0;exact⟨r1.1,r2.1,r2.2⟩
 have cB:E.cell? ⟨V.heap.size+1+1,0,none⟩=some (S a (N xs) c):=(aw.mo.bx (t:=24) (n:=1) (g:=V.heap.size+1+1) (cs:=[S a (N xs) c]) (by rw[y];simp) 0).1;have ak:SeqStopsK Fence.wide 7 Q 282 #[Yp (some ⟨V.heap.size+1+1,0,none⟩)] (λx:Int × Int=>#[Px O x.1,Px O x.2]) (λW W'=>∀k,k<E.heap.size->k≠p->W'.heap[k]?=W.heap[k]?) (λys=>ys=upto (bk xs) (N xs)) (λd=>∃k,k<=N xs/\d=upto (bk xs) k) (N xs) E:=λl Jz0 Jx W hW _ _ hY h0=>by
  refine(bw1_in Fence.wide 7 trivial rfl (by omega) l (V.heap.size+1+1) a c xs a3 _ (λW k _ _=>rfl) (λM h2 k C q=>(h2 k C q).trans (M k C q)) Jz0 Jx hY W (λW' C=>?_) ?_ h0).mono λe W' hh=>hh
  . rw[Kd (C (V.heap.size+1+1) (by omega) (by omega)),hW.cell (p:=⟨V.heap.size+1+1,0,none⟩) (by show V.heap.size+1+1<_;omega)];exact cB
  rcases aj with hx|⟨b,off,ea,a6,ar,hc⟩
  . exact .inl hx
  refine .inr ⟨b,off,ea,λW' C j hj=>?_⟩;rw[Kd (C b (by omega) a6),hW.cell (p:=⟨b,off+j,none⟩) (by show b<_;omega),au.cell (p:=⟨b,off+j,none⟩) ar];exact hc j hj
 clear F y
 refine wpIn_rangeFunc_ownF rfl (by omega) (gf:=282) (lb:=#[Yp (some ⟨V.heap.size+1+1,0,none⟩)]) rfl trivial (enters_of func282 (by kernel_rfl) rfl) ak
  (λM h2 k C q=>(h2 k C q).trans (M k C q)) (λW l o o' hl hW _ _ k C q=>World.putObj_heap_other (by omega)) bFz (λ_=>rfl)
  (λd W=>∃s',XN s (d.map (·.2))=.ok s'/\ISt D w0 p sp l (R++ks) s' W)
  (λc d W=>c=.ret/\∃f,XN s (d.map (·.2))=.error f/\W.cell? ⟨V.heap.size+1,0,none⟩=some (flt f)/\Mo D w0 ks W)
  (λd A B row ⟨s',e,hs⟩ L m=>⟨s',e,hs.turn L (by omega) m⟩)
  (λc d A B row ⟨e0,f,e,hc,hb⟩ L m=>⟨e0,f,e,cell_kept hc L (λr e=>(m r e).2),hb.turn L (by omega) m⟩)
  ⟨s,rfl,aw⟩
  (λx=>{ tmps:=#[Yp (some ⟨p,0,none⟩),S a (N xs) c,Yp (some ⟨V.heap.size,0,none⟩),undef,Yp (some ⟨V.heap.size+1,0,none⟩),undef,U O x.2,undef,undef,S a (N xs) c,.func (.func 282) #[] #[Yp (some ⟨V.heap.size+1+1,0,none⟩)],U O x.1,U O x.2,undef,undef,undef,undef,undef,undef,undef,undef,undef],defers:=[] }) ?assign ?body ?done ?stop
 case assign=>
  intro l x W K hK;gi_wp2
  exact hK
 case body=>
  rintro l' d x W ⟨s',u,H⟩ _;obtain⟨b1,b2,b3,b4,b5⟩:=popR_spec u i;obtain⟨d0,d1,d2⟩:=z H;have HP:=Hm (ipop_c x.2 H (by rw[b1];exact a5) (by rw[b1];exact a7) (by omega));have HS:=Hm u;have b9:W.heap.size=W.heap.size:=rfl;have bm:(1:Nat)<=8-1-1:=by omega
  clear u;gi_wp2_with (refine⟨trivial,?_⟩;gi_at_call 233;refine(CallsIn.inRound l' (callsIn_wide.2 HP.o)).mono ?_)
  intro e w1 q L;have ao:KeepsOthers W w1:=KeepsOthers.of_grownBy L λj o e ho=>by
   cases e;obtain⟨sv,bv,ay,M,h2⟩:=H;have m:W.ownsRow D 116 6 (S (some ⟨p,0,none⟩) 1 1) 1 (ib sp l sv bv):=M.row (r:=bxR p sp l sv bv) (by simp);rcases m.2 with ⟨e0,_⟩|⟨g,cap,ci,hv,_,ap,_⟩
   . cases e0
   cases hv;rw[ho]at ap;cases ap;rfl
  have I:∀k,k<E.heap.size->k≠p->w1.heap[k]?=W.heap[k]?:=fun k C I=>L.block k (by
   have:E.heap.size<=W.heap.size:=by
    have h3:=Kk W _ d1;have h4:=H.mo.bx (t:=24) (n:=1) (g:=V.heap.size+1+1) (cs:=[S a (N xs) c]) (by simp only[a0.o];simp) 0;have h5:=Kk W _ h4.1
    simp at h5;omega
   omega) (by simpa using I)
  have X:XN s ((d++[x]).map (·.2))=(XN s (d.map (·.2))).bind λs'=>Q7 s' x.2:=by rw[Tf];exact popR_snoc s _ _
  rw[HS.o]at X;have a1:=Hm ao;have ac:=Hm I;have az:=Hm X;clear ao I X;rcases q.cases with ⟨f,m,rfl,hb⟩|⟨t2,s2,m,rfl,ba⟩
  . (have HR:Hid (XN s ((d++[x]).map (·.2))=.error f):=by show XN s _=_;rw[az.o];show Q7 s' x.2=_;rw[Q7,m];rfl);have g1:w1.cell? ⟨V.heap.size+1,0,none⟩=some Nf:=(Kd (ac.o (V.heap.size+1) (by omega) (by omega))).trans d1;have g2:w1.frozen? ⟨V.heap.size+1,0,none⟩=false:=(World.frozen?_of_block (ac.o (V.heap.size+1) (by omega) (by omega))).trans d2;(have a8:Mo D w0 ks (w1.setCell ⟨V.heap.size+1,0,none⟩ (flt f)):=by rw[a0.o]at hb;have a9:=(hb.tail.set 0 (flt f)).tail.tail;exact a9);clear m q HP L;(gi_wp2);refine⟨a1.o.trans (KeepsOthers.setCell _ _ _),rfl,f,HR.o,World.cell?_setCell_same' _ _ _ (by rw[g1];rfl),a8⟩
  have HR:Hid (XN s ((d++[x]).map (·.2))=.ok s2):=by show XN s _=_;rw[az.o];show Q7 s' x.2=_;rw[Q7,m];rfl
  clear m q HP L;gi_wp2
  exact⟨a1.o,ac.o,s2,HR.o,ba⟩
 case done=>
  rintro D' ys W hD rfl ⟨s',u,H⟩ hK;rw[bk_rev]at u;obtain⟨d0,d1,d2⟩:=z H;have q:Xq s xs=.ok s':=u;have bf:=Hm q;have HI:=Hm H;have b8:D'≠V.heap.size+1:=by omega
  clear u q H;gi_wp2
  have ax:=(KeepsOthers.setCell W ⟨V.heap.size+1,0,none⟩ Nf).same D' _ hK rfl;refine⟨by simp,.inl ⟨_,_,rfl,run_takeDeferred ax,?_⟩⟩;have hS:ISt D w0 p sp l (R++ks) s' (W.setCell ⟨V.heap.size+1,0,none⟩ Nf):=by have Y:W.setCell ⟨V.heap.size+1,0,none⟩ Nf=W:=set_id d1;rw[Y];exact HI.o
  have av:=hS.turn (B:=E.heap.size) (grownBy_putObj' _ D' (.deferred none)) (by omega) (λr e=>by cases e;exact⟨hD,_,ax,rfl⟩);have aa:=(z av).2.1;refine⟨Nf,by simp[results,results264,go_sem,aa],?_⟩;rw[bf.o];exact⟨rfl,av.less a4⟩
 rintro D' c' d W hD ⟨k,C,rfl⟩ ⟨rfl,f,hf,hc,hb⟩ hK;obtain⟨r,m⟩:=bk_pre xs k C;have q:Xq s xs=.error f:=by show XN s xs.reverse=_;rw[m,popR_app,hf];rfl
 rw[q];clear q m hf;gi_wp2
 refine⟨by simp,.inl ⟨_,_,rfl,run_takeDeferred hK,?_⟩⟩;have aa:=cell_kept hc (grownBy_putObj' _ D' (.deferred none)) (λr e=>by cases e;exact⟨_,hK,rfl⟩);exact⟨flt f,by simp[results,results264,go_sem,aa],rfl,hb.turn (B:=E.heap.size) (grownBy_putObj' _ D' (.deferred none)) (by omega) (λr e=>by cases e;exact⟨hD,_,hK,rfl⟩)⟩
open Go.RowKit Go.Sort
section
variable {D:Nat}{w0:J}{p:Nat}{sp:Vu}{l:Lo}{ks:List Qb}{s:Fn}{V W V1:J}
theorem FnP.cases {e:Ending}(h:FnP D w0 p sp l ks r e w'):(∃f,r=.error f/\e=Z (flt f)/\Mo D w0 ks w')\/∃s',r=.ok s'/\e=Z Nf/\ISt D w0 p sp l ks s' w':=by
 unfold FnP at h;split at h
 . exact .inl ⟨_,rfl,h⟩
 exact .inr ⟨_,rfl,h⟩
theorem FnP.err {f:Int}{w'}(h:r=.error f)(a:Mo D w0 ks w'):FnP D w0 p sp l ks r (Z (flt f)) w':=by subst h;exact⟨rfl,a⟩
theorem FnP.ok (h:r=.ok s')(a:ISt D w0 p sp l ks s' w'):FnP D w0 p sp l ks r (Z Nf) w':=by subst h;exact⟨rfl,a⟩
end
theorem iapply_c (pv rv:Vu)(t:Qc)(h:ISt D w0 p sp l ks s V)(v:Ty D w0 ks pv t.ps)(u:Ty D w0 ks rv t.rs)(i:Inv s)(B:s.cq≠[])(E:N s.cq<=1048577)(y:N s.jj<=1099511627776)(Y:N t.ps<=1048577)(z:N t.rs<=1048577):Ec Q 235 #[Yp (some ⟨p,0,none⟩),Ag #[pv,rv]] V (FnP D w0 p sp l ks (apply s t)):=by
 obtain⟨q,n,rfl,_⟩:=v.st h;obtain⟨m,k,rfl,_⟩:=u.st h;have c:=h.bxn #[S q (N t.ps) n,S m (N t.rs) k] 76 2 rfl;obtain⟨W,F⟩:∃W,W=V.alloc (Fc #[S q (N t.ps) n,S m (N t.rs) k] 76):=⟨_,rfl⟩;obtain⟨g,C⟩:∃g,g=V.heap.size:=⟨_,rfl⟩;rw[<- F,<- C]at c;have d:=Hm (ipopAll_c (S q (N t.ps) n) t.ps c (v.cons _) i B E y (by omega));have M:∀{s':Fn} {W:J},ISt D w0 p sp l (box 76 2 g [S q (N t.ps) n,S m (N t.rs) k]::ks) s' W->W.cell? ⟨g,0,none⟩=some (S q (N t.ps) n)/\W.cell? ⟨g,1,none⟩=some (S m (N t.rs) k):=λc=>⟨(c.mo.b0 0).1,(c.mo.b0 1).1⟩;obtain⟨e0,e1⟩:=M c;have HT:=Hm u;have hi:=Hm i;clear h v u c;go_enter func235,ntmps235;go_wp2_with fail
 rw[<- F,<- C];clear F C;refine d.o.mono ?_;intro e w1 A;rcases A.cases with ⟨f,r,rfl,hb⟩|⟨s',r,rfl,b⟩
 . (have a:apply s t=.error f:=by simp only[apply,r];rfl);have j:=Hm a;clear A r a d;go_wp2;go_ret;exact FnP.err j.o hb.tail
 obtain⟨b1,b2,b3,b4,b5⟩:=Jt r hi.o;have a:apply s t=.ok (push s' t.rs):=by simp only[apply,r];rfl
 have j:=Hm a;obtain⟨d0,d1⟩:=M b;obtain⟨X,R,e,L⟩:=Ty.st (HT.o.cons (box 76 2 g [S q (N t.ps) n,S m (N t.rs) k])) b;cases e;have I:=Hm (ipush_c m k t.rs b L z (by omega));clear A r a d b L b1 b2 b3 b5;go_wp2_with (go_at_call 267;refine I.o.mono ?_;rintro e w2 ⟨rfl,H⟩)
 go_ret;exact FnP.ok j.o (H.un rfl)
def QR (n:Int):List Grp->List Int
 |[]=>[]
 |g::gs=>(n+g.n)::QR (n+g.n) gs
theorem endsM_len:∀(n:Int) (gs:List Grp),(QR n gs).length=N gs
 |n,[]=>rfl
 |n,g::gs=>by simp[QR,endsM_len (n+g.n) gs]
def QJ (gs:List Grp):Int:=(gs.map (·.n)).sum
theorem Gb (g:Grp)(gs:List Grp):QJ (g::gs)=g.n+QJ gs:=by simp[QJ]
theorem sumG_nn {gs:List Grp}(h:∀g∈gs,0<=g.n):0<=QJ gs:=by
 induction gs with
 |nil=>simp[QJ]
 |cons g gs ih =>
  rw[Gb]
  have:=h g (by simp)
  have:=ih λx hx=>h x (by simp[hx])
  omega
theorem endsM_snoc:∀(n:Int) (gs:List Grp) (g:Grp),QR n (gs++[g])=QR n gs++[n+QJ gs+g.n]
 |n,[],g=>by simp[QR,QJ]
 |n,x::gs,g=>by simp only[Lz,QR,endsM_snoc (n+x.n) gs g,Gb,<- Int.add_assoc]
theorem endsM_ge:∀(n:Int) (gs:List Grp),(∀g∈gs,0<=g.n)->∀x∈QR n gs,n<=x
 |n,[],_,x,a=>by cases a
 |n,g::gs,h,x,a=>by
  have b:=h g (by simp)
  rcases List.mem_cons.1 a with rfl|a
  . omega
  . have:=endsM_ge (n+g.n) gs (λy hy=>h y (by simp[hy])) x a;omega
theorem endsM_sorted:∀(n:Int) (gs:List Grp),(∀g∈gs,0<=g.n)->(QR n gs).Pairwise (·<=·)
 |n,[],_=>.nil
 |n,g::gs,h=>by
  refine .cons (λx hx=>endsM_ge _ gs (λy hy=>h y (by simp[hy])) x hx) (endsM_sorted _ gs λy hy=>h y (by simp[hy]))
theorem pw_getD (h:xs.Pairwise (·<=·))(i j:Nat)(b:i<=j)(c:j<N xs):xs.getD i 0<=xs.getD j 0:=by
 rcases Nat.lt_or_eq_of_le b with a|rfl
 . have:=List.pairwise_iff_getElem.1 h i j (by omega) c a;simpa[Kx,Kj c,Kj (show i<N xs by omega)]using this
 exact Int.le_refl _
theorem ends_find:∀(gs:List Grp) (n i:Int),n<=i->(∀g∈gs,0<=g.n)->∀k,k<=N gs->(∀q,q<k->(QR n gs).getD q 0<i+1)->(∀q,k<=q->q<N gs->i+1<=(QR n gs).getD q 0) ->
    (k=N gs->XU gs (i-n)=0/\¬(i-n<QJ gs))/\(k<N gs->XU gs (i-n)=(gs.getD k Grp.z).ty/\i-n<QJ gs)
 |[],n,i,hn,h,k,hk,h1,h2=>⟨λ_=>⟨rfl,by simp[QJ];omega⟩,λh=>by simp at h⟩
 |g::gs,n,i,hn,h,k,hk,h1,h2=>by
  have d:=h g (by simp);have c:=sumG_nn λy hy=>h y (List.mem_cons_of_mem g hy);rw[Gb]
  cases k with
  |zero =>
   have:=h2 0 lRz (by simp)
   simp[QR]at this
   refine⟨λe=>by simp at e,λ_=>⟨?_,by omega⟩⟩
   simp only[XU]
   rw[if_pos (by omega)];rfl
  |succ k =>
   have b:=h1 0 (by omega)
   simp[QR]at b
   have a:=ends_find gs (n+g.n) i (by omega) (λy hy=>h y (by simp[hy])) k (by simp at hk;omega) (λq hq=>by have:=h1 (q+1) (by omega);simpa[QR]using this) (λq hq hq2=>by have:=h2 (q+1) (by omega) (by simp;omega);simpa[QR]using this)
   have e:XU (g::gs) (i-n)=XU gs (i-(n+g.n)):=by
    simp only[XU]
    rw[if_neg (by omega),show i-n-g.n=i-(n+g.n) by omega]
   rw[e]
   refine⟨λhk'=>?_,λhk'=>?_⟩
   . have:=a.1 (by simpa using hk');exact⟨this.1,by omega⟩
   . have:=a.2 (by simpa using hk');exact⟨by rw[this.1];simp,by omega⟩
def GrL (D:Nat)(w0:J)(a:Option Ad)(gs:List Grp):Prop:=gs=[]\/∃b off,a=some ⟨b,off,none⟩/\b<D/\∀i,i<N gs->w0.cell? ⟨b,off+i*2,none⟩=some (U O (gs.getD i Grp.z).n)/\w0.cell? ⟨b,off+i*2+1,none⟩=some (U O (gs.getD i Grp.z).ty)
def JM (D:Nat)(w0:J)(ks:List Qb)(l:Lo)(ps:List Int)(gs:List Grp):Prop:=Ty D w0 ks l.pv ps/\(∃a c,l.gv=S a (N gs) c/\GrL D w0 a gs)/\Ty D w0 ks l.ev (QR (N ps) gs)
theorem ifind_c {D w0 V ks}{c:List Int}{gs:List Grp}(i:Int)(I:Mo D w0 ks V)(h:JM D w0 ks l c gs)(h0:0<=i)(hi:i<=4294967295)(hn:∀g∈gs,0<=g.n)(bf:N c<=1048577)(bg:N gs<=1048577):Ec Q 257 #[Ag #[l.pv,l.gv,l.ev],U O i] V λe w'=>e=Z (.tuple #[U O (if i<N c then c.getD i.toNat 0 else XU gs (i-N c)),G (decide (i<N c+QJ gs))])/\Bw V.heap.size V w':=by
 obtain⟨pv,gv,ev⟩:=l;obtain⟨t1,⟨ga,gc,hg,E⟩,t2⟩:=h;obtain⟨pa,pc,hp,hP⟩:=t1.shape I λr hr=>hr;obtain⟨ea,ec,he,hE⟩:=t2.shape I λr hr=>hr;dsimp only at hg hp he;subst hg hp he;have hs:=sumG_nn hn;have v:(QR (N c) gs).length=N gs:=endsM_len _ _;rw[v];obtain⟨W,M⟩:∃W,W=V.alloc (Fc #[S pa (N c) pc,S ga (N gs) gc,S ea (N gs) ec] 113):=⟨_,rfl⟩;have H:Bw V.heap.size V W:=by rw[M];exact bFz.alloc lRz _
 have kk:Bk W V.heap.size [S pa (N c) pc,S ga (N gs) gc,S ea (N gs) ec]:=by rw[M];exact Bk.new
 have e0:=kk.2.1 0 _ rfl;have e1:=kk.2.1 1 _ rfl;have e2:=kk.2.1 2 _ rfl;have B:=Hm (hi_int64 pa (N c) pc i);by_cases A:i<N c
 . (have u:Xo (N c) i=true:=by simp[Xo,h0,A]);rw[u]at B;obtain⟨j,rfl⟩:∃j:Nat,i=j:=⟨i.toNat,by omega⟩;(have hj:j<N c:=by omega);rcases hP.keep H with hx|⟨b,off,F,R⟩
   . subst hx;simp at hj
   subst F;have d:=R j hj;(have t:(if(j:Int)<N c then c.getD (j:Int).toNat 0 else XU gs ((j:Int)-N c))=c.getD j 0:=by rw[if_pos A];simp);(have f:decide ((j:Int)<N c+QJ gs)=true:=by simp;omega);rw[t,f];obtain⟨y,hy⟩:∃y,y=c.getD j 0:=⟨_,rfl⟩;rw[<- hy]at d⊢;clear hy R t f E hE hP t1 t2 kk v I u;have C:=Hm H;clear H;go_enter func257,ntmps257;(go_wp2_with fail);rw[<- M];clear M;refine(B.o _).mono ?_;rintro e w1 ⟨rfl,rfl⟩;go_wp2;(go_ret2);exact⟨rfl,C.o⟩
 have u:Xo (N c) i=false:=by simp[Xo];omega
 rw[u]at B;have t:(if i<N c then c.getD i.toNat 0 else XU gs (i-N c))=XU gs (i-N c):=by rw[if_neg A]
 rw[t];obtain⟨L,hL⟩:∃L,L=XU gs (i-N c):=⟨_,rfl⟩;obtain⟨dd,f⟩:∃dd,dd=decide (i<N c+QJ gs):=⟨_,rfl⟩;rw[<- hL,<- f];have Y:=Hm hL;have aa:=Hm f;clear hL f;have HF:=Hm (ends_find gs (N c) i (by omega) hn);have hw:IntKind.i64.wrap (i+1)=i+1:=by rw[Kz];omega
 have ab:=Hm (bs_c ea ec (QR (N c) gs) (i+1) W (by omega) (hE.keep H) (λa b h1 h2=>pw_getD (endsM_sorted _ gs hn) a b h1 h2));rw[v]at ab;have a1:=Hm v;have az:Hid (GrL D w0 ga gs):=E;have ay:=Hm (I.b.trans (H.mono I.le));have C:=Hm H;clear hE hP t1 t2 kk v I E H t u A;go_enter func257,ntmps257;go_wp2_with fail
 rw[<- M];clear M;refine(B.o _).mono ?_;rintro e w1 ⟨rfl,rfl⟩;go_wp2_with fail
 refine ab.o.mono ?_;rintro e w1 ⟨k,bb,rfl,hk,k1,k2,m,rfl⟩;rw[a1.o]at hk k2;obtain⟨F1,F2⟩:=HF.o k hk k1 k2;by_cases s:k=N gs
 . obtain⟨X,g2⟩:=F1 s;(have q:((k:Int)==(N gs:Int))=true:=by simp[s]);(have q1:L=0:=by rw[Y.o];exact X);(have q3:dd=false:=by rw[aa.o];simp;omega);subst q1 q3;clear F1 F2 s X g2 k1 k2 HF;go_wp2;(go_ret2);exact⟨rfl,Qo C.o _⟩
 obtain⟨X,g2⟩:=F2 (by omega);have q:((k:Int)==(N gs:Int))=false:=by simp;omega
 have q2:(k:Int)<(N gs:Int):=by omega
 rcases az.o with hx|⟨b,off,F,hb,R⟩
 . subst hx;simp at hk s;omega
 subst F;have d:(W.drewN m).cell? ⟨b,off+k*2+1,none⟩=some (U O (gs.getD k Grp.z).ty):=(ay.o.cell (p:=⟨b,off+k*2+1,none⟩) hb).trans (R k (by omega)).2;rw[<- X,<- Y.o]at d;have q3:dd=true:=by rw[aa.o];simp;omega
 subst q3;clear F1 F2 s X g2 k1 k2 HF R;go_wp2;go_ret2
 exact⟨rfl,Qo C.o _⟩
theorem ichoose_c (h:ISt D w0 p sp l ks s V)(n:s.cq≠[])(r:N s.cq<=1048577)(C:N s.jj<=1099511627776):Ec Q 234 #[Yp (some ⟨p,0,none⟩)] V (FnP D w0 p sp l ks ((Q7 s 127).bind λs1=>(pop s1 0).bind λp=>(pop p.2 p.1).map λq=>push q.2 [q.1])):=by
 obtain⟨M,A⟩:∃M,M=(Q7 s 127).bind λs1=>(pop s1 0).bind λp=>(pop p.2 p.1).map λq=>push q.2 [q.1]:=⟨_,rfl⟩;rw[<- A];have I:=Hm (ipop_c 127 h n r C);clear h;go_enter func234,ntmps234;go_wp2_with fail
 refine I.o.mono ?_;rintro e w1 ⟨c,j⟩;rcases c.cases with ⟨f,a,rfl,z⟩|⟨u,s1,a,rfl,k⟩
 . (have b:Hid (M=.error f):=by show M=_;rw[A,Q7,a];rfl);clear c a I j A;go_wp2;go_ret;exact FnP.err b.o z
 have g:M=(pop s1 0).bind λp=>(pop p.2 p.1).map λq=>push q.2 [q.1]:=by rw[A,Q7,a];rfl
 have B:=(Jp a).1;have b2:=JV a;have v:=Hm (ipop_c 0 k (by rw[B];exact n) (by rw[B];exact r) (by omega));clear c a I j k A;go_wp2_with fail
 refine v.o.mono ?_;rintro e w2 ⟨c,j⟩;rcases c.cases with ⟨f,a,rfl,z⟩|⟨L,s2,a,rfl,k⟩
 . (have b:Hid (M=.error f):=by show M=_;rw[g,a];rfl);clear c a v j g;go_wp2;go_ret;exact FnP.err b.o z
 have d:M=(pop s2 L).map λq=>push q.2 [q.1]:=by rw[g,a];rfl
 have F:=(Jp a).1;have b4:=JV a;have t:=Hm (ipop_c L k (by rw[F,B];exact n) (by rw[F,B];exact r) (by omega));clear c a v j k g;go_wp2_with fail
 refine t.o.mono ?_;rintro e m ⟨c,j⟩;rcases c.cases with ⟨f,a,rfl,z⟩|⟨y,Y,a,rfl,k⟩
 . (have b:Hid (M=.error f):=by show M=_;rw[d,a];rfl);clear c a t j d;go_wp2;go_ret;exact FnP.err b.o z
 have b:Hid (M=.ok (push Y [y])):=by show M=_;rw[d,a];rfl
 have b6:=JV a;have R:Bw m.heap.size m (m.alloc (Fc #[U O y] 2)):=bFz.alloc lRz _;have X:Has (m.alloc (Fc #[U O y] 2)) (some ⟨m.heap.size,0,none⟩) [y]:=.inr ⟨m.heap.size,0,rfl,fun i hi=>by
  have:i=0:=by simp at hi;omega
  subst this
  exact Qe rfl rfl⟩
 have H:=Hm (ipush_c (some ⟨m.heap.size,0,none⟩) 1 [y] (k.keep R) X (by simp) (by omega));clear c a t j d k R X B b2 F b4 b6;go_wp2_with (go_at_call 267;refine H.o.mono ?_;rintro e w4 ⟨rfl,E⟩)
 go_ret;exact FnP.ok b.o E
theorem ilabel_c (p g k c:Nat)(n:Int)(w:J)(q:w.cell? ⟨p,5,none⟩=some (S (some ⟨g,0,none⟩) (k+1) c))(o:k<=1099511627776)(hn:0<=n)(a:n<=k):Ec Q 231 #[Yp (some ⟨p,0,none⟩),U O n] w λe w'=>e=Z (Yp (some ⟨g,(k-n.toNat)*5,none⟩))/\∃m,w'=w.drewN m:=by
 obtain⟨j,rfl⟩:∃j:Nat,n=j:=⟨n.toNat,by omega⟩;have l:IntKind.i64.wrap (((k+1:Nat):Int)-1)=k:=by rw[Kz];omega
 obtain⟨i,b⟩:∃i:Nat,i=k-j:=⟨_,rfl⟩;have d:IntKind.i64.wrap ((k:Int)-(j:Int))=i:=by rw[Kz];omega
 have f:(i:Int)<((k+1:Nat):Int):=by omega
 simp only[Kc];rw[<- b];clear b hn a;go_enter func231,ntmps231;go_wp2;go_quiet (fail)
 go_wp2;go_ret;exact⟨rfl,_,rfl⟩
theorem Xz (w:J)(a b:Nat):(w.drewN a).drewN b=w.drewN (a+b):=by simp[World.drewN,Nat.add_assoc]
theorem ieq_c (a b)(ca cb:Nat)(xs c:List Int)(w)(hx:N xs<=1099511627776)(M:N c<=1099511627776)(z:Has w a xs)(v:Has w b c):Ec Q 269 #[S a (N xs) ca,S b (N c) cb] w λe w'=>e=Z (G (decide (xs=c)))/\∃n,w'=w.drewN n:=by
 by_cases s:N xs=N c
 . have A:=Hm s;rw[<- s];(have F:((N xs:Int) != (N xs:Int))=false:=by simp);have HA:=Hm z;have HB:=Hm v;clear z v s M;go_enter func269,ntmps269;go_wp2;(go_loopw [13] (λi wr=>∃k:Nat,k<=N xs/\i=U O k/\(∀j,j<k->xs.getD j 0=c.getD j 0)/\∃m,wr=w.drewN m) (λi _=>N xs-(intOf i).toNat));(case atStart=>exact⟨0,Kw _,rfl,λj h=>by omega,0,rfl⟩);obtain⟨k,hk,rfl,d,m,rfl⟩:=hrel;have f:=Hm d;clear d;by_cases r:k<N xs
   . rcases HA.o with h|⟨b1,I,rfl,u⟩
     . subst h;simp at r
     rcases HB.o with h|⟨b2,H,rfl,t⟩
     . have B:=A.o;rw[h]at B;simp only[Pw]at B;omega
     have Y:w.cell? ⟨b1,I+k,none⟩=some (U O (xs.getD k 0)):=u k r;have X:w.cell? ⟨b2,H+k,none⟩=some (U O (c.getD k 0)):=t k (by have:=A.o;omega);(have R:(k:Int)<(N xs:Int):=by omega);obtain⟨x,l⟩:∃x,x=xs.getD k 0:=⟨_,rfl⟩;obtain⟨y,g⟩:∃y,y=c.getD k 0:=⟨_,rfl⟩;rw[<- l]at Y;rw[<- g]at X;have E:=Hm l;have D:=Hm g;clear l g u t;by_cases q:x=y
     . (have L:(x != y)=false:=by simp[q]);have p:=Hm q;clear q;go_wp2;(go_quiet (fail));go_wp2;go_roundw
       case rel=>exact⟨k+1,by omega,by go_num,fun j hj=>by
        rcases(by omega:j<k\/j=k)with h|h
        . exact f.o j h
        . subst h;rw[<- E.o,<- D.o];exact p.o,_,by first | rfl | exact Xz _ _ _⟩
       case measure=>simp[intOf];omega
     (have L:(x != y)=true:=by simp[q]);(have p:Hid (decide (xs=c)=false):=by show decide _=_;simp;intro e;subst e;exact q (E.o.trans D.o.symm));clear q;go_wp2;(go_quiet (fail));go_wp2;go_ret;exact⟨by rw[p.o];rfl,_,by first|rfl|exact Xz _ _ _⟩
   (have e:k=N xs:=by omega);subst e;(have p:Hid (decide (xs=c)=true):=by show decide _=_;simp;apply Pb A.o;intro i C V;have:=f.o i C;simpa[Kx,Kj C,Kj V]using this);go_wp2;go_ret;exact⟨by rw[p.o];rfl,m,rfl⟩
 have F:((N xs:Int) != (N c:Int))=true:=by simp;omega
 have p:Hid (decide (xs=c)=false):=by show decide _=_;simp;intro e;subst e;exact s rfl
 clear z v s;go_enter func269,ntmps269;go_wp2;go_ret;exact⟨by rw[p.o];rfl,0,rfl⟩
theorem all_x:(∀(a:Option Ad) (c:Nat) (l:List Int) (C B:Nat) (P:Int->Bool) (w:J) (hn:N l<=1099511627776) (r:Has w a l) (n:∀x,x∈l->∀m,Ec Q 268 #[U O x,Yp (some ⟨C,0,none⟩),Yp (some ⟨B,0,none⟩)] (w.drewN m) λe w'=>e=Z (G (P x))/\∃k,w'=(w.drewN m).drewN k),Ec Q 155 #[S a (N l) c,.func (.func 268) #[] #[Yp (some ⟨C,0,none⟩),Yp (some ⟨B,0,none⟩)]] w λe w'=>e=Z (G (l.all P))/\∃m,w'=w.drewN m)/\(∀(a:Option Ad) (c:Nat) (l:List Int) (p:Nat) (P:Int->Bool) (w:J) (hn:N l<=1099511627776) (r:Has w a l) (n:∀x,x∈l->∀m,Ec Q 220 #[Yp (some ⟨p,0,none⟩),U O x] (w.drewN m) λe w'=>e=Z (G (P x))/\∃k,w'=(w.drewN m).drewN k),Ec Q 155 #[S a (N l) c,.func (.func 220) #[Yp (some ⟨p,0,none⟩)] #[]] w λe w'=>e=Z (G (l.all P))/\∃m,w'=w.drewN m):=by
 refine⟨?c0,?c1⟩;case' c0=>intro a c l C B P w hn r n;have M:=0
 case' c1=>intro a c l p P w hn r n;have L:=0
 all_goals
  have u:=Hm r;have Y:=Hm n;clear r n
  go_enter func155,ntmps155
  go_wp2_with fail
  go_loopw [9] (λi wr=>∃k:Nat,k<=N l/\i=U O k/\(∀j,j<k->P (l.getD j 0)=true)/\∃m,wr=w.drewN m) (λi _=>N l-(intOf i).toNat)
  case atStart=>exact⟨0,Kw _,rfl,λj h=>by omega,0,rfl⟩
  case round =>
   obtain⟨k,hk,rfl,b,m,rfl⟩:=hrel
   by_cases g:k<N l
   . have V:(k:Int)<(N l:Int):=by omega
     rcases u.o with v|⟨D,R,X,A⟩
     . subst v;simp at g
     have d:(w.drewN m).cell? ⟨D,R+k,none⟩=some (U O (l.getD k 0)):=A k g;subst X;have H:=Hm (Y.o (l.getD k 0) (by simp[Kx,g]) m);generalize t:l.getD k 0=y at *;generalize s:P y=z at *
     cases z
     . have f:Hid (l.all P=false):=by
         show l.all P=false
         rw[List.all_eq_false]
         exact⟨y,by rw[<- t];simp[Kx,g],by simp[s]⟩
       clear b A t s u
       go_wp2_with (refine H.o.mono ?_;rintro e I ⟨rfl,q,rfl⟩)
       go_ret
       exact⟨by rw[f.o];rfl,_,by first|rfl|exact Xz _ _ _⟩
     . have E:Hid (∀j,j<k+1->P (l.getD j 0)=true):=λj hj=>by
         rcases(by omega:j<k\/j=k)with h|h
         . exact b j h
         . subst h;rw[t];exact s
       clear b A t s u
       go_wp2_with (refine H.o.mono ?_;rintro e I ⟨rfl,q,rfl⟩)
       go_roundw
       case rel=>exact⟨k+1,by omega,by go_num,E.o,_,by first|rfl|exact Xz _ _ _⟩
       case measure=>simp[intOf];omega
   . have e:k=N l:=by omega
     subst e
     have f:Hid (l.all P=true):=by
      show l.all P=true
      rw[Hf]
      intro x v
      obtain⟨i,F,rfl⟩:=List.getElem_of_mem v
      have:=b i F
      simpa[Kx,F]using this
     clear b u
     go_wp2
     go_ret
     exact⟨by rw[f.o];rfl,m,rfl⟩
def allT_c:=all_x.1
def allL_c:=all_x.2
theorem X3 (p n c:Nat)(a:Option Ad)(i:Int)(w:J)(d:w.cell? ⟨p,5,none⟩=some (S a n c)):Ec Q 220 #[Yp (some ⟨p,0,none⟩),U O i] w λe w'=>e=Z (G (Xo n i))/\w=w':=by
 have H:=Hm (hi_validBlock a n c i);go_enter func220,ntmps220;go_wp2_with (go_at_call 256;refine(H.o _).mono ?_;rintro e b ⟨rfl,rfl⟩)
 go_ret;exact⟨rfl,rfl⟩
theorem ihasFunc_c (q n c:Nat)(a:Option Ad)(i:Int)(w:J)(d:w.cell? ⟨q,1,none⟩=some (S a n c)):Ec Q 221 #[Yp (some ⟨q,0,none⟩),U O i] w λe w'=>e=Z (G (Xo n i))/\w=w':=by
 have H:=Hm (X4 a n c i);go_enter func221,ntmps221;go_wp2_with (go_at_call 222;refine(H.o _).mono ?_;rintro e b ⟨rfl,rfl⟩)
 go_ret;exact⟨rfl,rfl⟩
structure Spc where
 tv:Vu
 fv:Vu
 gv:Vu
 nv:Vu
 tcs:List Vu
 fcs:List Vu
 gcs:List Vu
variable {m:Spc}
abbrev spB (x:Ctx)(m:Spc)(fo go bd:Int):List Vu:=[m.tv,m.fv,U O x.jv,U O x.jz,m.gv,U O fo,U O go,U O bd,m.nv]
def FTs (D:Nat)(w0:J)(xs:List Qc)(cs:List Vu):Prop:=N cs=N xs*2/\∀i x,xs[i]?=some x->∃pv rv,cs[i*2]?=some pv/\cs[i*2+1]?=some rv/\Ty D w0 [] pv x.ps/\Ty D w0 [] rv x.rs
def gCs (gs:List Qx):List Vu:=gs.flatMap λg=>[U O g.ty,G g.mu]
structure SpR (D:Nat)(w0:J)(q:Nat)(x:Ctx)(fo go bd:Int)(m:Spc)(ks:List Qb):Prop where
 bx:box 215 9 q (spB x m fo go bd)∈ks
 tr:(⟨76,2,N x.types,m.tv,m.tcs⟩:Qb)∈ks
 fr:(⟨76,2,N x.jk,m.fv,m.fcs⟩:Qb)∈ks
 gr:(⟨176,2,N x.jx,m.gv,m.gcs⟩:Qb)∈ks
 tt:FTs D w0 x.types m.tcs
 ft:FTs D w0 x.jk m.fcs
 gt:m.gcs=gCs x.jx
theorem SpR.sub {ks':List Qb}(h:SpR D w0 q x fo go bd m ks)(a:∀r∈ks,r∈ks'):SpR D w0 q x fo go bd m ks':=⟨a _ h.bx,a _ h.tr,a _ h.fr,a _ h.gr,h.tt,h.ft,h.gt⟩
theorem Qu {D w0 V ks}{sz:Nat}(f:Mo D w0 ks V)(h:(⟨e,sz,n,v,cs⟩:Qb)∈ks):∃a c,v=S a n c/\(0<n->∃g,a=some ⟨g,0,none⟩/\∀j u,cs[j]?=some u->j<n*sz->V.cell? ⟨g,j,none⟩=some u):=by
 have b:V.ownsRow D e sz v n cs:=f.row h;rcases b.2 with ⟨e,k⟩|⟨g,cap,l,d,_⟩
 . rw[k];exact⟨_,_,e,λh=>by omega⟩
 subst d;exact⟨_,_,rfl,λ_=>⟨g,rfl,λj u hu hj=>(World.ownsRow.cellAt b j hj).trans hu⟩⟩
theorem SpR.cells (h:SpR D w0 q x fo go bd m ks)(a:Mo D w0 ks V):V.cell? ⟨q,0,none⟩=some m.tv/\V.cell? ⟨q,1,none⟩=some m.fv/\V.cell? ⟨q,2,none⟩=some (U O x.jv)/\V.cell? ⟨q,3,none⟩=some (U O x.jz)/\V.cell? ⟨q,4,none⟩=some m.gv:=by
 have B:=λ(j:Nat) (u:Vu) hj hu=>a.bx h.bx j (u:=u) hj hu;exact⟨(B 0 _ (by omega) rfl).1,(B 1 _ (by omega) rfl).1,(B 2 _ (by omega) rfl).1,(B 3 _ (by omega) rfl).1,(B 4 _ (by omega) rfl).1⟩
theorem Gr {gs:List Qx}{i:Nat}{g:Qx}(h:gs[i]?=some g):(gCs gs)[i*2]?=some (U O g.ty)/\(gCs gs)[i*2+1]?=some (G g.mu):=by
 induction gs generalizing i with
 |nil=>simp at h
 |cons x gs ih =>
  cases i with
  |zero=>simp at h;subst h;exact⟨rfl,rfl⟩
  |succ i =>
   have:=ih (i:=i) (by simpa using h)
   rw[show(i+1)*2=i*2+2 by omega]
   exact this
theorem Xm {i:Int}(h:0<=i):Xo n i=decide (i<n):=by simp[Xo,h]
abbrev frm (op:Int):Int:=Qi (Qa op)
theorem ihasLocal_c (p:Nat)(l:Lo)(a:Int)(w1:J){v:Int}{b:Bool}(m:w1.cell? ⟨p,1,none⟩=some l.pv)(k:w1.cell? ⟨p,2,none⟩=some l.gv)(j:w1.cell? ⟨p,3,none⟩=some l.ev)(d:Ec Q 257 #[Ag #[l.pv,l.gv,l.ev],U O a] w1 λe w'=>e=Z (.tuple #[U O v,G b])/\Bw w1.heap.size w1 w'):Ec Q 223 #[Yp (some ⟨p,0,none⟩),U O a] w1 λe w'=>e=Z (G b)/\Bw w1.heap.size w1 w':=by
 have f:=Hm d;clear d;go_enter func223,ntmps223;go_wp2_with (go_at_call 257;refine f.o.mono ?_;rintro e g ⟨rfl,c⟩)
 go_ret;exact⟨rfl,c⟩
theorem ihas_m5 (op a b v:Int)(d:List Int)(la)(u:Nat)(h:ISt D w0 p (Yp (some ⟨q,0,none⟩)) l ks s V)(f:SpR D w0 q x fo go bd m ks)(y:JM D w0 ks l s.ps s.gq)(hn:∀g∈s.gq,0<=g.n)(I:N s.ps<=1048577)(M:N s.gq<=1048577)(Y:0<=a)(X:a<=4294967295)(L:N d<=1048577)(hL:Has V la d)(aa:∀i∈d,0<=i)(z:frm op=5):Ec Q 173 #[Yp (some ⟨p,0,none⟩),inV ⟨op,a,b,v,d⟩ la u] V λe w'=>e=Z (G (decide (0<x.jz)))/\Bw V.heap.size V w':=by
 have E:=Hm (QK op);rw[show Qi (Qa op)=5 from z]at E;have j:Hid (decide (0<x.jz)=decide ((0:Int)<(x.jz:Int))):=by show decide _=decide _;simp
 obtain⟨W,t⟩:∃W,W=V.alloc (Fc #[U O op,U O a,U O b,U Ou v,S la (N d) u] 85):=⟨_,rfl⟩;have A:Bw V.heap.size V W:=by rw[t];exact bFz.alloc lRz _
 have kk:C5 W V.heap.size 0 (U O op) (U O a) (U O b) (U Ou v) (S la (N d) u):=by rw[t];exact C5.new
 have C:=Hm kk;obtain⟨⟨c0,c1,c2,c3,c4⟩,cf⟩:=kk;have hI:=Hm h;have B:=Hm f;clear h f y hL cf;go_enter func173,ntmps173;go_upto_region 1 with fail
 rw[<- t];clear t;go_wp2_with fail
 refine(E.o _).mono ?_;rintro e w1 ⟨rfl,c⟩;have r:=Hm (A.trans (c.mono A.size));obtain⟨⟨d0,d1,d2,d3,d4⟩,df⟩:=C.o.keep c;have k:=Hm (hI.o.keep r.o);obtain⟨sa,sc,bv,ak,F,R,H,q5,f4,f5⟩:=k.o.opnS;have q0:=(F.b0 0).1;obtain⟨r0,r1,r2,r3,r4⟩:=B.o.cells k.o.mo;clear c A c0 c1 c2 c3 c4 df F R E H f4 f5;go_wp2;go_ret;exact⟨by rw[j.o];rfl,r.o⟩
theorem ihas_m6 (op a b v:Int)(d:List Int)(la)(u:Nat)(h:ISt D w0 p (Yp (some ⟨q,0,none⟩)) l ks s V)(f:SpR D w0 q x fo go bd m ks)(y:JM D w0 ks l s.ps s.gq)(hn:∀g∈s.gq,0<=g.n)(I:N s.ps<=1048577)(M:N s.gq<=1048577)(Y:0<=a)(X:a<=4294967295)(L:N d<=1048577)(hL:Has V la d)(aa:∀i∈d,0<=i)(z:frm op=6):Ec Q 173 #[Yp (some ⟨p,0,none⟩),inV ⟨op,a,b,v,d⟩ la u] V λe w'=>e=Z (G (decide (0<x.jz)))/\Bw V.heap.size V w':=by
 have E:=Hm (QK op);rw[show Qi (Qa op)=6 from z]at E;have j:Hid (decide (0<x.jz)=decide ((0:Int)<(x.jz:Int))):=by show decide _=decide _;simp
 obtain⟨W,t⟩:∃W,W=V.alloc (Fc #[U O op,U O a,U O b,U Ou v,S la (N d) u] 85):=⟨_,rfl⟩;have A:Bw V.heap.size V W:=by rw[t];exact bFz.alloc lRz _
 have kk:C5 W V.heap.size 0 (U O op) (U O a) (U O b) (U Ou v) (S la (N d) u):=by rw[t];exact C5.new
 have C:=Hm kk;obtain⟨⟨c0,c1,c2,c3,c4⟩,cf⟩:=kk;have hI:=Hm h;have B:=Hm f;clear h f y hL cf;go_enter func173,ntmps173;go_upto_region 1 with fail
 rw[<- t];clear t;go_wp2_with fail
 refine(E.o _).mono ?_;rintro e w1 ⟨rfl,c⟩;have r:=Hm (A.trans (c.mono A.size));obtain⟨⟨d0,d1,d2,d3,d4⟩,df⟩:=C.o.keep c;have k:=Hm (hI.o.keep r.o);obtain⟨sa,sc,bv,ak,F,R,H,q5,f4,f5⟩:=k.o.opnS;have q0:=(F.b0 0).1;obtain⟨r0,r1,r2,r3,r4⟩:=B.o.cells k.o.mo;clear c A c0 c1 c2 c3 c4 df F R E H f4 f5;go_wp2;go_ret;exact⟨by rw[j.o];rfl,r.o⟩
theorem ihas_12 (a b v:Int)(f:List Int)(la)(z:Nat)(h:ISt D w0 p (Yp (some ⟨q,0,none⟩)) l ks s V)(j:SpR D w0 q x fo go bd m ks)(A:JM D w0 ks l s.ps s.gq)(hn:∀g∈s.gq,0<=g.n)(ab:N s.ps<=1048577)(ad:N s.gq<=1048577)(C:0<=a)(af:a<=4294967295)(ac:N f<=1048577)(hL:Has V la f)(ag:∀i∈f,0<=i)  :Ec Q 173 #[Yp (some ⟨p,0,none⟩),inV ⟨12,a,b,v,f⟩ la z] V λe w'=>e=Z (G (decide (a<N s.cq)))/\Bw V.heap.size V w':=by
 have M:=Hm (QK 12);rw[show Qi (Qa 12)=2 by decide +kernel]at M;have k:Hid (decide (a<N s.cq)=Xo (N s.cq) a):=(Xm C).symm;obtain⟨W,y⟩:∃W,W=V.alloc (Fc #[U O 12,U O a,U O b,U Ou v,S la (N f) z] 85):=⟨_,rfl⟩;have H:Bw V.heap.size V W:=by rw[y];exact bFz.alloc lRz _
 have kk:C5 W V.heap.size 0 (U O 12) (U O a) (U O b) (U Ou v) (S la (N f) z):=by rw[y];exact C5.new
 have L:=Hm kk;obtain⟨⟨c0,c1,c2,c3,c4⟩,cf⟩:=kk;have hI:=Hm h;have I:=Hm j;clear h j A hL cf;go_enter func173,ntmps173;go_upto_region 1 with fail
 rw[<- y];clear y;go_wp2_with fail
 refine(M.o _).mono ?_;rintro e w1 ⟨rfl,d⟩;have u:=Hm (H.trans (d.mono H.size));obtain⟨⟨d0,d1,d2,d3,d4⟩,df⟩:=L.o.keep d;have t:=Hm (hI.o.keep u.o);obtain⟨sa,sc,Y,E,X,hf,q4,q5,f4,f5⟩:=t.o.opnS;obtain⟨r0,r1,r2,r3,r4⟩:=I.o.cells t.o.mo;have R:Hid (∃a c,Y=S a (N s.cq) c):=Qg (X.row (r:=blR _ Y E) (by simp));clear d H c0 c1 c2 c3 c4 df X hf M q4 f4 f5;obtain⟨F,bc,B⟩:=R.o;subst B;have HC:=Hm (λw=>X3 p (N s.cq) bc F a w);go_wp2_with (go_at_call 220;refine(HC.o _ (by assumption)).mono ?_;rintro e w2 ⟨rfl,rfl⟩)
 go_ret;exact⟨by rw[k.o];rfl,u.o⟩
theorem ihas_13 (a b v:Int)(f:List Int)(la)(z:Nat)(h:ISt D w0 p (Yp (some ⟨q,0,none⟩)) l ks s V)(j:SpR D w0 q x fo go bd m ks)(A:JM D w0 ks l s.ps s.gq)(hn:∀g∈s.gq,0<=g.n)(ab:N s.ps<=1048577)(ad:N s.gq<=1048577)(C:0<=a)(af:a<=4294967295)(ac:N f<=1048577)(hL:Has V la f)(ag:∀i∈f,0<=i)  :Ec Q 173 #[Yp (some ⟨p,0,none⟩),inV ⟨13,a,b,v,f⟩ la z] V λe w'=>e=Z (G (decide (a<N s.cq)))/\Bw V.heap.size V w':=by
 have M:=Hm (QK 13);rw[show Qi (Qa 13)=2 by decide +kernel]at M;have k:Hid (decide (a<N s.cq)=Xo (N s.cq) a):=(Xm C).symm;obtain⟨W,y⟩:∃W,W=V.alloc (Fc #[U O 13,U O a,U O b,U Ou v,S la (N f) z] 85):=⟨_,rfl⟩;have H:Bw V.heap.size V W:=by rw[y];exact bFz.alloc lRz _
 have kk:C5 W V.heap.size 0 (U O 13) (U O a) (U O b) (U Ou v) (S la (N f) z):=by rw[y];exact C5.new
 have L:=Hm kk;obtain⟨⟨c0,c1,c2,c3,c4⟩,cf⟩:=kk;have hI:=Hm h;have I:=Hm j;clear h j A hL cf;go_enter func173,ntmps173;go_upto_region 1 with fail
 rw[<- y];clear y;go_wp2_with fail
 refine(M.o _).mono ?_;rintro e w1 ⟨rfl,d⟩;have u:=Hm (H.trans (d.mono H.size));obtain⟨⟨d0,d1,d2,d3,d4⟩,df⟩:=L.o.keep d;have t:=Hm (hI.o.keep u.o);obtain⟨sa,sc,Y,E,X,hf,q4,q5,f4,f5⟩:=t.o.opnS;obtain⟨r0,r1,r2,r3,r4⟩:=I.o.cells t.o.mo;have R:Hid (∃a c,Y=S a (N s.cq) c):=Qg (X.row (r:=blR _ Y E) (by simp));clear d H c0 c1 c2 c3 c4 df X hf M q4 f4 f5;obtain⟨F,bc,B⟩:=R.o;subst B;have HC:=Hm (λw=>X3 p (N s.cq) bc F a w);go_wp2_with (go_at_call 220;refine(HC.o _ (by assumption)).mono ?_;rintro e w2 ⟨rfl,rfl⟩)
 go_ret;exact⟨by rw[k.o];rfl,u.o⟩
theorem ihas_14 (a b v:Int)(d:List Int)(la)(F:Nat)(h:ISt D w0 p (Yp (some ⟨q,0,none⟩)) l ks s V)(u:SpR D w0 q x fo go bd m ks)(I:JM D w0 ks l s.ps s.gq)(hn:∀g∈s.gq,0<=g.n)(ar:N s.ps<=1048577)(av:N s.gq<=1048577)(M:0<=a)(ax:a<=4294967295)(au:N d<=1048577)(hL:Has V la d)(B:∀i∈d,0<=i)  :Ec Q 173 #[Yp (some ⟨p,0,none⟩),inV ⟨14,a,b,v,d⟩ la F] V λe w'=>e=Z (G (d.all (λi=>decide (i<N s.cq))&&decide (a<N s.cq)))/\Bw V.heap.size V w':=by
 have HF:=Hm (QK 14);rw[show Qi (Qa 14)=3 by decide +kernel]at HF;have A:d.all (λi=>decide (i<N s.cq))=d.all (λi=>Xo (N s.cq) i):=by
  rw[Bool.eq_iff_iff,Hf,Hf];constructor
  . intro h i y;rw[Xm (B i y)];exact h i y
  intro h i y;rw[<- Xm (B i y)];exact h i y
 rw[A,<- Xm M];clear A;obtain⟨W,H⟩:∃W,W=V.alloc (Fc #[U O 14,U O a,U O b,U Ou v,S la (N d) F] 85):=⟨_,rfl⟩;have X:Bw V.heap.size V W:=by rw[H];exact bFz.alloc lRz _
 have kk:C5 W V.heap.size 0 (U O 14) (U O a) (U O b) (U Ou v) (S la (N d) F):=by rw[H];exact C5.new
 have aa:=Hm kk;obtain⟨⟨c0,c1,c2,c3,c4⟩,cf⟩:=kk;have hI:=Hm h;have Y:=Hm u;have ab:=Hm hL;clear h u I hL cf;go_enter func173,ntmps173;go_upto_region 1 with fail
 rw[<- H];clear H;go_wp2_with fail
 refine(HF.o _).mono ?_;rintro e w1 ⟨rfl,j⟩;have f:=Hm (X.trans (j.mono X.size));obtain⟨⟨d0,d1,d2,d3,d4⟩,df⟩:=aa.o.keep j;have E:=Hm (hI.o.keep f.o);obtain⟨sa,sc,bv,R,hm,hf,q4,q5,f4,f5⟩:=E.o.opnS;obtain⟨r0,r1,r2,r3,r4⟩:=Y.o.cells E.o.mo;have ad:Hid (∃a c,bv=S a (N s.cq) c):=Qg (hm.row (r:=blR _ bv R) (by simp));clear j X c0 c1 c2 c3 c4 df hm hf HF q4 f4 f5;obtain⟨C,bc,L⟩:=ad.o;subst L;have HC:=Hm (λw=>X3 p (N s.cq) bc C a w);have t:=Hm (allL_c la F d p (λi=>Xo (N s.cq) i) w1 (by omega) (ab.o.keep f.o) (λi _ k=>(X3 p (N s.cq) bc C i (w1.drewN k) (by simpa using q5)).mono λe w' ⟨h1,h2⟩=>⟨h1,0,h2.symm⟩));generalize hz:d.all (λi=>Xo (N s.cq) i)=z at t;have HZ:=Hm hz;clear hz;cases z
 . (go_wp2_with (go_at_call 155;refine t.o.mono ?_;rintro e w2 ⟨rfl,k,rfl⟩));go_ret;exact⟨by rw[HZ.o];rfl,Qo f.o _⟩
 go_wp2_with (first|(go_at_call 155;refine t.o.mono ?_;rintro e w2 ⟨rfl,k,rfl⟩)|(go_at_call 220;refine(HC.o _ (by simpa using q5)).mono ?_;rintro e w2 ⟨rfl,rfl⟩))
 go_ret;exact⟨by rw[HZ.o];rfl,Qo f.o _⟩
theorem ihas_17 (a b v:Int)(j:List Int)(la)(z:Nat)(h:ISt D w0 p (Yp (some ⟨q,0,none⟩)) l ks s V)(r:SpR D w0 q x fo go bd m ks)(B:JM D w0 ks l s.ps s.gq)(hn:∀g∈s.gq,0<=g.n)(ad:N s.ps<=1048577)(af:N s.gq<=1048577)(C:0<=a)(ah:a<=4294967295)(ae:N j<=1048577)(hL:Has V la j)(ai:∀i∈j,0<=i)  :Ec Q 173 #[Yp (some ⟨p,0,none⟩),inV ⟨17,a,b,v,j⟩ la z] V λe w'=>e=Z (G (decide (0<x.jv)&&decide (a<N x.types)))/\Bw V.heap.size V w':=by
 have H:=Hm (QK 17);rw[show Qi (Qa 17)=4 by decide +kernel]at H;rw[<- Xm C];obtain⟨W,y⟩:∃W,W=V.alloc (Fc #[U O 17,U O a,U O b,U Ou v,S la (N j) z] 85):=⟨_,rfl⟩;have E:Bw V.heap.size V W:=by rw[y];exact bFz.alloc lRz _
 have kk:C5 W V.heap.size 0 (U O 17) (U O a) (U O b) (U Ou v) (S la (N j) z):=by rw[y];exact C5.new
 have F:=Hm kk;obtain⟨⟨c0,c1,c2,c3,c4⟩,cf⟩:=kk;have hI:=Hm h;have u:=Hm r;clear h r B hL cf;go_enter func173,ntmps173;go_upto_region 1 with fail
 rw[<- y];clear y;go_wp2_with fail
 refine(H.o _).mono ?_;rintro e L ⟨rfl,c⟩;have f:=Hm (E.trans (c.mono E.size));obtain⟨⟨d0,d1,d2,d3,d4⟩,df⟩:=F.o.keep c;have d:=Hm (hI.o.keep f.o);obtain⟨sa,sc,bv,az,M,hf,Y,q5,f4,f5⟩:=d.o.opnS;have q0:=(M.b0 0).1;obtain⟨X,r1,r2,r3,r4⟩:=u.o.cells d.o.mo;clear c E c0 c1 c2 c3 c4 df M hf H Y f4 f5;obtain⟨fa,fc,t,_⟩:=Qu d.o.mo u.o.tr;have R:=Hm (λk=>(X4 fa (N x.types) fc a (L.drewN k)).mono (R':=λe w'=>e=Z (G (Xo (N x.types) a))/\∃n,w'=L.drewN n) λe w' ⟨h1,h2⟩=>⟨h1,k,h2.symm⟩);rw[t]at X;clear t;by_cases ht:0<x.jv
 . (have A:(0:Int)<(x.jv:Int):=by omega);(have hd:decide (0<x.jv)=true:=by simp[ht]);have I:=Hm hd;clear hd;(go_wp2_with fail);refine wp_region_quiet_lit (by kernel_rfl) (by kernel_rfl) ?_;(repeat ((with_reducible refine wpQuiet_step (λK hK=>?_));go_simp;first|(refine hK _ ?_;clear hK K)|(apply Exists.intro;refine⟨λ_=>?_,hK _ ?_⟩;(with_reducible exact R.o _);clear hK K)|(rw[if_neg (by simp[Region.wanted,yielded,undef])];go_simp;refine hK _ ?_;clear hK K)));refine wpQuiet_nil ?_;rintro _ ⟨nq,rfl⟩;go_wp2;go_ret;exact⟨by rw[I.o];rfl,Qo f.o _⟩
 have A:¬((0:Int)<(x.jv:Int)):=by omega
 have ab:x.jv=0:=by omega
 have hd:decide (0<x.jv)=false:=by simp;omega
 have I:=Hm hd;clear hd;go_wp2_with fail
 refine wp_region_quiet_lit (by kernel_rfl) (by kernel_rfl) ?_;repeat ((with_reducible refine wpQuiet_step (λK hK=>?_));go_simp;first|(refine hK _ ?_;clear hK K)|(apply Exists.intro;refine⟨λ_=>?_,hK _ ?_⟩;(with_reducible exact R.o _);clear hK K)|(rw[if_neg (by simp[Region.wanted,yielded,undef])];go_simp;refine hK _ ?_;clear hK K))
 refine wpQuiet_nil ?_;rintro _ ⟨nq,rfl⟩;go_wp2;go_ret;exact⟨by rw[I.o];rfl,Qo f.o _⟩
theorem ihas_z:(∀⦃D:Nat⦄ ⦃w0:J⦄ ⦃p q:Nat⦄ ⦃l:Lo⦄ ⦃ks:List Qb⦄ ⦃s:Fn⦄ ⦃V:J⦄ ⦃x:Ctx⦄ ⦃fo go bd:Int⦄ ⦃m:Spc⦄ (a b v:Int) (c:List Int) (j:Option Ad) (k:Nat) (h:ISt D w0 p (Yp (some ⟨q,0,none⟩)) l ks s V) (r:SpR D w0 q x fo go bd m ks) (t:JM D w0 ks l s.ps s.gq) (hn:∀g∈s.gq,0<=g.n) (u:N s.ps<=1048577) (y:N s.gq<=1048577) (A:0<=a) (z:a<=4294967295) (C:N c<=1048577) (R:Has V j c) (F:∀i∈c,0<=i),Ec Q 173 #[Yp (some ⟨p,0,none⟩),inV ⟨32,a,b,v,c⟩ j k] V λe w'=>e=Z (G (decide (a<N s.ps+QJ s.gq)))/\Bw V.heap.size V w')/\(∀⦃D:Nat⦄ ⦃w0:J⦄ ⦃p q:Nat⦄ ⦃l:Lo⦄ ⦃ks:List Qb⦄ ⦃s:Fn⦄ ⦃V:J⦄ ⦃x:Ctx⦄ ⦃fo go bd:Int⦄ ⦃m:Spc⦄ (a b v:Int) (c:List Int) (j:Option Ad) (k:Nat) (h:ISt D w0 p (Yp (some ⟨q,0,none⟩)) l ks s V) (r:SpR D w0 q x fo go bd m ks) (t:JM D w0 ks l s.ps s.gq) (hn:∀g∈s.gq,0<=g.n) (u:N s.ps<=1048577) (y:N s.gq<=1048577) (A:0<=a) (z:a<=4294967295) (C:N c<=1048577) (R:Has V j c) (F:∀i∈c,0<=i),Ec Q 173 #[Yp (some ⟨p,0,none⟩),inV ⟨33,a,b,v,c⟩ j k] V λe w'=>e=Z (G (decide (a<N s.ps+QJ s.gq)))/\Bw V.heap.size V w')/\(∀⦃D:Nat⦄ ⦃w0:J⦄ ⦃p q:Nat⦄ ⦃l:Lo⦄ ⦃ks:List Qb⦄ ⦃s:Fn⦄ ⦃V:J⦄ ⦃x:Ctx⦄ ⦃fo go bd:Int⦄ ⦃m:Spc⦄ (a b v:Int) (c:List Int) (j:Option Ad) (k:Nat) (h:ISt D w0 p (Yp (some ⟨q,0,none⟩)) l ks s V) (r:SpR D w0 q x fo go bd m ks) (t:JM D w0 ks l s.ps s.gq) (hn:∀g∈s.gq,0<=g.n) (u:N s.ps<=1048577) (y:N s.gq<=1048577) (A:0<=a) (z:a<=4294967295) (C:N c<=1048577) (R:Has V j c) (F:∀i∈c,0<=i),Ec Q 173 #[Yp (some ⟨p,0,none⟩),inV ⟨34,a,b,v,c⟩ j k] V λe w'=>e=Z (G (decide (a<N s.ps+QJ s.gq)))/\Bw V.heap.size V w'):=by
 refine⟨?c0,?c1,?c2⟩;case' c0=>have f:=0
 case' c1=>have d:=0
 case' c2=>have af:=0
 all_goals
  intro D w0 p q l ks s V x fo go bd m a b v c j k h r t hn u y A z C R F
  first|(replace f:=f;have I:=Hm (QK 32))|(replace d:=d;have I:=Hm (QK 33))|(have I:=Hm (QK 34))
  first|(replace f:=f;rw[show Qi (Qa 32)=2 by decide +kernel]at I)|(replace d:=d;rw[show Qi (Qa 33)=2 by decide +kernel]at I)|(rw[show Qi (Qa 34)=2 by decide +kernel]at I)
  first|(replace f:=f;obtain⟨W,B⟩:∃W,W=V.alloc (Fc #[U O 32,U O a,U O b,U Ou v,S j (N c) k] 85):=⟨_,rfl⟩)|(replace d:=d;obtain⟨W,B⟩:∃W,W=V.alloc (Fc #[U O 33,U O a,U O b,U Ou v,S j (N c) k] 85):=⟨_,rfl⟩)|(obtain⟨W,B⟩:∃W,W=V.alloc (Fc #[U O 34,U O a,U O b,U Ou v,S j (N c) k] 85):=⟨_,rfl⟩)
  have Y:Bw V.heap.size V W:=by rw[B];exact bFz.alloc lRz _
  first|(replace f:=f;have kk:C5 W V.heap.size 0 (U O 32) (U O a) (U O b) (U Ou v) (S j (N c) k):=by rw[B];exact C5.new)|(replace d:=d;have kk:C5 W V.heap.size 0 (U O 33) (U O a) (U O b) (U Ou v) (S j (N c) k):=by rw[B];exact C5.new)|(have kk:C5 W V.heap.size 0 (U O 34) (U O a) (U O b) (U Ou v) (S j (N c) k):=by rw[B];exact C5.new)
  have ad:=Hm kk;obtain⟨⟨c0,c1,c2,c3,c4⟩,cf⟩:=kk;have hI:=Hm h;have aa:=Hm r;have ab:=Hm t;clear h r t R cf
  go_enter func173,ntmps173
  go_upto_region 1 with fail
  rw[<- B];clear B
  go_wp2_with fail
  refine(I.o _).mono ?_
  rintro e w1 ⟨rfl,E⟩;have L:=Hm (Y.trans (E.mono Y.size));obtain⟨⟨d0,d1,d2,d3,d4⟩,df⟩:=ad.o.keep E;have H:=Hm (hI.o.keep L.o);obtain⟨sa,sc,bv,ax,M,hf,q4,q5,f4,f5⟩:=H.o.opnS;have q1:=(M.b0 1).1;have q2:=(M.b0 2).1;have q3:=(M.b0 3).1;obtain⟨r0,r1,r2,r3,r4⟩:=aa.o.cells H.o.mo;clear E Y c0 c1 c2 c3 c4 df M hf I q4 f4 f5;have HC:=Hm (ifind_c a H.o.mo ab.o A z hn u y);have ac:=Hm (ihasLocal_c p l a w1 q1 q2 q3 HC.o)
  go_wp2_with (go_at_call 223;refine ac.o.mono ?_;rintro e w2 ⟨rfl,X⟩)
  go_ret
  exact⟨rfl,L.o.trans (X.mono L.o.size)⟩
def ihas_32:=ihas_z.1
def ihas_33:=ihas_z.2.1
def ihas_34:=ihas_z.2.2
theorem ihas_x:(∀⦃D:Nat⦄ ⦃w0:J⦄ ⦃p q:Nat⦄ ⦃l:Lo⦄ ⦃ks:List Qb⦄ ⦃s:Fn⦄ ⦃V:J⦄ ⦃x:Ctx⦄ ⦃fo go bd:Int⦄ ⦃m:Spc⦄ (a b v:Int) (d:List Int) (j:Option Ad) (k:Nat) (h:ISt D w0 p (Yp (some ⟨q,0,none⟩)) l ks s V) (r:SpR D w0 q x fo go bd m ks) (u:JM D w0 ks l s.ps s.gq) (hn:∀g∈s.gq,0<=g.n) (C:N s.ps<=1048577) (F:N s.gq<=1048577) (t:0<=a) (I:a<=4294967295) (E:N d<=1048577) (Y:Has V j d) (L:∀i∈d,0<=i),Ec Q 173 #[Yp (some ⟨p,0,none⟩),inV ⟨16,a,b,v,d⟩ j k] V λe w'=>e=Z (G (decide (a<N x.jk)))/\Bw V.heap.size V w')/\(∀⦃D:Nat⦄ ⦃w0:J⦄ ⦃p q:Nat⦄ ⦃l:Lo⦄ ⦃ks:List Qb⦄ ⦃s:Fn⦄ ⦃V:J⦄ ⦃x:Ctx⦄ ⦃fo go bd:Int⦄ ⦃m:Spc⦄ (a b v:Int) (d:List Int) (j:Option Ad) (k:Nat) (h:ISt D w0 p (Yp (some ⟨q,0,none⟩)) l ks s V) (r:SpR D w0 q x fo go bd m ks) (u:JM D w0 ks l s.ps s.gq) (hn:∀g∈s.gq,0<=g.n) (C:N s.ps<=1048577) (F:N s.gq<=1048577) (t:0<=a) (I:a<=4294967295) (E:N d<=1048577) (Y:Has V j d) (L:∀i∈d,0<=i),Ec Q 173 #[Yp (some ⟨p,0,none⟩),inV ⟨35,a,b,v,d⟩ j k] V λe w'=>e=Z (G (decide (a<N x.jx)))/\Bw V.heap.size V w')/\(∀⦃D:Nat⦄ ⦃w0:J⦄ ⦃p q:Nat⦄ ⦃l:Lo⦄ ⦃ks:List Qb⦄ ⦃s:Fn⦄ ⦃V:J⦄ ⦃x:Ctx⦄ ⦃fo go bd:Int⦄ ⦃m:Spc⦄ (a b v:Int) (d:List Int) (j:Option Ad) (k:Nat) (h:ISt D w0 p (Yp (some ⟨q,0,none⟩)) l ks s V) (r:SpR D w0 q x fo go bd m ks) (u:JM D w0 ks l s.ps s.gq) (hn:∀g∈s.gq,0<=g.n) (C:N s.ps<=1048577) (F:N s.gq<=1048577) (t:0<=a) (I:a<=4294967295) (E:N d<=1048577) (Y:Has V j d) (L:∀i∈d,0<=i),Ec Q 173 #[Yp (some ⟨p,0,none⟩),inV ⟨36,a,b,v,d⟩ j k] V λe w'=>e=Z (G (decide (a<N x.jx)))/\Bw V.heap.size V w'):=by
 refine⟨?c0,?c1,?c2⟩;case' c0=>have c:=0
 case' c1=>have f:=0
 case' c2=>have ai:=0
 all_goals
  intro D w0 p q l ks s V x fo go bd m a b v d j k h r u hn C F t I E Y L
  first|(replace c:=c;have R:=Hm (QK 16))|(replace f:=f;have R:=Hm (QK 35))|(have R:=Hm (QK 36))
  first|(replace c:=c;rw[show Qi (Qa 16)=2 by decide +kernel]at R)|(replace f:=f;rw[show Qi (Qa 35)=2 by decide +kernel]at R)|(rw[show Qi (Qa 36)=2 by decide +kernel]at R)
  first|(replace c:=c;have B:Hid (decide (a<N x.jk)=Xo (N x.jk) a):=(Xm t).symm)|(have B:Hid (decide (a<N x.jx)=Xo (N x.jx) a):=(Xm t).symm)
  first|(replace c:=c;obtain⟨W,A⟩:∃W,W=V.alloc (Fc #[U O 16,U O a,U O b,U Ou v,S j (N d) k] 85):=⟨_,rfl⟩)|(replace f:=f;obtain⟨W,A⟩:∃W,W=V.alloc (Fc #[U O 35,U O a,U O b,U Ou v,S j (N d) k] 85):=⟨_,rfl⟩)|(obtain⟨W,A⟩:∃W,W=V.alloc (Fc #[U O 36,U O a,U O b,U Ou v,S j (N d) k] 85):=⟨_,rfl⟩)
  have ba:Bw V.heap.size V W:=by rw[A];exact bFz.alloc lRz _
  first|(replace c:=c;have kk:C5 W V.heap.size 0 (U O 16) (U O a) (U O b) (U Ou v) (S j (N d) k):=by rw[A];exact C5.new)|(replace f:=f;have kk:C5 W V.heap.size 0 (U O 35) (U O a) (U O b) (U Ou v) (S j (N d) k):=by rw[A];exact C5.new)|(have kk:C5 W V.heap.size 0 (U O 36) (U O a) (U O b) (U Ou v) (S j (N d) k):=by rw[A];exact C5.new)
  have ad:=Hm kk;obtain⟨⟨c0,c1,c2,c3,c4⟩,cf⟩:=kk;have hI:=Hm h;have M:=Hm r;clear h r u Y cf
  go_enter func173,ntmps173
  go_upto_region 1 with fail
  rw[<- A];clear A
  go_wp2_with fail
  refine(R.o _).mono ?_
  rintro e w1 ⟨rfl,H⟩;have X:=Hm (ba.trans (H.mono ba.size));obtain⟨⟨d0,d1,d2,d3,d4⟩,df⟩:=ad.o.keep H;have z:=Hm (hI.o.keep X.o);obtain⟨sa,sc,bv,ay,hm,hf,q4,q5,f4,f5⟩:=z.o.opnS;have q0:=(hm.b0 0).1;obtain⟨r0,r1,r2,r3,r4⟩:=M.o.cells z.o.mo;clear H ba c0 c1 c2 c3 c4 df hm hf R q4 f4 f5
  first|(replace c:=c;obtain⟨fa,fc,y,_⟩:=Qu z.o.mo M.o.fr)|(obtain⟨fa,fc,y,_⟩:=Qu z.o.mo M.o.gr)
  first|(replace c:=c;have HC:=Hm (λw=>ihasFunc_c q (N x.jk) fc fa a w))|(have HC:=Hm (hi_GlobalType fa (N x.jx) fc a))
  first|(replace c:=c;rw[y]at r1)|(rw[y]at r4)
  clear y
  go_wp2_with fail
  first|(replace c:=c;go_region_law (go_simp;go_at_call 221;refine(HC.o _ (by simpa using r1)).mono ?_;rintro e w2 ⟨rfl,rfl⟩))|(go_region_law (go_simp;go_at_call 224;refine(HC.o _).mono ?_;rintro e w2 ⟨rfl,rfl⟩))
  all_goals
   go_wp2
   go_ret
   exact⟨by rw[B.o];rfl,X.o.drew⟩
def ihas_16:=ihas_x.1
def ihas_35:=ihas_x.2.1
def ihas_36:=ihas_x.2.2
theorem ihas_e (op a b v:Int)(f:List Int)(la)(y:Nat)(h:ISt D w0 p (Yp (some ⟨q,0,none⟩)) l ks s V)(j:SpR D w0 q x fo go bd m ks)(z:JM D w0 ks l s.ps s.gq)(hn:∀g∈s.gq,0<=g.n)(ad:N s.ps<=1048577)(ag:N s.gq<=1048577)(aj:0<=a)(ai:a<=4294967295)(af:N f<=1048577)(hL:Has V la f)(ak:∀i∈f,0<=i)(ar:(frm op==5)=false)(aq:(frm op==6)=false)(c:∀k∈([12,13,14,16,17,32,33,34,35,36]:List Int),op≠k):Ec Q 173 #[Yp (some ⟨p,0,none⟩),inV ⟨op,a,b,v,f⟩ la y] V λe w'=>e=Z (G (true))/\Bw V.heap.size V w':=by
 have E:=Hm (QK op);have ac:(op==12)=false:=by simpa using c 12 (by simp)
 have ab:(op==13)=false:=by simpa using c 13 (by simp)
 have aa:(op==14)=false:=by simpa using c 14 (by simp)
 have Y:(op==16)=false:=by simpa using c 16 (by simp)
 have X:(op==17)=false:=by simpa using c 17 (by simp)
 have R:(op==32)=false:=by simpa using c 32 (by simp)
 have M:(op==33)=false:=by simpa using c 33 (by simp)
 have L:(op==34)=false:=by simpa using c 34 (by simp)
 have I:(op==35)=false:=by simpa using c 35 (by simp)
 have H:(op==36)=false:=by simpa using c 36 (by simp)
 clear c;obtain⟨W,u⟩:∃W,W=V.alloc (Fc #[U O op,U O a,U O b,U Ou v,S la (N f) y] 85):=⟨_,rfl⟩;have A:Bw V.heap.size V W:=by rw[u];exact bFz.alloc lRz _
 have kk:C5 W V.heap.size 0 (U O op) (U O a) (U O b) (U Ou v) (S la (N f) y):=by rw[u];exact C5.new
 have C:=Hm kk;obtain⟨⟨c0,c1,c2,c3,c4⟩,cf⟩:=kk;have hI:=Hm h;have B:=Hm j;clear h j z hL cf;go_enter func173,ntmps173;go_upto_region 1 with fail
 rw[<- u];clear u;go_wp2_with fail
 refine(E.o _).mono ?_;rintro e w1 ⟨rfl,d⟩;have t:=Hm (A.trans (d.mono A.size));obtain⟨⟨d0,d1,d2,d3,d4⟩,df⟩:=C.o.keep d;have r:=Hm (hI.o.keep t.o);obtain⟨sa,sc,bv,a1,hm,hf,F,q5,f4,f5⟩:=r.o.opnS;obtain⟨r0,r1,r2,r3,r4⟩:=B.o.cells r.o.mo;clear d A c0 c1 c2 c3 c4 df hm hf E F f4 f5;go_wp2;go_ret;exact⟨rfl,t.o⟩
abbrev oty (op:Int):Qc:=⟨nz [(Qa op).a,(Qa op).b],nz [(Qa op).g]⟩
theorem grow_c (n:Nat)(w:J)(r:0<n)(u:n<=1099511627776):Ec Q 283 #[S none 0 0,U O n] w λe w'=>∃g c,e=Z (S (some ⟨g,0,none⟩) 0 c)/\w'.ownsRow w.heap.size 2 1 (S (some ⟨g,0,none⟩) 0 c) 0 []/\Bw w.heap.size w w':=by
 obtain⟨p,q,f,d,b⟩:=info_parts info2;have t:¬((n:Int)<0):=by omega
 have k:=Lib.run_append_nil_zeros (P:=Q) w 24 3 24 2 p (U O 0) O O underlying24 underlying3 q f n r (by rw[d];decide) (by omega) (by rw[b];omega);have m:=Hm k;have j:=grownCap_ge w n 0 2;have a:=grownCap_le_maxLen w n 0 2 (by unfold maxLen;omega);obtain⟨c,l⟩:∃c,c=grownCap w n 0 2:=⟨_,rfl⟩;rw[<- l]at m j a;have s:(0:Int)<=(c:Int):=by omega
 clear k l;go_enter func283,ntmps283;go_wp2_with (at_builtin;refine Lib.wpList_append_run _ rfl _ _ _ _ rfl _ _ rfl rfl _ _ m.o ?_)
 go_ret;refine⟨w.heap.size,c,rfl,⟨rfl,.inr ⟨w.heap.size,c,_,rfl,lRz,Lw,Kw _,a,?_,by simp⟩⟩,bFz.drew.alloc lRz _⟩;simp[Builtin.zeroCells];omega
theorem concat_c (g:Nat)(D C:Option Ad)(c1 c2:Nat)(xs f:List Int)(w:J)(Y:w.cell? ⟨g,0,none⟩=some (S D (N xs) c1))(h2:w.cell? ⟨g,1,none⟩=some (S C (N f) c2))(V:Has w D xs)(R:Has w C f)(hl:0<N xs+N f)(hm:N xs+N f<=1099511627776):Ec Q 279 #[S (some ⟨g,0,none⟩) 2 2] w λe w'=>∃v,e=Z v/\w'.ownsRow w.heap.size 2 1 v (xs++f).length (I (xs++f))/\Bw w.heap.size w w':=by
 obtain⟨M,X,t,s,r⟩:=info_parts info2;have HG:=Hm (grow_c (N xs+N f) w hl hm);have w1:IntKind.i64.wrap (0+(N xs:Int))=N xs:=by rw[Kz];omega
 have w2:IntKind.i64.wrap ((N xs:Int)+(N f:Int))=((N xs+N f:Nat):Int):=by rw[Kz];omega
 have HX:=Hm (λW (q:Bw w.heap.size w W)=>SrcC.on (Has.src V) q);have HY:=Hm (λW (q:Bw w.heap.size w W)=>SrcC.on (Has.src R) q);have y:=Kk w _ Y;clear V R;go_enter func279,ntmps279;go_wp2;refine wp_loop_rounds 3 ?_;rw[rounds_succ];go_wp2;rw[rounds_succ];go_wp2;rw[rounds_succ];go_wp2_with fail
 refine HG.o.mono ?_;rintro e W1 ⟨g',c,rfl,m,q⟩;have d1:W1.cell? ⟨g,0,none⟩=some (S D (N xs) c1):=(q.cell (p:=⟨g,0,none⟩) y).trans Y;have HB:=Hm q;have u:=q.size;have O0:=Hm m;clear q m HG;go_wp2_with fail
 refine wp_loop_rounds 3 ?_;rw[rounds_succ];go_wp2_with (at_builtin;refine XP rfl _ _ 24 rfl w.heap.size 2 M (U O 0) 1 8 underlying24 X t s r rfl (by decide) _ 0 [] rfl O0.o D (N xs) c1 (I xs) rfl (by simp) (HX.o _ HB.o) (one_I xs) (by unfold maxLen;omega) (by omega) u ?_;intro L E b a j;have d:E.ownsRow w.heap.size 2 1 L (N xs) (I xs):=(by simpa using b);have A:=Hm d;have l:Bw w.heap.size w E:=HB.o.grown a u (λk hk=>(World.ownsRow.lt O0.o k hk).1);have d1:E.cell? ⟨g,1,none⟩=some (S C (N f) c2):=(l.cell (p:=⟨g,1,none⟩) y).trans h2;have B:=Hm l;have n:=l.size;obtain⟨va,vc,rfl⟩:=Qg d;clear b d a j l)
 rw[rounds_succ];go_wp2_with (at_builtin;refine XP rfl _ _ 24 rfl w.heap.size 2 M (U O 0) 1 8 underlying24 X t s r rfl (by decide) _ _ _ rfl A.o C (N f) c2 (I f) rfl (by simp) (HY.o _ B.o) (one_I f) (by unfold maxLen;omega) (by omega) n ?_;intro L W3 b a j;have F:=Hm b;have z:Bw w.heap.size w W3:=B.o.grown a n (λk hk=>(World.ownsRow.lt A.o k hk).1);have H:=Hm z;obtain⟨va,vc,rfl⟩:=Qg b;clear b a j z)
 rw[rounds_succ];go_wp2;go_ret;exact⟨_,rfl,by have:=F.o;simpa using this,H.o⟩
def FtN (w:J)(t:Qc)(e:Ending)(w':J):Prop:=∃pv rv,e=Z (Ag #[pv,rv])/\Own w.heap.size w' [⟨2,1,N t.ps,pv,I t.ps⟩,⟨2,1,N t.rs,rv,I t.rs⟩]/\Bw w.heap.size w w'
section
variable {D:Nat}{w0:J}{p:Nat}{sp:Vu}{l:Lo}{ks:List Qb}{s:Fn}{V W V1:J}
theorem ISt.setBox (h:ISt D w0 p sp l (box e n g cs::ks) s V)(y:(e==2)=false)(o:Nat)(u:Vu):ISt D w0 p sp l (box e n g (cs.set o u)::ks) s (V.setCell ⟨g,o,none⟩ u):=by
 obtain⟨f,j,d,A,z⟩:=h;have q:∀r:Qb,(bxR p sp l f j::stR s f::blR (N s.cq) j d::r::ks).Perm (r::bxR p sp l f j::stR s f::blR (N s.cq) j d::ks):=λr=>by
  classical
  rw[Kn];intro a;simp[Th];omega
 have k:e≠2:=by simpa using y
 have m:∀{v:Vu} {xs:List Int},Ty D w0 (box e n g cs::ks) v xs->Ty D w0 (box e n g (cs.set o u)::ks) v xs:=λt=>by
  rcases t with t|t
  . exact .inl t
  rcases List.mem_cons.1 t with t|t
  . exact absurd (congrArg Qb.e t).symm k
  exact .inr (mC t)
 refine⟨f,j,d,((A.perm (q _)).set o u).perm (q _).symm,z.mono λb c ⟨tv,rv,e,t1,t2⟩=>⟨tv,rv,e,m t1,m t2⟩⟩
theorem ISt.jq {a:Option Ad}{sc:Nat}{bs:List Blk}{c1:List Vu}{tv:Vu}(r:s.cq=bs++[b]) (h:Mo D w0 (bxR p sp l (S a (N s.jj) sc) (S (some ⟨g,0,none⟩) (N bs+1) c)::stR s (S a (N s.jj) sc)::blR (N bs+1) (S (some ⟨g,0,none⟩) (N bs+1) c) (c1++[tv,U O b.gk,U O b.op,rv,G b.jq])::ks) V) (n:Fl (IRep D w0 ks) bs c1) (q:N c1=N bs*5) (j:Ty D w0 ks tv b.gj) (f:Ty D w0 ks rv b.results) {m:Nat} (k:m<=N s.jj):ISt D w0 p sp l ks { s with jj:=s.jj.take m,cq:=bs++[{ b with jq:=true }] } ((V.setCell ⟨g,N bs*5+4,none⟩ (G true)).setCell ⟨p,4,none⟩ (S a m sc)):=by
 have d:=((h.perm XK).set (N bs*5+4) (G true)).perm XK.symm;have e:(c1++[tv,U O b.gk,U O b.op,rv,G b.jq]).set (N bs*5+4) (G true)=c1++[tv,U O b.gk,U O b.op,rv,G true]:=by rw[List.set_append_right _ _ (by omega),show(N bs)*5+4-N c1=4 by omega];rfl
 rw[e]at d;refine ISt.cut (s:={ s with cq:=bs++[{ b with jq:=true }] }) (bv:=S (some ⟨g,0,none⟩) (N bs+1) c) (bcs:=c1++[tv,U O b.gk,U O b.op,rv,G true]) ?_ ?_ k
 . (have o:(bs++[{ b with jq:=true }]).length=N bs+1:=by simp);simp only[o];exact d
 exact n.app (Fl.one ⟨tv,rv,rfl,j,f⟩)
theorem opn_ne {b:Vu}{k:Nat}(h:Mo D w0 (bxR p sp l b (S (some ⟨g,0,none⟩) (k+1) c)::stR s b::blR (k+1) (S (some ⟨g,0,none⟩) (k+1) c) cs::ks) V):g≠p:=λe =>
 Own.disj (a:=[bxR p sp l b (S (some ⟨g,0,none⟩) (k+1) c)]) h.own (Jy.2 ⟨_,List.mem_singleton.2 rfl,rfl⟩) (Jy.2 ⟨blR (k+1) (S (some ⟨g,0,none⟩) (k+1) c) cs,by simp,by rw[<- e];rfl⟩)
end
theorem ileave_c (v:Vu)(xs:List Int)(h:ISt D w0 p sp l ks s V)(t:Ty D w0 ks v xs)(i:Inv s)(A:s.cq≠[])(m:N s.cq<=1048577)(R:N s.jj<=1099511627776)(ao:N xs<=1048577):Ec Q 226 #[Yp (some ⟨p,0,none⟩),v] V (FnP D w0 p sp l ks (JC s xs)):=by
 have u:=Hm (ipopAll_c v xs h t i A m R (by omega));have hi:=Hm i;obtain⟨va,vc,rfl,_⟩:=t.st h;clear h t;go_enter func226,ntmps226;go_wp2_with fail
 refine u.o.mono ?_;intro e w1 Y;rcases Y.cases with ⟨f,y,rfl,hb⟩|⟨s',y,rfl,E⟩
 . (have d:Hid (JC s xs=.error f):=by show JC s xs=_;simp only[JC,y];rfl);clear Y y u;go_wp2;go_ret;exact FnP.err d.o hb
 obtain⟨b1,b2,b3,b4,b5⟩:=Jt y hi.o;have j:s'.cq≠[]:=by rw[b1];exact A
 obtain⟨H,a⟩:=JN j;have C:=b5.ht j;have d:Hid (JC s xs=.ok (die s')):=by show JC s xs=_;simp only[JC,y];rfl
 obtain⟨b,q⟩:∃b,b=top s':=⟨_,rfl⟩;rw[<- q]at a C;obtain⟨L,sc,g,c,c1,tv,rv,B,hc,hf,hl,t1,t2⟩:=E.opn a;have k:die s'={ s' with jj:=s'.jj.take b.gk,cq:=H++[{ b with jq:=true }] }:=by
  have e1:s'.cq.dropLast=H:=by rw[a];simp
  simp only[die,<- q,e1]
 obtain⟨q0,q4,q5,f4,f5,e0,e1,e2,e3,e4,f6⟩:=opn_cells B hl;have au:N H<=1048577:=by rw[<- b1,a]at m;simp at m;omega
 have HL:=Hm (λw=>ilast_c p g (N H) c w);have HM:Hid (∀n,ISt D w0 p sp l ks (die s') (((w1.drewN n).setCell ⟨g,N H*5+4,none⟩ (G true)).setCell ⟨p,4,none⟩ (S L b.gk sc))):=λn=>by rw[k];exact ISt.jq a (B.drewN n) hf hl t1 t2 C
 have z:w1.ownsRow D 2 1 (S L (N s'.jj) sc) (N s'.jj) (I s'.jj):=B.row (r:=stR s' _) (by simp);have X:(L=none/\N s'.jj=0/\sc=0)\/∃M,L=some ⟨M,0,none⟩/\N s'.jj<=sc:=by
  rcases z.2 with ⟨F,h1⟩|⟨M,cap,az,hv,_,_,hx,_⟩
  . simp only[Value.slice.injEq]at F;exact .inl ⟨F.1,h1,F.2.2⟩
  cases hv;exact .inr ⟨M,rfl,hx⟩
 have aw:=opn_ne B;clear Y y u E B hf z b1 b2 b3 b5 a q k t1 t2;go_wp2_with fail
 refine(HL.o _ (by assumption) (by omega)).mono ?_;rintro e w2 ⟨rfl,n,rfl⟩;rcases X with ⟨rfl,F,rfl⟩|⟨M,rfl,ar⟩
 . (have hz:b.gk=0:=by omega);rw[F]at q4;rw[hz]at e1 HM;go_wp2;(go_region);go_wp2;go_ret;exact FnP.ok d.o ((HM.o n).keep ⟨rfl,rfl,rfl,lRz,λ_ _=>rfl⟩)
 have i1:(b.gk:Int)<=(sc:Int):=by omega
 go_wp2;go_region
 go_wp2;go_ret;exact FnP.ok d.o ((HM.o n).keep ⟨rfl,rfl,rfl,lRz,λ_ _=>rfl⟩)
abbrev z5:List Vu:=[S none 0 0,U O 0,U O 0,S none 0 0,G false]
abbrev b5V (b:Blk)(tv rv:Vu):List Vu:=[tv,U O b.gk,U O b.op,rv,G b.jq]
theorem QC {P:Program}{b:Func}{d:Ending->J->Prop}{c:Exit}{a:Act}(R:J->Prop)(f:R w0)(h:∀W,R W->bodyPost P b d c a W):bodyPost P b d c a w0:=h w0 f
def FinP (D:Nat)(w0:J)(p:Nat)(sp:Vu)(l:Lo)(ks:List Qb)(r:R (Blk × Fn))(e:Ending)(w':J):Prop :=
 (∃f,r=.error f/\e=Z (.tuple #[Ag #[S none 0 0,U O 0,U O 0,S none 0 0,G false],flt f])/\Mo D w0 ks w') \/
 ∃b s' tv rv,r=.ok (b,s')/\e=Z (.tuple #[Ag #[tv,U O b.gk,U O b.op,rv,G b.jq],Nf])/\ISt D w0 p sp l ks s' w'/\Ty D w0 ks tv b.gj/\Ty D w0 ks rv b.results
section
variable {D:Nat}{w0:J}{p:Nat}{sp:Vu}{l:Lo}{ks:List Qb}{s:Fn}{V W V1:J}
theorem ISt.lessB {a:Vu}{bs:List Blk}{c1 c2:List Vu}(n:s.cq=bs++[b])(h:Mo D w0 (bxR p sp l a (S (some ⟨g,0,none⟩) (N bs+1) c)::stR s a::blR (N bs+1) (S (some ⟨g,0,none⟩) (N bs+1) c) (c1++c2)::ks) V) (k:Fl (IRep D w0 ks) bs c1) (j:N c1=N bs*5):ISt D w0 p sp l ks { s with cq:=s.cq.dropLast } (V.setCell ⟨p,5,none⟩ (S (some ⟨g,0,none⟩) (N bs) c)):=by
 have f:=(h.set 5 (S (some ⟨g,0,none⟩) (N bs) c)).perm XK;have q:=f.row (r:=blR (N bs+1) (S (some ⟨g,0,none⟩) (N bs+1) c) (c1++c2)) (by simp);have d:=own_take q (m:=N bs) (by omega);have e:(c1++c2).take (N bs*5)=c1:=by rw[<- j];simp
 rw[e]at d;have o:=(f.swap (r':=blR (N bs) (S (some ⟨g,0,none⟩) (N bs) c) c1) d rfl).perm XK.symm;have t:s.cq.dropLast=bs:=by rw[n];simp
 rw[t];exact⟨a,_,c1,o,k⟩
end
theorem put5m {D w0 V}{c2 c3 c4:Vu}(h:Mo D w0 (box e 5 g [c0,c1,c2,c3,c4]::ks) V)(x0 x1 x2 x3 a:Vu):Mo D w0 ks (((((V.setCell ⟨g,0,none⟩ x0).setCell ⟨g,1,none⟩ x1).setCell ⟨g,2,none⟩ x2).setCell ⟨g,3,none⟩ x3).setCell ⟨g,4,none⟩ a)/\∀W,W=(((((V.setCell ⟨g,0,none⟩ x0).setCell ⟨g,1,none⟩ x1).setCell ⟨g,2,none⟩ x2).setCell ⟨g,3,none⟩ x3).setCell ⟨g,4,none⟩ a)->W.cell? ⟨g,0,none⟩=some x0/\W.cell? ⟨g,1,none⟩=some x1/\W.cell? ⟨g,2,none⟩=some x2/\W.cell? ⟨g,3,none⟩=some x3/\W.cell? ⟨g,4,none⟩=some a:=by
 have c:=((((h.set 0 x0).set 1 x1).set 2 x2).set 3 x3).set 4 a;have b:Mo D w0 (box e 5 g [x0,x1,x2,x3,a]::ks) (((((V.setCell ⟨g,0,none⟩ x0).setCell ⟨g,1,none⟩ x1).setCell ⟨g,2,none⟩ x2).setCell ⟨g,3,none⟩ x3).setCell ⟨g,4,none⟩ a):=c;refine⟨b.tail,?_⟩;rintro W rfl;exact⟨(b.b0 0).1,(b.b0 1).1,(b.b0 2).1,(b.b0 3).1,(b.b0 4).1⟩
theorem ISt.put5 {c2 c3 c4:Vu}(h:ISt D w0 p sp l (box e 5 g [c0,c1,c2,c3,c4]::ks) s V)(a:(e==2)=false)(x0 x1 x2 x3 b:Vu) :
    ISt D w0 p sp l ks s (((((V.setCell ⟨g,0,none⟩ x0).setCell ⟨g,1,none⟩ x1).setCell ⟨g,2,none⟩ x2).setCell ⟨g,3,none⟩ x3).setCell ⟨g,4,none⟩ b) :=
 (((((h.setBox a 0 x0).setBox a 1 x1).setBox a 2 x2).setBox a 3 x3).setBox a 4 b).un a
theorem ifinish_c (h:ISt D w0 p sp l ks s V)(i:Inv s)(ak:s.cq≠[])(Y:N s.cq<=1048577)(bf:N s.jj<=1099511627776)(bb:∀b∈s.cq,N b.results<=1048577):Ec Q 266 #[Yp (some ⟨p,0,none⟩)] V (FinP D w0 p sp l ks (Qw s)):=by
 obtain⟨y,E⟩:=JN ak;obtain⟨b,aa⟩:∃b,b=top s:=⟨_,rfl⟩;rw[<- aa]at E;have c9:=bb b (by rw[E];simp);have hi:=Hm i;obtain⟨sa,sc,g,c,c1,tv,rv,X,hc,hf,hl,t1,t2⟩:=h.opn E;obtain⟨q0,q4,q5,f4,f5,e0,e1,e2,e3,e4,f6⟩:=opn_cells X hl;have db:N y<=1048577:=by rw[E]at Y;simp at Y;omega
 have HL:=Hm (λw=>ilast_c p g (N y) c w);obtain⟨t,r,bg,_⟩:=t2.st h;obtain⟨A,z,bc,_⟩:=t1.st h;subst bg bc;-- the Gk
 have au:=h.bxn #[S none 0 0,U O 0,U O 0,S none 0 0,G false] 221 5 rfl;have a6:Hid (∀n,ISt D w0 p sp l (box 221 5 (V.heap.size+1) (b5V b (S A (N b.gj) z) (S t (N b.results) r))::box 221 5 V.heap.size z5::ks) s (((V.alloc (Fc #[S none 0 0,U O 0,U O 0,S none 0 0,G false] 221)).drewN n).alloc (Fc #[S A (N b.gj) z,U O b.gk,U O b.op,S t (N b.results) r,G b.jq] 221))):=λn=>by have:=(au.keep (W:=(V.alloc (Fc #[S none 0 0,U O 0,U O 0,S none 0 0,G false] 221)).drewN n) ⟨rfl,rfl,rfl,lRz,λ_ _=>rfl⟩).bxn #[S A (N b.gj) z,U O b.gk,U O b.op,S t (N b.results) r,G b.jq] 221 5 rfl;simpa using this
 have bt:=Hm t1;have a5:=Hm t2;have bw:=Hm E;have ae:=Hm aa;clear h X hf au t1 t2 aa;go_enter func266,ntmps266;go_wp2_with fail
 refine(HL.o _ (Qf q5) (by omega)).mono ?_;rintro e w2 ⟨rfl,n,rfl⟩;have az:((V.alloc (Fc #[S none 0 0,U O 0,U O 0,S none 0 0,G false] 221)).drewN n).cell? ⟨g,N y*5,none⟩=some (S A (N b.gj) z):=Qf e0;have ay:((V.alloc (Fc #[S none 0 0,U O 0,U O 0,S none 0 0,G false] 221)).drewN n).cell? ⟨g,N y*5+1,none⟩=some (U O b.gk):=Qf e1;have ax:((V.alloc (Fc #[S none 0 0,U O 0,U O 0,S none 0 0,G false] 221)).drewN n).cell? ⟨g,N y*5+2,none⟩=some (U O b.op):=Qf e2;have aw:((V.alloc (Fc #[S none 0 0,U O 0,U O 0,S none 0 0,G false] 221)).drewN n).cell? ⟨g,N y*5+3,none⟩=some (S t (N b.results) r):=Qf e3;have av:((V.alloc (Fc #[S none 0 0,U O 0,U O 0,S none 0 0,G false] 221)).drewN n).cell? ⟨g,N y*5+4,none⟩=some (G b.jq):=Qf e4;have k:=Hm (a6.o n);obtain⟨V1,ab⟩:∃V1,V1=(V.alloc (Fc #[S none 0 0,U O 0,U O 0,S none 0 0,G false] 221)).drewN n:=⟨_,rfl⟩;rw[<- ab]at az ay ax aw av k⊢;have bd:V1.heap.size=V.heap.size+1:=by rw[ab];show(V.alloc _).heap.size=_;simp
 clear e0 e1 e2 e3 e4 q4 q5 f4 f5 ab HL a6;go_upto_region 2 with fail
 obtain⟨W,hW⟩:∃W,W=V1.alloc (Fc #[S A (N b.gj) z,U O b.gk,U O b.op,S t (N b.results) r,G b.jq] 221):=⟨_,rfl⟩;rw[<- hW]at k⊢;obtain⟨M,ac⟩:∃M,M=V.heap.size+1:=⟨_,rfl⟩;obtain⟨d,ad⟩:∃d,d=V.heap.size:=⟨_,rfl⟩;rw[<- ac,<- ad]at k;rw[<- ac,<- ad];clear hW bd az ay ax aw av
 have cl:∀{s':Fn} {W:J},ISt D w0 p sp l (box 221 5 M (b5V b (S A (N b.gj) z) (S t (N b.results) r))::box 221 5 d z5::ks) s' W->(W.cell? ⟨M,0,none⟩=some (S A (N b.gj) z)/\W.cell? ⟨M,1,none⟩=some (U O b.gk)/\W.cell? ⟨M,2,none⟩=some (U O b.op)/\W.cell? ⟨M,3,none⟩=some (S t (N b.results) r)/\W.cell? ⟨M,4,none⟩=some (G b.jq)) /\
     (W.cell? ⟨d,0,none⟩=some (S none 0 0)/\W.cell? ⟨d,1,none⟩=some (U O 0)/\W.cell? ⟨d,2,none⟩=some (U O 0)/\W.cell? ⟨d,3,none⟩=some (S none 0 0)/\W.cell? ⟨d,4,none⟩=some (G false)) /\
     (W.frozen? ⟨d,0,none⟩=false/\W.frozen? ⟨d,1,none⟩=false/\W.frozen? ⟨d,2,none⟩=false/\W.frozen? ⟨d,3,none⟩=false/\W.frozen? ⟨d,4,none⟩=false):=λhI=>by
  have a:=λj u hj hu=>hI.mo.b0 j (u:=u) hj hu;have b:=λj u hj hu=>hI.mo.tail.b0 j (u:=u) hj hu
  exact⟨⟨(a 0 _ (by omega) rfl).1,(a 1 _ (by omega) rfl).1,(a 2 _ (by omega) rfl).1,(a 3 _ (by omega) rfl).1,(a 4 _ (by omega) rfl).1⟩,⟨(b 0 _ (by omega) rfl).1,(b 1 _ (by omega) rfl).1,(b 2 _ (by omega) rfl).1,(b 3 _ (by omega) rfl).1,(b 4 _ (by omega) rfl).1⟩,(b 0 _ (by omega) rfl).2,(b 1 _ (by omega) rfl).2,(b 2 _ (by omega) rfl).2,(b 3 _ (by omega) rfl).2,(b 4 _ (by omega) rfl).2⟩
 obtain⟨⟨a0,a1,a2,a3,a4⟩,_,_⟩:=cl k.o;have I:=Hm (ipopAll_c (S t (N b.results) r) b.results k.o ((a5.o.cons _).cons _) hi.o ak Y bf (by omega));clear ac ad;go_wp2_with fail
 refine I.o.mono ?_;intro e w1 hp;rcases hp.cases with ⟨f,R,rfl,hb⟩|⟨s',R,rfl,F⟩
 . (have H:Hid (Qw s=.error f):=by show Qw s=_;simp only[Qw,<- ae.o,R];rfl);have B:=λj u hj hu=>hb.tail.b0 j (u:=u) hj hu;have z0:=(B 0 _ (by omega) rfl).1;have z1:=(B 1 _ (by omega) rfl).1;have z2:=(B 2 _ (by omega) rfl).1;have z3:=(B 3 _ (by omega) rfl).1;have z4:=(B 4 _ (by omega) rfl).1;have y0:=(B 0 _ (by omega) rfl).2;have y1:=(B 1 _ (by omega) rfl).2;have y2:=(B 2 _ (by omega) rfl).2;have y3:=(B 3 _ (by omega) rfl).2;have y4:=(B 4 _ (by omega) rfl).2;have m:=Hm (put5m hb.tail (S none 0 0) (U O 0) (U O 0) (S none 0 0) (G false));clear hp R I k a0 a1 a2 a3 a4 B hb;go_wp2;refine QC (λW=>Mo D w0 ks W/\W.cell? ⟨d,0,none⟩=some (S none 0 0)/\W.cell? ⟨d,1,none⟩=some (U O 0)/\W.cell? ⟨d,2,none⟩=some (U O 0)/\W.cell? ⟨d,3,none⟩=some (S none 0 0)/\W.cell? ⟨d,4,none⟩=some (G false)) ⟨m.o.1,m.o.2 _ rfl⟩ ?_;rintro W' ⟨C,u0,u1,u2,u3,u4⟩;exact bodyPost_ret (v:=.tuple #[Ag #[S none 0 0,U O 0,U O 0,S none 0 0,G false],flt f]) (by simp[results,results266,go_sem,u0,u1,u2,u3,u4]) rfl (.inl ⟨f,H.o,rfl,C⟩)
 obtain⟨b1,b2,b3,b4,b5⟩:=Jt R hi.o;have q:s'.cq=y++[b]:=by rw[b1];exact bw.o
 obtain⟨⟨a0,a1,a2,a3,a4⟩,⟨z0,z1,z2,z3,z4⟩,⟨y0,y1,y2,y3,y4⟩⟩:=cl F;obtain⟨c5,c4,g',c',dd,c0,c6,X,dc,hf,ao,c3,c2⟩:=F.opn q;obtain⟨q0,q4,q5,f4,f5,_,_,_,_,_,_⟩:=opn_cells X ao;by_cases hh:N s'.jj=b.gk
 . (have k1:((N s'.jj:Int) != (b.gk:Int))=false:=by simp[hh]);(have H:Hid (Qw s=.ok (b,{ s' with cq:=s'.cq.dropLast })):=by show Qw s=_;simp only[Qw,<- ae.o,R];simp[Except.bind,hh]);have HM:Hid (∀n,ISt D w0 p sp l (box 221 5 M (b5V b (S A (N b.gj) z) (S t (N b.results) r))::box 221 5 d z5::ks) { s' with cq:=s'.cq.dropLast } ((w1.drewN n).setCell ⟨p,5,none⟩ (S (some ⟨g',0,none⟩) (N y) c'))):=λn=>ISt.lessB q (X.drewN n) hf ao;(have hw:IntKind.i64.wrap (((N y+1:Nat):Int)-1)=N y:=by rw[Kz];omega);(have i1:(N y:Int)<=(c':Int):=by omega);clear hp R I k hh X hf b1 b2 b3 b5 q F;go_wp2;(go_quiet (fail));go_wp2;(go_region);(go_upto_region 8 with fail);obtain⟨W8,ar⟩:∃W8,W8=(w1.drewN (nq+1)).setCell ⟨p,5,none⟩ (S (some ⟨g',0,none⟩) (N y) c'):=⟨_,rfl⟩;have L:=Hm (HM.o (nq+1));rw[<- ar]at L⊢;obtain⟨⟨a0,a1,a2,a3,a4⟩,⟨z0,z1,z2,z3,z4⟩,⟨y0,y1,y2,y3,y4⟩⟩:=cl L.o;have m:=Hm (put5m (L.o.mo.tail) (S A (N b.gj) z) (U O b.gk) (U O b.op) (S t (N b.results) r) (G b.jq));have bu:=Hm (ISt.put5 (L.o.un rfl) rfl (S A (N b.gj) z) (U O b.gk) (U O b.op) (S t (N b.results) r) (G b.jq));clear ar HM;go_wp2;refine QC (λW=>ISt D w0 p sp l ks { s' with cq:=s'.cq.dropLast } W/\W.cell? ⟨d,0,none⟩=some (S A (N b.gj) z)/\W.cell? ⟨d,1,none⟩=some (U O b.gk)/\W.cell? ⟨d,2,none⟩=some (U O b.op)/\W.cell? ⟨d,3,none⟩=some (S t (N b.results) r)/\W.cell? ⟨d,4,none⟩=some (G b.jq)) ⟨bu.o,m.o.2 _ rfl⟩ ?_;rintro W' ⟨C,u0,u1,u2,u3,u4⟩;exact bodyPost_ret (v:=.tuple #[Ag #[S A (N b.gj) z,U O b.gk,U O b.op,S t (N b.results) r,G b.jq],Nf]) (by simp[results,results266,go_sem,u0,u1,u2,u3,u4]) rfl (.inr ⟨b,_,_,_,H.o,rfl,C,bt.o,a5.o⟩)
 have k1:((N s'.jj:Int) != (b.gk:Int))=true:=by simp;omega
 have H:Hid (Qw s=.error 6):=by show Qw s=_;simp only[Qw,<- ae.o,R];simp[Except.bind,hh]
 have bv:=Hm F.mo;clear hp R I k hh X hf b1 b2 b3 b5 q F;go_upto_region 5 with fail
 go_quiet (fail)
 go_upto_region 6 with fail
 have m:=Hm (put5m (bv.o.tail.drewN nq) (S none 0 0) (U O 0) (U O 0) (S none 0 0) (G false));go_wp2;refine QC (λW=>Mo D w0 ks W/\W.cell? ⟨d,0,none⟩=some (S none 0 0)/\W.cell? ⟨d,1,none⟩=some (U O 0)/\W.cell? ⟨d,2,none⟩=some (U O 0)/\W.cell? ⟨d,3,none⟩=some (S none 0 0)/\W.cell? ⟨d,4,none⟩=some (G false)) ⟨m.o.1,m.o.2 _ rfl⟩ ?_;rintro W' ⟨C,u0,u1,u2,u3,u4⟩;exact bodyPost_ret (v:=.tuple #[Ag #[S none 0 0,U O 0,U O 0,S none 0 0,G false],flt 6]) (by simp[results,results266,go_sem,u0,u1,u2,u3,u4]) rfl (.inl ⟨6,H.o,rfl,C⟩)
theorem Own.two {d c:Qb}(l:d.Ok B W)(j:c.Ok B W)(hd:∀i,d.v.ownBlock=some i->c.v.ownBlock≠some i):Own B W [d,c]:=by
 have:=(Own.one l).app (Own.one j) (fun k hk hk2=>by
  obtain⟨a,g,e⟩:=Jy.1 hk;obtain⟨b,f,m⟩:=Jy.1 hk2
  simp at g f;subst g f
  exact hd k e m)
 simpa using this
theorem ok_nil (B:Nat)(W:J):Qb.Ok B W ⟨2,1,0,S none 0 0,I []⟩:=Tq W B 2 1
theorem ok_one {W0:J}(v:Int)(b:B<=W0.heap.size)(a:Bw (W0.alloc (Fc #[U O v] 2)).heap.size (W0.alloc (Fc #[U O v] 2)) W):Qb.Ok B W ⟨2,1,1,S (some ⟨W0.heap.size,0,none⟩) 1 1,I [v]⟩ :=
 Qb.Ok.keep' (Hk (base:=B) (e:=2) (size:=1) W0 #[U O v] 1 b (by unfold maxLen;omega) rfl) a
theorem ivar_32 (v:Int)(w:J):Ec Q 271 #[U O 32,U O v] w (FtN w ⟨[],[v]⟩):=by
 go_enter func271,ntmps271;go_wp2;refine QC (λW=>(W.cell? ⟨w.heap.size,0,none⟩=some (S none 0 0)/\W.cell? ⟨w.heap.size,1,none⟩=some (S (some ⟨w.heap.size+1+1,0,none⟩) 1 1))/\Own w.heap.size W [⟨2,1,([]:List Int).length,S none 0 0,I []⟩,⟨2,1,([v]:List Int).length,S (some ⟨w.heap.size+1+1,0,none⟩) 1 1,I [v]⟩]/\Bw w.heap.size w W) ⟨⟨Qf (Qf (Qe rfl rfl)),Qf (Qf (Qe rfl rfl))⟩,Own.two (ok_nil _ _) (by have:=ok_one (B:=w.heap.size) (W0:=((w.alloc (Fc #[S none 0 0,S (some ⟨w.heap.size+1+1,0,none⟩) 1 1] 76)).alloc (Fc #[S none 0 0,S (some ⟨w.heap.size+1+1,0,none⟩) 1 1] 76))) (W:=(((w.alloc (Fc #[S none 0 0,S (some ⟨w.heap.size+1+1,0,none⟩) 1 1] 76)).alloc (Fc #[S none 0 0,S (some ⟨w.heap.size+1+1,0,none⟩) 1 1] 76)).alloc (Fc #[U O v] 2))) v (by simp;omega) bFz;simpa using this) (λi b a=>by simp[Tg]at b a),((bFz.alloc lRz _).alloc (by simp) _).alloc (by simp;omega) _⟩ ?_;rintro W ⟨⟨d,c⟩,b,a⟩;exact bodyPost_ret (v:=Ag #[S none 0 0,S (some ⟨w.heap.size+1+1,0,none⟩) 1 1]) (by simp[results,results271,go_sem,d,c]) rfl ⟨_,_,rfl,b,a⟩
theorem ivar_33 (v:Int)(w:J):Ec Q 271 #[U O 33,U O v] w (FtN w ⟨[v],[]⟩):=by
 go_enter func271,ntmps271;go_wp2;refine QC (λW=>(W.cell? ⟨w.heap.size,0,none⟩=some (S (some ⟨w.heap.size+1+1,0,none⟩) 1 1)/\W.cell? ⟨w.heap.size,1,none⟩=some (S none 0 0))/\Own w.heap.size W [⟨2,1,([v]:List Int).length,S (some ⟨w.heap.size+1+1,0,none⟩) 1 1,I [v]⟩,⟨2,1,([]:List Int).length,S none 0 0,I []⟩]/\Bw w.heap.size w W) ⟨⟨Qf (Qf (Qe rfl rfl)),Qf (Qf (Qe rfl rfl))⟩,Own.two (by have:=ok_one (B:=w.heap.size) (W0:=((w.alloc (Fc #[S (some ⟨w.heap.size+1+1,0,none⟩) 1 1,S none 0 0] 76)).alloc (Fc #[S (some ⟨w.heap.size+1+1,0,none⟩) 1 1,S none 0 0] 76))) (W:=(((w.alloc (Fc #[S (some ⟨w.heap.size+1+1,0,none⟩) 1 1,S none 0 0] 76)).alloc (Fc #[S (some ⟨w.heap.size+1+1,0,none⟩) 1 1,S none 0 0] 76)).alloc (Fc #[U O v] 2))) v (by simp;omega) bFz;simpa using this) (ok_nil _ _) (λi b a=>by simp[Tg]at b a),((bFz.alloc lRz _).alloc (by simp) _).alloc (by simp;omega) _⟩ ?_;rintro W ⟨⟨d,c⟩,b,a⟩;exact bodyPost_ret (v:=Ag #[S (some ⟨w.heap.size+1+1,0,none⟩) 1 1,S none 0 0]) (by simp[results,results271,go_sem,d,c]) rfl ⟨_,_,rfl,b,a⟩
theorem ivar_34 (v:Int)(w:J):Ec Q 271 #[U O 34,U O v] w (FtN w ⟨[v],[v]⟩):=by
 go_enter func271,ntmps271;go_wp2;refine QC (λW=>(W.cell? ⟨w.heap.size,0,none⟩=some (S (some ⟨w.heap.size+1+1,0,none⟩) 1 1)/\W.cell? ⟨w.heap.size,1,none⟩=some (S (some ⟨w.heap.size+1+1+1,0,none⟩) 1 1))/\Own w.heap.size W [⟨2,1,([v]:List Int).length,S (some ⟨w.heap.size+1+1,0,none⟩) 1 1,I [v]⟩,⟨2,1,([v]:List Int).length,S (some ⟨w.heap.size+1+1+1,0,none⟩) 1 1,I [v]⟩]/\Bw w.heap.size w W) ⟨⟨Qf (Qf (Qf (Qe rfl rfl))),Qf (Qf (Qf (Qe rfl rfl)))⟩,Own.two (by have:=ok_one (B:=w.heap.size) (W0:=((w.alloc (Fc #[S (some ⟨w.heap.size+1+1,0,none⟩) 1 1,S (some ⟨w.heap.size+1+1+1,0,none⟩) 1 1] 76)).alloc (Fc #[S (some ⟨w.heap.size+1+1,0,none⟩) 1 1,S (some ⟨w.heap.size+1+1+1,0,none⟩) 1 1] 76))) (W:=((((w.alloc (Fc #[S (some ⟨w.heap.size+1+1,0,none⟩) 1 1,S (some ⟨w.heap.size+1+1+1,0,none⟩) 1 1] 76)).alloc (Fc #[S (some ⟨w.heap.size+1+1,0,none⟩) 1 1,S (some ⟨w.heap.size+1+1+1,0,none⟩) 1 1] 76)).alloc (Fc #[U O v] 2)).alloc (Fc #[U O v] 2))) v (by simp;omega) (bFz.alloc lRz _);simpa using this) (by have:=ok_one (B:=w.heap.size) (W0:=((w.alloc (Fc #[S (some ⟨w.heap.size+1+1,0,none⟩) 1 1,S (some ⟨w.heap.size+1+1+1,0,none⟩) 1 1] 76)).alloc (Fc #[S (some ⟨w.heap.size+1+1,0,none⟩) 1 1,S (some ⟨w.heap.size+1+1+1,0,none⟩) 1 1] 76)).alloc (Fc #[U O v] 2)) (W:=((((w.alloc (Fc #[S (some ⟨w.heap.size+1+1,0,none⟩) 1 1,S (some ⟨w.heap.size+1+1+1,0,none⟩) 1 1] 76)).alloc (Fc #[S (some ⟨w.heap.size+1+1,0,none⟩) 1 1,S (some ⟨w.heap.size+1+1+1,0,none⟩) 1 1] 76)).alloc (Fc #[U O v] 2)).alloc (Fc #[U O v] 2))) v (by simp;omega) bFz;simpa using this) (λi b a=>by simp[Tg]at b a;omega),(((bFz.alloc lRz _).alloc (by simp) _).alloc (by simp;omega) _).alloc (by simp;omega) _⟩ ?_;rintro W ⟨⟨d,c⟩,b,a⟩;exact bodyPost_ret (v:=Ag #[S (some ⟨w.heap.size+1+1,0,none⟩) 1 1,S (some ⟨w.heap.size+1+1+1,0,none⟩) 1 1]) (by simp[results,results271,go_sem,d,c]) rfl ⟨_,_,rfl,b,a⟩
theorem ivar_35 (v:Int)(w:J):Ec Q 271 #[U O 35,U O v] w (FtN w ⟨[],[v]⟩):=by
 go_enter func271,ntmps271;go_wp2;refine QC (λW=>(W.cell? ⟨w.heap.size,0,none⟩=some (S none 0 0)/\W.cell? ⟨w.heap.size,1,none⟩=some (S (some ⟨w.heap.size+1+1,0,none⟩) 1 1))/\Own w.heap.size W [⟨2,1,([]:List Int).length,S none 0 0,I []⟩,⟨2,1,([v]:List Int).length,S (some ⟨w.heap.size+1+1,0,none⟩) 1 1,I [v]⟩]/\Bw w.heap.size w W) ⟨⟨Qf (Qf (Qe rfl rfl)),Qf (Qf (Qe rfl rfl))⟩,Own.two (ok_nil _ _) (by have:=ok_one (B:=w.heap.size) (W0:=((w.alloc (Fc #[S none 0 0,S (some ⟨w.heap.size+1+1,0,none⟩) 1 1] 76)).alloc (Fc #[S none 0 0,S (some ⟨w.heap.size+1+1,0,none⟩) 1 1] 76))) (W:=(((w.alloc (Fc #[S none 0 0,S (some ⟨w.heap.size+1+1,0,none⟩) 1 1] 76)).alloc (Fc #[S none 0 0,S (some ⟨w.heap.size+1+1,0,none⟩) 1 1] 76)).alloc (Fc #[U O v] 2))) v (by simp;omega) bFz;simpa using this) (λi b a=>by simp[Tg]at b a),((bFz.alloc lRz _).alloc (by simp) _).alloc (by simp;omega) _⟩ ?_;rintro W ⟨⟨d,c⟩,b,a⟩;exact bodyPost_ret (v:=Ag #[S none 0 0,S (some ⟨w.heap.size+1+1,0,none⟩) 1 1]) (by simp[results,results271,go_sem,d,c]) rfl ⟨_,_,rfl,b,a⟩
theorem ivar_36 (v:Int)(w:J):Ec Q 271 #[U O 36,U O v] w (FtN w ⟨[v],[]⟩):=by
 go_enter func271,ntmps271;go_wp2;refine QC (λW=>(W.cell? ⟨w.heap.size,0,none⟩=some (S (some ⟨w.heap.size+1+1,0,none⟩) 1 1)/\W.cell? ⟨w.heap.size,1,none⟩=some (S none 0 0))/\Own w.heap.size W [⟨2,1,([v]:List Int).length,S (some ⟨w.heap.size+1+1,0,none⟩) 1 1,I [v]⟩,⟨2,1,([]:List Int).length,S none 0 0,I []⟩]/\Bw w.heap.size w W) ⟨⟨Qf (Qf (Qe rfl rfl)),Qf (Qf (Qe rfl rfl))⟩,Own.two (by have:=ok_one (B:=w.heap.size) (W0:=((w.alloc (Fc #[S (some ⟨w.heap.size+1+1,0,none⟩) 1 1,S none 0 0] 76)).alloc (Fc #[S (some ⟨w.heap.size+1+1,0,none⟩) 1 1,S none 0 0] 76))) (W:=(((w.alloc (Fc #[S (some ⟨w.heap.size+1+1,0,none⟩) 1 1,S none 0 0] 76)).alloc (Fc #[S (some ⟨w.heap.size+1+1,0,none⟩) 1 1,S none 0 0] 76)).alloc (Fc #[U O v] 2))) v (by simp;omega) bFz;simpa using this) (ok_nil _ _) (λi b a=>by simp[Tg]at b a),((bFz.alloc lRz _).alloc (by simp) _).alloc (by simp;omega) _⟩ ?_;rintro W ⟨⟨d,c⟩,b,a⟩;exact bodyPost_ret (v:=Ag #[S (some ⟨w.heap.size+1+1,0,none⟩) 1 1,S none 0 0]) (by simp[results,results271,go_sem,d,c]) rfl ⟨_,_,rfl,b,a⟩
theorem iwithI32_c (pa)(l:Nat)(ps)(f:Option Ad)(c d:Nat)(w)(hp:Has w pa ps)(hl:N ps<=1099511627):Ec Q 270 #[Ag #[S pa (N ps) l,S f c d]] w λe w'=>∃v,e=Z (Ag #[v,S f c d])/\w'.ownsRow w.heap.size 2 1 v (ps++[127]).length (I (ps++[127]))/\Bw w.heap.size w w':=by
 have HP:=Hm hp;clear hp;go_enter func270,ntmps270;go_upto_region 1 with fail
 obtain⟨W,q⟩:∃W,W=(w.alloc (Fc #[S pa (N ps) l,S f c d] 76)).alloc (Fc #[S none 0 0,S none 0 0] 76):=⟨_,rfl⟩;rw[<- q];have c0:W.cell? ⟨w.heap.size,0,none⟩=some (S pa (N ps) l):=by rw[q];exact Qf (Qe rfl rfl)
 have c1:W.cell? ⟨w.heap.size,1,none⟩=some (S f c d):=by rw[q];exact Qf (Qe rfl rfl)
 have n:W.heap.size=w.heap.size+1+1:=by rw[q];simp
 have k:Bk W (w.heap.size+1) [S none 0 0,S none 0 0]:=by have:=Bk.new (w:=w.alloc (Fc #[S pa (N ps) l,S f c d] 76)) (cs:=[S none 0 0,S none 0 0]) (t:=76);rw[q];simpa using this
 have r:Bw w.heap.size w W:=by rw[q];exact(bFz.alloc lRz _).alloc (by simp) _
 have z:∀X:J,X.heap=((W.alloc (Fc #[U O 127] 2)).alloc (Fc #[S pa (N ps) l,S (some ⟨w.heap.size+1+1,0,none⟩) 1 1] 24)).heap->Bw W.heap.size W X->Ec Q 279 #[S (some ⟨w.heap.size+1+1+1,0,none⟩) 2 2] X λe w'=>∃v,e=Z v/\w'.ownsRow X.heap.size 2 1 v (ps++[127]).length (I (ps++[127]))/\Bw X.heap.size X w':=λX hX E=>by
  have M:∀a,X.cell? a=((W.alloc (Fc #[U O 127] 2)).alloc (Fc #[S pa (N ps) l,S (some ⟨w.heap.size+1+1,0,none⟩) 1 1] 24)).cell? a:=λa=>by simp only[Pq,hX]
  have u:(W.alloc (Fc #[U O 127] 2)).heap.size=w.heap.size+1+1+1:=by rw[World.size_alloc,n]
  exact concat_c (w.heap.size+1+1+1) pa (some ⟨w.heap.size+1+1,0,none⟩) l 1 ps [127] X ((M _).trans (Qe u.symm rfl)) ((M _).trans (Qe u.symm rfl)) ((HP.o.keep r).keep E) (.inr ⟨w.heap.size+1+1,0,rfl,fun i hi=>by
   have:i=0:=by simp at hi;omega
   subst this
   exact(M _).trans (Qf (Qe n.symm rfl))⟩) (by simp) (by simp;omega)
 have HX:=Hm z;have HK:=Hm k;have D:=Hm r;have C:=Hm n;have H:w.heap.size<W.heap.size:=by omega
 clear z k r q;have s:Hid (∀o1 o2,Bw W.heap.size W ((W.alloc o1).alloc o2).drew):=λo1 o2=>(((Below.refl W.heap.size W).alloc lRz o1).alloc (by simp) o2).drew;have R:=Hm (HX.o (((W.alloc (Fc #[U O 127] 2)).alloc (Fc #[S pa (N ps) l,S (some ⟨w.heap.size+1+1,0,none⟩) 1 1] 24)).drew) rfl (s.o _ _))
 go_region_law (
  go_simp
  go_at_call 279
  refine R.o.mono ?_
  rintro e F ⟨v,rfl,own,E⟩;have g:Bw W.heap.size W F:=(s.o _ _).trans (E.mono (s.o _ _).size);have d1:F.cell? ⟨w.heap.size,1,none⟩=some (S f c d):=(g.cell (p:=⟨w.heap.size,1,none⟩) H).trans c1;have b:=Hm (HK.o.keep g);have y0:=b.o.2.1 0 _ rfl;have y1:=b.o.2.1 1 _ rfl;have z0:=b.o.2.2 0;have z1:=b.o.2.2 1;have Y:=Hm own;have V:=Hm g;obtain⟨va,m,rfl⟩:=Qg own;clear own E g)
 all_goals
  go_wp2
  refine QC (λB=>(B.cell? ⟨w.heap.size+1,0,none⟩=some (S va (N ps+1) m)/\B.cell? ⟨w.heap.size+1,1,none⟩=some (S f c d))/\B.ownsRow w.heap.size 2 1 (S va (N ps+1) m) (ps++[127]).length (I (ps++[127]))/\Bw w.heap.size w B) ?_ ?_
  . have A:=(b.o.set (j:=0) (v:=S va (N ps+1) m)).set (j:=1) (v:=S f c d)
    have L:∀k,(Tv va (N ps+1) m).ownBlock=some k->w.heap.size+1<k:=λk hk=>by
     have:=(World.ownsRow.lt Y.o k (by simpa using hk)).1
     simp[World.drew]at this;have:=C.o;omega
    have y:(Tv va (N ps+1) m).ownBlock≠some (w.heap.size+1):=λe=>by have:=L _ e;omega
    refine⟨⟨A.2.1 0 _ rfl,A.2.1 1 _ rfl⟩,?_,((D.o.trans (V.o.mono D.o.size)).setCell (by show w.heap.size<=w.heap.size+1;omega) _).setCell (by show w.heap.size<=w.heap.size+1;omega) _⟩
    have ho:F.ownsRow w.heap.size 2 1 (S va (N ps+1) m) (ps++[127]).length (I (ps++[127])):=World.ownsRow.mono (by simpa using Y.o) (by have:=C.o;simp[World.drew];omega)
    exact Jh (Jh ho y) y
  . rintro B ⟨⟨u0,u1⟩,h1,h2⟩
    exact bodyPost_ret (v:=Ag #[S va (N ps+1) m,S f c d]) (by simp[results,results270,go_sem,u0,u1]) rfl ⟨_,rfl,h1,h2⟩
def ItP (D:Nat)(w0:J)(ks:List Qb)(V:J)(t:Qc)(e:Ending)(w':J):Prop:=∃pv rv ns,e=Z (Ag #[pv,rv])/\Bw V.heap.size V w'/\Own V.heap.size w' ns/\Ty D w0 (ns++ks) pv t.ps/\Ty D w0 (ns++ks) rv t.rs
theorem Gq {V w1}{pv:Vu}{ns}(b:Bw V.heap.size V w1)(k:Bk w1 (V.heap.size+1) [c0,c1])(f:Own (V.heap.size+2) w1 ns):∀a,a=(w1.setCell ⟨V.heap.size+1,0,none⟩ pv).setCell ⟨V.heap.size+1,1,none⟩ rv->(a.cell? ⟨V.heap.size+1,0,none⟩=some pv/\a.cell? ⟨V.heap.size+1,1,none⟩=some rv)/\Bw V.heap.size V a/\Own V.heap.size a ns:=by
 rintro a rfl;have c:=(k.set (j:=0) (v:=pv)).set (j:=1) (v:=rv);refine⟨⟨c.2.1 0 _ rfl,c.2.1 1 _ rfl⟩,(b.setCell (by show V.heap.size<=V.heap.size+1;omega) _).setCell (by show V.heap.size<=V.heap.size+1;omega) _,?_⟩;have d:∀k,some (V.heap.size+1)=some k->k∉blk ns:=λk e hk=>by cases e;have:=(f.lt hk).1;omega
 exact((f.grown (Xy w1 _ _ _) d).grown (Xy _ _ _ _) d).mono (by omega)
theorem FTs.get {xs:List Qc}(h:FTs D w0 xs cs)(g:j<N xs)(ks:List Qb):∃f rv,cs[j*2]?=some f/\cs[j*2+1]?=some rv/\Ty D w0 ks f (xs.getD j Qc.z).ps/\Ty D w0 ks rv (xs.getD j Qc.z).rs:=by
 obtain⟨f,rv,a,b,c,d⟩:=h.2 j (xs.getD j Qc.z) (by simp[Kx,g]);exact⟨f,rv,a,b,c.sub (λr hr=>by cases hr),d.sub (λr hr=>by cases hr)⟩
theorem Ty.has0 (t:Ty D w0 ks v xs)(b:Mo D w0 ks V):∃a c,v=S a (N xs) c/\Has V a xs:=t.shape b λr hr=>hr
theorem iit_16 (j:Nat)(b v:Int)(F:List Int)(I:Option Ad)(H:Nat)(h:ISt D w0 p (Yp (some ⟨q,0,none⟩)) l ks s V)(a:SpR D w0 q x fo go bd m ks)(M:JM D w0 ks l s.ps s.gq)(hn:∀g∈s.gq,0<=g.n)(au:N s.ps<=1048577)(aw:N s.gq<=1048577)(hj:j<N x.jk):Ec Q 236 #[Yp (some ⟨p,0,none⟩),inV ⟨16,(j:Int),b,v,F⟩ I H] V (ItP D w0 ks V (x.jk.getD j Qc.z)):=by
 obtain⟨W,f⟩:∃W,W=(V.alloc (Fc #[U O 16,U O (j:Int),U O b,U Ou v,S I (N F) H] 85)).alloc (Fc #[S none 0 0,S none 0 0] 76):=⟨_,rfl⟩;have X:Bw V.heap.size V W:=by rw[f];exact(bFz.alloc lRz _).alloc (by simp) _
 have kk:C5 W V.heap.size 0 (U O 16) (U O (j:Int)) (U O b) (U Ou v) (S I (N F) H):=by rw[f];exact C5.new.past
 have d:Bk W (V.heap.size+1) [S none 0 0,S none 0 0]:=by have:=Bk.new (w:=V.alloc (Fc #[U O 16,U O (j:Int),U O b,U Ou v,S I (N F) H] 85)) (cs:=[S none 0 0,S none 0 0]) (t:=76);rw[f];simpa using this
 have L:W.heap.size=V.heap.size+2:=by rw[f];simp
 obtain⟨⟨c0,c1,c2,c3,c4⟩,cf⟩:=kk;have y0:=d.2.1 0 _ rfl;have y1:=d.2.1 1 _ rfl;have z0:=d.2.2 0;have z1:=d.2.2 1;have ab:=Hm d;have ac:=Hm X;have k:=h.keep X;obtain⟨sa,sc,bv,a5,hm,hf,q4,q5,f4,f5⟩:=k.opnS;have q0:=(hm.b0 0).1;obtain⟨r0,r1,r2,r3,r4⟩:=a.cells k.mo;obtain⟨fa,fc,y,A⟩:=Qu k.mo a.fr;obtain⟨gf,R,c⟩:=A (by omega);subst R;rw[y]at r1;obtain⟨pv,rv,e1,e2,E,C⟩:=a.ft.get hj ks;have d0:=c _ _ e1 (by omega);have d1:=c _ _ e2 (by omega);obtain⟨pa,pc,u,_⟩:=E.has0 k.mo;obtain⟨ra,rc,r,_⟩:=C.has0 k.mo;rw[u]at d0 E;rw[r]at d1 C;have av:(j:Int)<(N x.jk:Int):=by omega
 have aa:=Hm E;have Y:=Hm C;clear k a M c e1 e2 E C y A u r hj;clear h hf hm q4 f4 f5 X d cf L;go_enter func236,ntmps236;go_upto_region 1 with fail
 rw[<- f];clear f;go_wp2_with fail
 go_region
 all_goals
  go_wp2
  refine QC (λB=>(B.cell? ⟨V.heap.size+1,0,none⟩=some (S pa (x.jk.getD j Qc.z).ps.length pc)/\B.cell? ⟨V.heap.size+1,1,none⟩=some (S ra (x.jk.getD j Qc.z).rs.length rc))/\Bw V.heap.size V B/\Own V.heap.size B []) (Gq (V:=V) (w1:=W.drew) (ac.o.drew) ab.o (Own.nil _ _) _ rfl) ?_
  rintro B ⟨⟨u0,u1⟩,h1,h2⟩
  exact bodyPost_ret (v:=Ag #[S pa (x.jk.getD j Qc.z).ps.length pc,S ra (x.jk.getD j Qc.z).rs.length rc]) (by simp[results,results236,go_sem,u0,u1]) rfl ⟨_,_,[],rfl,h1,h2,(by simpa using aa.o),(by simpa using Y.o)⟩
theorem iit_e (op a b v:Int)(L:List Int)(R:Option Ad)(M:Nat)(h:ISt D w0 p (Yp (some ⟨q,0,none⟩)) l ks s V)(E:SpR D w0 q x fo go bd m ks)(X:JM D w0 ks l s.ps s.gq)(hn:∀g∈s.gq,0<=g.n)(a2:N s.ps<=1048577)(a4:N s.gq<=1048577)(c:∀k∈([13,16,17,32,33,34,35,36]:List Int),op≠k):Ec Q 236 #[Yp (some ⟨p,0,none⟩),inV ⟨op,a,b,v,L⟩ R M] V (ItP D w0 ks V (oty op)):=by
 have a1:(op==13)=false:=by simpa using c 13 (by simp)
 have a0:(op==16)=false:=by simpa using c 16 (by simp)
 have az:(op==17)=false:=by simpa using c 17 (by simp)
 have ay:(op==32)=false:=by simpa using c 32 (by simp)
 have ax:(op==33)=false:=by simpa using c 33 (by simp)
 have aw:(op==34)=false:=by simpa using c 34 (by simp)
 have av:(op==35)=false:=by simpa using c 35 (by simp)
 have au:(op==36)=false:=by simpa using c 36 (by simp)
 clear c;obtain⟨W,u⟩:∃W,W=(V.alloc (Fc #[U O op,U O a,U O b,U Ou v,S R (N L) M] 85)).alloc (Fc #[S none 0 0,S none 0 0] 76):=⟨_,rfl⟩;have ba:Bw V.heap.size V W:=by rw[u];exact(bFz.alloc lRz _).alloc (by simp) _
 have kk:C5 W V.heap.size 0 (U O op) (U O a) (U O b) (U Ou v) (S R (N L) M):=by rw[u];exact C5.new.past
 have r:Bk W (V.heap.size+1) [S none 0 0,S none 0 0]:=by have:=Bk.new (w:=V.alloc (Fc #[U O op,U O a,U O b,U Ou v,S R (N L) M] 85)) (cs:=[S none 0 0,S none 0 0]) (t:=76);rw[u];simpa using this
 have C:W.heap.size=V.heap.size+2:=by rw[u];simp
 have ad:=Hm C;obtain⟨⟨c0,c1,c2,c3,c4⟩,cf⟩:=kk;have y0:=r.2.1 0 _ rfl;have y1:=r.2.1 1 _ rfl;have z0:=r.2.2 0;have z1:=r.2.2 1;have af:=Hm r;have H:=Hm ba;have Y:=h.keep ba;obtain⟨sa,sc,bv,a9,hm,hf,q4,q5,f4,f5⟩:=Y.opnS;obtain⟨r0,r1,r2,r3,r4⟩:=E.cells Y.mo;have HO:=Hm (itype_c op);clear Y E X;clear h hf hm q4 f4 f5 ba r cf C;go_enter func236,ntmps236;go_upto_region 1 with fail
 rw[<- u];clear u;go_wp2_with fail
 refine(HO.o _).mono ?_;rintro e w1 ⟨pv,rv,rfl,d,j⟩;have ag:=Hm (H.o.trans (j.mono H.o.size));have f:=Hm (af.o.keep j);have y0:=f.o.2.1 0 _ rfl;have y1:=f.o.2.1 1 _ rfl;have z0:=f.o.2.2 0;have z1:=f.o.2.2 1;obtain⟨B,A,rfl⟩:=Qg d.hp;obtain⟨z,y,rfl⟩:=Qg d.hr;have ae:Hid (Own (V.heap.size+2) w1 [⟨2,1,(oty op).ps.length,S B (oty op).ps.length A,I (oty op).ps⟩,⟨2,1,(oty op).rs.length,S z (oty op).rs.length y,I (oty op).rs⟩]):=by rw[<- ad.o];exact Own.two d.hp d.hr (λi h1 h2=>d.ne i i h1 h2 rfl)
 clear d j;go_wp2
 all_goals
  refine QC (λF=>(F.cell? ⟨V.heap.size+1,0,none⟩=some (S B (oty op).ps.length A)/\F.cell? ⟨V.heap.size+1,1,none⟩=some (S z (oty op).rs.length y))/\Bw V.heap.size V F/\Own V.heap.size F [⟨2,1,(oty op).ps.length,S B (oty op).ps.length A,I (oty op).ps⟩,⟨2,1,(oty op).rs.length,S z (oty op).rs.length y,I (oty op).rs⟩]) (Gq (V:=V) ag.o f.o ae.o _ rfl) ?_
  rintro F ⟨⟨u0,u1⟩,h1,h2⟩
  exact bodyPost_ret (v:=Ag #[S B (oty op).ps.length A,S z (oty op).rs.length y]) (by simp[results,results236,go_sem,u0,u1]) rfl ⟨_,_,[⟨2,1,(oty op).ps.length,S B (oty op).ps.length A,I (oty op).ps⟩,⟨2,1,(oty op).rs.length,S z (oty op).rs.length y,I (oty op).rs⟩],rfl,h1,h2,(.inr (by simp)),(.inr (by simp))⟩
theorem ISt.lab (h:ISt D w0 p sp l ks s V)(C:j<N s.cq):∃g k c f rv,N s.cq=k+1/\V.cell? ⟨p,5,none⟩=some (S (some ⟨g,0,none⟩) (k+1) c)/\V.cell? ⟨g,(k-j)*5,none⟩=some f/\V.cell? ⟨g,(k-j)*5+3,none⟩=some rv/\Ty D w0 ks f (label s j).gj/\Ty D w0 ks rv (label s j).results:=by
 obtain⟨B,m,d,q,z⟩:=h;obtain⟨k,b⟩:∃k,N s.cq=k+1:=⟨N s.cq-1,by omega⟩;have a:V.ownsRow D 221 5 m (N s.cq) d:=q.row (r:=blR _ m d) (by simp);obtain⟨g,c,rfl⟩:∃g c,m=S (some ⟨g,0,none⟩) (k+1) c:=by
  rcases a.2 with ⟨_,E⟩|⟨g,cap,A,n,_⟩
  . omega
  rw[b]at n;exact⟨g,cap,n⟩
 have v:k-j<N s.cq:=by omega
 have y:s.cq[k-j]?=some (label s j):=by rw[label,Kc,b,Nat.add_sub_cancel];simp[Kx,v]
 obtain⟨F,⟨f,rv,rfl,u,t⟩,o⟩:=Fl.at irep_len z y;refine⟨g,k,c,f,rv,b,(q.b0 5).1,?_,?_,u,t⟩
 . have:=World.ownsRow.cellAt (by rw[b]at a;exact a) ((k-j)*5) (by omega);rw[this];exact o 0 _ rfl
 have:=World.ownsRow.cellAt (by rw[b]at a;exact a) ((k-j)*5+3) (by omega);rw[this];exact o 3 _ rfl
theorem iit_13 (j:Nat)(b v:Int)(ll:List Int)(la:Option Ad)(lc:Nat)(h:ISt D w0 p (Yp (some ⟨q,0,none⟩)) l ks s V)(H:SpR D w0 q x fo go bd m ks)(af:JM D w0 ks l s.ps s.gq)(hn:∀g∈s.gq,0<=g.n)(a6:N s.ps<=1048577)(bb:N s.gq<=1048577)(hj:j<N s.cq)(ai:N s.cq<=1048577)(a5:(label s j).gj.length<=1048577):Ec Q 236 #[Yp (some ⟨p,0,none⟩),inV ⟨13,(j:Int),b,v,ll⟩ la lc] V (ItP D w0 ks V ⟨(label s j).gj++[127],(label s j).gj⟩):=by
 obtain⟨W,A⟩:∃W,W=(V.alloc (Fc #[U O 13,U O (j:Int),U O b,U Ou v,S la (N ll) lc] 85)).alloc (Fc #[S none 0 0,S none 0 0] 76):=⟨_,rfl⟩;have ba:Bw V.heap.size V W:=by rw[A];exact(bFz.alloc lRz _).alloc (by simp) _
 have kk:C5 W V.heap.size 0 (U O 13) (U O (j:Int)) (U O b) (U Ou v) (S la (N ll) lc):=by rw[A];exact C5.new.past
 have z:Bk W (V.heap.size+1) [S none 0 0,S none 0 0]:=by have:=Bk.new (w:=V.alloc (Fc #[U O 13,U O (j:Int),U O b,U Ou v,S la (N ll) lc] 85)) (cs:=[S none 0 0,S none 0 0]) (t:=76);rw[A];simpa using this
 have F:W.heap.size=V.heap.size+2:=by rw[A];simp
 have ao:=Hm F;obtain⟨⟨c0,c1,c2,c3,c4⟩,cf⟩:=kk;have y0:=z.2.1 0 _ rfl;have y1:=z.2.1 1 _ rfl;have z0:=z.2.2 0;have z1:=z.2.2 1;have ar:=Hm z;have Y:=Hm ba;have M:=h.keep ba;obtain⟨sa,sc,bv,bn,hm,hf,q4,q5,f4,f5⟩:=M.opnS;obtain⟨r0,r1,r2,r3,r4⟩:=H.cells M.mo;obtain⟨g,k,c,tv,rv,hk,d5,dt,_,t1,_⟩:=M.lab hj;obtain⟨C,B,E,L⟩:=t1.has0 M.mo;rw[E]at dt t1;have aq:=Hm (λw=>ilabel_c p g k c (j:Int) w);have ak:=Hm t1;have au:=Hm L;have a8:k<=1048577:=by omega
 have ag:(j:Int)<=(k:Int):=by omega
 have ah:(0:Int)<=(j:Int):=by omega
 clear M H af hk E t1 L hj ai q5;clear h hf hm q4 f4 f5 ba z cf F;go_enter func236,ntmps236;go_upto_region 1 with fail
 rw[<- A];clear A;go_wp2_with fail
 refine(aq.o _ (by assumption) (by omega) ah ag).mono ?_;simp only[Kc];rintro e w1 ⟨rfl,n,rfl⟩;have X:=Hm (iwithI32_c C B (label s j).gj C (label s j).gj.length B (W.drewN n) au.o (by omega));go_wp2_with fail
 refine X.o.mono ?_;rintro e w1 ⟨v1,rfl,own,a⟩;have d:Bw W.heap.size W w1:=⟨a.os,a.tape,a.output,a.size,a.block⟩;have av:=Hm (Y.o.trans (d.mono Y.o.size));have f:=Hm (ar.o.keep d);have y0:=f.o.2.1 0 _ rfl;have y1:=f.o.2.1 1 _ rfl;have z0:=f.o.2.2 0;have z1:=f.o.2.2 1;obtain⟨y,u,rfl⟩:=Qg own;have ap:Hid (Own (V.heap.size+2) w1 [⟨2,1,((label s j).gj++[127]).length,S y ((label s j).gj++[127]).length u,I ((label s j).gj++[127])⟩]):=by rw[<- ao.o];exact Own.one own
 clear a d own X;go_wp2
 all_goals
  refine QC (λR=>(R.cell? ⟨V.heap.size+1,0,none⟩=some (S y ((label s j).gj++[127]).length u)/\R.cell? ⟨V.heap.size+1,1,none⟩=some (S C (label s j).gj.length B))/\Bw V.heap.size V R/\Own V.heap.size R [⟨2,1,((label s j).gj++[127]).length,S y ((label s j).gj++[127]).length u,I ((label s j).gj++[127])⟩]) (by have:=Gq (V:=V) (pv:=S y ((label s j).gj++[127]).length u) (rv:=S C (label s j).gj.length B) av.o f.o ap.o _ rfl;simpa using this) ?_
  rintro R ⟨⟨u0,u1⟩,h1,h2⟩
  exact bodyPost_ret (v:=Ag #[S y ((label s j).gj++[127]).length u,S C (label s j).gj.length B]) (by simp[results,results236,go_sem,u0,u1]) rfl ⟨_,_,[⟨2,1,((label s j).gj++[127]).length,S y ((label s j).gj++[127]).length u,I ((label s j).gj++[127])⟩],rfl,h1,h2,(.inr (by simp)),(ak.o.sub λr hr=>mR hr)⟩
theorem iit_17 (j:Nat)(b v:Int)(ll:List Int)(la:Option Ad)(lc:Nat)(h:ISt D w0 p (Yp (some ⟨q,0,none⟩)) l ks s V)(k:SpR D w0 q x fo go bd m ks)(ak:JM D w0 ks l s.ps s.gq)(hn:∀g∈s.gq,0<=g.n)(bn:N s.ps<=1048577)(bp:N s.gq<=1048577)(hj:j<N x.types)(aj:(x.types.getD j Qc.z).ps.length<=1048577):Ec Q 236 #[Yp (some ⟨p,0,none⟩),inV ⟨17,(j:Int),b,v,ll⟩ la lc] V (ItP D w0 ks V ⟨(x.types.getD j Qc.z).ps++[127],(x.types.getD j Qc.z).rs⟩):=by
 obtain⟨W,E⟩:∃W,W=(V.alloc (Fc #[U O 17,U O (j:Int),U O b,U Ou v,S la (N ll) lc] 85)).alloc (Fc #[S none 0 0,S none 0 0] 76):=⟨_,rfl⟩;have ba:Bw V.heap.size V W:=by rw[E];exact(bFz.alloc lRz _).alloc (by simp) _
 have kk:C5 W V.heap.size 0 (U O 17) (U O (j:Int)) (U O b) (U Ou v) (S la (N ll) lc):=by rw[E];exact C5.new.past
 have kb:Bk W (V.heap.size+1) [S none 0 0,S none 0 0]:=by have:=Bk.new (w:=V.alloc (Fc #[U O 17,U O (j:Int),U O b,U Ou v,S la (N ll) lc] 85)) (cs:=[S none 0 0,S none 0 0]) (t:=76);rw[E];simpa using this
 have L:W.heap.size=V.heap.size+2:=by rw[E];simp
 have au:=Hm L;obtain⟨⟨c0,c1,c2,c3,c4⟩,cf⟩:=kk;have aw:=Hm kb;have ad:=Hm ba;have F:=h.keep ba;obtain⟨sa,sc,bv,bz,hm,hf,q4,q5,f4,f5⟩:=F.opnS;have q0:=(hm.b0 0).1;obtain⟨r0,r1,r2,r3,r4⟩:=k.cells F.mo;obtain⟨fa,fc,aa,ab⟩:=Qu F.mo k.tr;obtain⟨gf,ao,y⟩:=ab (by omega);subst ao;rw[aa]at r0;obtain⟨pv,rv,e1,e2,t1,H⟩:=k.tt.get hj ks;have d0:=y _ _ e1 (by omega);have d1:=y _ _ e2 (by omega);obtain⟨ta,tc,X,u⟩:=t1.has0 F.mo;obtain⟨ra,rc,M,_⟩:=H.has0 F.mo;rw[X]at d0;rw[M]at d1 H;have bo:(j:Int)<(N x.types:Int):=by omega
 obtain⟨a,Y⟩:∃a,a=(x.types.getD j Qc.z).ps:=⟨_,rfl⟩;obtain⟨A,R⟩:∃A,A=(x.types.getD j Qc.z).rs:=⟨_,rfl⟩;rw[<- Y]at d0 u aj⊢;rw[<- R]at d1 H⊢;have ar:=Hm H;have aq:=Hm (iwithI32_c ta tc a ra (N A) rc W.drew u (by omega));clear F k ak y e1 e2 t1 H aa ab X M hj u Y R;clear h hf hm q4 f4 f5 ba kb cf L;go_enter func236,ntmps236;go_upto_region 1 with fail
 rw[<- E];clear E;go_wp2_with fail
 go_region_law (
  go_simp
  go_at_call 270
  refine aq.o.mono ?_
  rintro e w1 ⟨v1,rfl,own,c⟩;have d:Bw W.heap.size W w1:=⟨c.os,c.tape,c.output,c.size,c.block⟩;have ax:=Hm (ad.o.trans (d.mono ad.o.size));have f:=Hm (aw.o.keep d);have bb:=f.o.2.1 0 _ rfl;have a9:=f.o.2.1 1 _ rfl;have a8:=f.o.2.2 0;have a7:=f.o.2.2 1;have av:Hid (w1.ownsRow (V.heap.size+2) 2 1 v1 (a++[127]).length (I (a++[127]))):=by rw[<- au.o];exact own
  obtain⟨C,B,rfl⟩:=Qg own;clear c d own)
 all_goals
  go_wp2
  refine QC (λW'=>(W'.cell? ⟨V.heap.size+1,0,none⟩=some (S C (a++[127]).length B)/\W'.cell? ⟨V.heap.size+1,1,none⟩=some (S ra (N A) rc))/\Bw V.heap.size V W'/\Own V.heap.size W' [⟨2,1,(a++[127]).length,S C (a++[127]).length B,I (a++[127])⟩]) (by have:=Gq (V:=V) (pv:=S C (a++[127]).length B) (rv:=S ra (N A) rc) ax.o f.o (Own.one (r:=⟨2,1,(a++[127]:List Int).length,S C (a++[127]:List Int).length B,I (a++[127]:List Int)⟩) av.o) _ rfl;simpa using this) ?_
  rintro W' ⟨⟨u0,u1⟩,h1,h2⟩
  exact bodyPost_ret (v:=Ag #[S C (a++[127]).length B,S ra (N A) rc]) (by simp[results,results236,go_sem,u0,u1]) rfl ⟨_,_,[⟨2,1,(a++[127]).length,S C (a++[127]).length B,I (a++[127])⟩],rfl,h1,h2,(.inr (by simp)),(ar.o.sub λr hr=>mR hr)⟩
theorem iit_x:(∀⦃D:Nat⦄ ⦃w0:J⦄ ⦃p q:Nat⦄ ⦃l:Lo⦄ ⦃ks:List Qb⦄ ⦃s:Fn⦄ ⦃V:J⦄ ⦃x:Ctx⦄ ⦃fo go bd:Int⦄ ⦃m:Spc⦄ (j:Nat) (b v:Int) (A:List Int) (C:Option Ad) (B:Nat) (h:ISt D w0 p (Yp (some ⟨q,0,none⟩)) l ks s V) (R:SpR D w0 q x fo go bd m ks) (Y:JM D w0 ks l s.ps s.gq) (hn:∀g∈s.gq,0<=g.n) (ah:N s.ps<=1048577) (ai:N s.gq<=1048577) (hj:(j:Int)<=4294967295),Ec Q 236 #[Yp (some ⟨p,0,none⟩),inV ⟨32,(j:Int),b,v,A⟩ C B] V (ItP D w0 ks V ⟨[],[loc s j]⟩))/\(∀⦃D:Nat⦄ ⦃w0:J⦄ ⦃p q:Nat⦄ ⦃l:Lo⦄ ⦃ks:List Qb⦄ ⦃s:Fn⦄ ⦃V:J⦄ ⦃x:Ctx⦄ ⦃fo go bd:Int⦄ ⦃m:Spc⦄ (j:Nat) (b v:Int) (A:List Int) (C:Option Ad) (B:Nat) (h:ISt D w0 p (Yp (some ⟨q,0,none⟩)) l ks s V) (R:SpR D w0 q x fo go bd m ks) (Y:JM D w0 ks l s.ps s.gq) (hn:∀g∈s.gq,0<=g.n) (ah:N s.ps<=1048577) (ai:N s.gq<=1048577) (hj:(j:Int)<=4294967295),Ec Q 236 #[Yp (some ⟨p,0,none⟩),inV ⟨33,(j:Int),b,v,A⟩ C B] V (ItP D w0 ks V ⟨[loc s j],[]⟩))/\(∀⦃D:Nat⦄ ⦃w0:J⦄ ⦃p q:Nat⦄ ⦃l:Lo⦄ ⦃ks:List Qb⦄ ⦃s:Fn⦄ ⦃V:J⦄ ⦃x:Ctx⦄ ⦃fo go bd:Int⦄ ⦃m:Spc⦄ (j:Nat) (b v:Int) (A:List Int) (C:Option Ad) (B:Nat) (h:ISt D w0 p (Yp (some ⟨q,0,none⟩)) l ks s V) (R:SpR D w0 q x fo go bd m ks) (Y:JM D w0 ks l s.ps s.gq) (hn:∀g∈s.gq,0<=g.n) (ah:N s.ps<=1048577) (ai:N s.gq<=1048577) (hj:(j:Int)<=4294967295),Ec Q 236 #[Yp (some ⟨p,0,none⟩),inV ⟨34,(j:Int),b,v,A⟩ C B] V (ItP D w0 ks V ⟨[loc s j],[loc s j]⟩)):=by
 refine⟨?c0,?c1,?c2⟩;case' c0=>have d:=0
 case' c1=>have c:=0
 case' c2=>have bj:=0
 all_goals
  intro D w0 p q l ks s V x fo go bd m j b v A C B h R Y hn ah ai hj
  first|(replace d:=d;obtain⟨W,hW⟩:∃W,W=(V.alloc (Fc #[U O 32,U O (j:Int),U O b,U Ou v,S C (N A) B] 85)).alloc (Fc #[S none 0 0,S none 0 0] 76):=⟨_,rfl⟩)|(replace c:=c;obtain⟨W,hW⟩:∃W,W=(V.alloc (Fc #[U O 33,U O (j:Int),U O b,U Ou v,S C (N A) B] 85)).alloc (Fc #[S none 0 0,S none 0 0] 76):=⟨_,rfl⟩)|(obtain⟨W,hW⟩:∃W,W=(V.alloc (Fc #[U O 34,U O (j:Int),U O b,U Ou v,S C (N A) B] 85)).alloc (Fc #[S none 0 0,S none 0 0] 76):=⟨_,rfl⟩)
  have ba:Bw V.heap.size V W:=by rw[hW];exact(bFz.alloc lRz _).alloc (by simp) _
  first|(replace d:=d;have kk:C5 W V.heap.size 0 (U O 32) (U O (j:Int)) (U O b) (U Ou v) (S C (N A) B):=by rw[hW];exact C5.new.past)|(replace c:=c;have kk:C5 W V.heap.size 0 (U O 33) (U O (j:Int)) (U O b) (U Ou v) (S C (N A) B):=by rw[hW];exact C5.new.past)|(have kk:C5 W V.heap.size 0 (U O 34) (U O (j:Int)) (U O b) (U Ou v) (S C (N A) B):=by rw[hW];exact C5.new.past)
  have kb:Bk W (V.heap.size+1) [S none 0 0,S none 0 0]:=by
   first|(replace d:=d;have:=Bk.new (w:=V.alloc (Fc #[U O 32,U O (j:Int),U O b,U Ou v,S C (N A) B] 85)) (cs:=[S none 0 0,S none 0 0]) (t:=76))|(replace c:=c;have:=Bk.new (w:=V.alloc (Fc #[U O 33,U O (j:Int),U O b,U Ou v,S C (N A) B] 85)) (cs:=[S none 0 0,S none 0 0]) (t:=76))|(have:=Bk.new (w:=V.alloc (Fc #[U O 34,U O (j:Int),U O b,U Ou v,S C (N A) B] 85)) (cs:=[S none 0 0,S none 0 0]) (t:=76))
   rw[hW];simpa using this
  have aq:W.heap.size=V.heap.size+2:=by rw[hW];simp
  have M:=Hm aq;obtain⟨⟨c0,c1,c2,c3,c4⟩,cf⟩:=kk;have a8:=Hm kb;have ay:=Hm ba;have hI:=h.keep ba;obtain⟨sa,sc,bv,bz,hm,hf,q4,q5,f4,f5⟩:=hI.opnS;have q1:=(hm.b0 1).1;have q2:=(hm.b0 2).1;have q3:=(hm.b0 3).1;obtain⟨r0,r1,r2,r3,r4⟩:=R.cells hI.mo;have aw:(if(j:Int)<N s.ps then s.ps.getD (j:Int).toNat 0 else XU s.gq ((j:Int)-N s.ps))=loc s j:=rfl;have af:=Hm (ifind_c (V:=W.drew) (j:Int) (hI.mo.keep ⟨rfl,rfl,rfl,lRz,λ_ _=>rfl⟩) Y (by omega) hj hn ah ai);rw[aw]at af;obtain⟨a,av⟩:∃a,a=loc s j:=⟨_,rfl⟩;rw[<- av]at af⊢;clear av aw;generalize decide ((j:Int)<N s.ps+QJ s.gq)=db at af;obtain⟨bp,X⟩:∃z,z=l.pv:=⟨_,rfl⟩;obtain⟨br,aa⟩:∃z,z=l.gv:=⟨_,rfl⟩;obtain⟨bu,ab⟩:∃z,z=l.ev:=⟨_,rfl⟩;rw[<- X,<- aa,<- ab]at af;rw[<- X]at q1;rw[<- aa]at q2;rw[<- ab]at q3;clear hI R Y X aa ab;clear h hf hm q4 f4 f5 ba kb cf aq
  go_enter func236,ntmps236
  go_upto_region 1 with fail
  rw[<- hW];clear hW
  go_wp2_with fail
  go_region_law (
   go_simp
   go_at_call 257
   refine af.o.mono ?_
   rintro e w1 ⟨rfl,L⟩;have y:Bw W.heap.size W w1:=⟨L.os,L.tape,L.output,L.size,L.block⟩
   first|(replace d:=d;have d0:w1.cell? ⟨V.heap.size,0,none⟩=some (U O 32):=(y.cell (p:=⟨V.heap.size,0,none⟩) (by have:=M.o;show V.heap.size<_;omega)).trans c0)|(replace c:=c;have d0:w1.cell? ⟨V.heap.size,0,none⟩=some (U O 33):=(y.cell (p:=⟨V.heap.size,0,none⟩) (by have:=M.o;show V.heap.size<_;omega)).trans c0)|(have d0:w1.cell? ⟨V.heap.size,0,none⟩=some (U O 34):=(y.cell (p:=⟨V.heap.size,0,none⟩) (by have:=M.o;show V.heap.size<_;omega)).trans c0)
   have ap:=Hm y;clear L y)
  all_goals
   first|(replace d:=d;have ak:=Hm (ivar_32 a w1))|(replace c:=c;have ak:=Hm (ivar_33 a w1))|(have ak:=Hm (ivar_34 a w1))
   have ad:Hid (W.heap.size<=w1.heap.size):=ap.o.size
   go_wp2_with fail
   refine ak.o.mono ?_
   rintro e w2 ⟨pv,rv,rfl,H,ax⟩;have ac:Bw W.heap.size W w2:=ap.o.trans (ax.mono ap.o.size);have ao:=Hm (ay.o.trans (ac.mono ay.o.size));have F:=Hm (a8.o.keep ac);have bh:=F.o.2.1 0 _ rfl;have bg:=F.o.2.1 1 _ rfl;have bf:=F.o.2.2 0;have bc:=F.o.2.2 1;obtain⟨u,r,au⟩:=Qg (H.all _ (mS));obtain⟨k,f,ar⟩:=Qg (H.all _ (mC mS))
   dsimp only at au ar
   subst au ar
   first|(replace d:=d;have ae:Hid (Own (V.heap.size+2) w2 [⟨2,1,([]:List Int).length,S u ([]:List Int).length r,I []⟩,⟨2,1,([a]:List Int).length,S k ([a]:List Int).length f,I [a]⟩]):=H.mono (by have:=M.o;have:=ad.o;omega))|(replace c:=c;have ae:Hid (Own (V.heap.size+2) w2 [⟨2,1,([a]:List Int).length,S u ([a]:List Int).length r,I [a]⟩,⟨2,1,([]:List Int).length,S k ([]:List Int).length f,I []⟩]):=H.mono (by have:=M.o;have:=ad.o;omega))|(have ae:Hid (Own (V.heap.size+2) w2 [⟨2,1,([a]:List Int).length,S u ([a]:List Int).length r,I [a]⟩,⟨2,1,([a]:List Int).length,S k ([a]:List Int).length f,I [a]⟩]):=H.mono (by have:=M.o;have:=ad.o;omega))
   clear ax ac H
   go_wp2
   first|(replace d:=d;refine QC (λE=>(E.cell? ⟨V.heap.size+1,0,none⟩=some (S u ([]:List Int).length r)/\E.cell? ⟨V.heap.size+1,1,none⟩=some (S k ([a]:List Int).length f))/\Bw V.heap.size V E/\Own V.heap.size E [⟨2,1,([]:List Int).length,S u ([]:List Int).length r,I []⟩,⟨2,1,([a]:List Int).length,S k ([a]:List Int).length f,I [a]⟩]) (by have:=Gq (V:=V) (pv:=S u ([]:List Int).length r) (rv:=S k ([a]:List Int).length f) ao.o F.o ae.o _ rfl;simpa using this) ?_)|(replace c:=c;refine QC (λE=>(E.cell? ⟨V.heap.size+1,0,none⟩=some (S u ([a]:List Int).length r)/\E.cell? ⟨V.heap.size+1,1,none⟩=some (S k ([]:List Int).length f))/\Bw V.heap.size V E/\Own V.heap.size E [⟨2,1,([a]:List Int).length,S u ([a]:List Int).length r,I [a]⟩,⟨2,1,([]:List Int).length,S k ([]:List Int).length f,I []⟩]) (by have:=Gq (V:=V) (pv:=S u ([a]:List Int).length r) (rv:=S k ([]:List Int).length f) ao.o F.o ae.o _ rfl;simpa using this) ?_)|(refine QC (λE=>(E.cell? ⟨V.heap.size+1,0,none⟩=some (S u ([a]:List Int).length r)/\E.cell? ⟨V.heap.size+1,1,none⟩=some (S k ([a]:List Int).length f))/\Bw V.heap.size V E/\Own V.heap.size E [⟨2,1,([a]:List Int).length,S u ([a]:List Int).length r,I [a]⟩,⟨2,1,([a]:List Int).length,S k ([a]:List Int).length f,I [a]⟩]) (by have:=Gq (V:=V) (pv:=S u ([a]:List Int).length r) (rv:=S k ([a]:List Int).length f) ao.o F.o ae.o _ rfl;simpa using this) ?_)
   rintro E ⟨⟨u0,u1⟩,h1,h2⟩
   first|(replace d:=d;exact bodyPost_ret (v:=Ag #[S u ([]:List Int).length r,S k ([a]:List Int).length f]) (by simp[results,results236,go_sem,u0,u1]) rfl ⟨_,_,[⟨2,1,([]:List Int).length,S u ([]:List Int).length r,I []⟩,⟨2,1,([a]:List Int).length,S k ([a]:List Int).length f,I [a]⟩],rfl,h1,h2,(.inr (by simp)),(.inr (by simp))⟩)|(replace c:=c;exact bodyPost_ret (v:=Ag #[S u ([a]:List Int).length r,S k ([]:List Int).length f]) (by simp[results,results236,go_sem,u0,u1]) rfl ⟨_,_,[⟨2,1,([a]:List Int).length,S u ([a]:List Int).length r,I [a]⟩,⟨2,1,([]:List Int).length,S k ([]:List Int).length f,I []⟩],rfl,h1,h2,(.inr (by simp)),(.inr (by simp))⟩)|(exact bodyPost_ret (v:=Ag #[S u ([a]:List Int).length r,S k ([a]:List Int).length f]) (by simp[results,results236,go_sem,u0,u1]) rfl ⟨_,_,[⟨2,1,([a]:List Int).length,S u ([a]:List Int).length r,I [a]⟩,⟨2,1,([a]:List Int).length,S k ([a]:List Int).length f,I [a]⟩],rfl,h1,h2,(.inr (by simp)),(.inr (by simp))⟩)
def iit_32:=iit_x.1
def iit_33:=iit_x.2.1
def iit_34:=iit_x.2.2
theorem iit_35 (j:Nat)(b v:Int)(ll:List Int)(la:Option Ad)(lc:Nat)(h:ISt D w0 p (Yp (some ⟨q,0,none⟩)) l ks s V)(k:SpR D w0 q x fo go bd m ks)(ag:JM D w0 ks l s.ps s.gq)(hn:∀g∈s.gq,0<=g.n)(a6:N s.ps<=1048577)(a8:N s.gq<=1048577)(hj:j<N x.jx):Ec Q 236 #[Yp (some ⟨p,0,none⟩),inV ⟨35,(j:Int),b,v,ll⟩ la lc] V (ItP D w0 ks V ⟨[],[(Q6 x j).ty]⟩):=by
 obtain⟨W,B⟩:∃W,W=(V.alloc (Fc #[U O 35,U O (j:Int),U O b,U Ou v,S la (N ll) lc] 85)).alloc (Fc #[S none 0 0,S none 0 0] 76):=⟨_,rfl⟩;have ba:Bw V.heap.size V W:=by rw[B];exact(bFz.alloc lRz _).alloc (by simp) _
 have kk:C5 W V.heap.size 0 (U O 35) (U O (j:Int)) (U O b) (U Ou v) (S la (N ll) lc):=by rw[B];exact C5.new.past
 have kb:Bk W (V.heap.size+1) [S none 0 0,S none 0 0]:=by have:=Bk.new (w:=V.alloc (Fc #[U O 35,U O (j:Int),U O b,U Ou v,S la (N ll) lc] 85)) (cs:=[S none 0 0,S none 0 0]) (t:=76);rw[B];simpa using this
 have C:W.heap.size=V.heap.size+2:=by rw[B];simp
 have ao:=Hm C;obtain⟨⟨c0,c1,c2,c3,c4⟩,cf⟩:=kk;have aq:=Hm kb;have ab:=Hm ba;have hI:=h.keep ba;obtain⟨sa,sc,bv,bl,hm,hf,q4,q5,f4,f5⟩:=hI.opnS;have q0:=(hm.b0 0).1;obtain⟨r0,r1,r2,r3,r4⟩:=k.cells hI.mo;obtain⟨fa,fc,M,R⟩:=Qu hI.mo k.gr;obtain⟨gf,ah,X⟩:=R (by omega);subst ah;rw[M]at r4;have L:x.jx[j]?=some (Q6 x j):=by rw[Q6,Kc];simp[Kx,hj]
 have e1:=(Gr L).1;rw[<- k.gt]at e1;have d0:=X _ _ e1 (by omega);obtain⟨a,H⟩:∃a,a=(Q6 x j).ty:=⟨_,rfl⟩;rw[<- H]at d0⊢;have a7:(j:Int)<(N x.jx:Int):=by omega
 have ak:=Hm (ivar_35 a W.drew);have aa:Hid (W.heap.size<=W.drew.heap.size):=lRz;clear hI k ag X M R L e1 H hj;clear h hf hm q4 f4 f5 ba kb cf C;go_enter func236,ntmps236;go_upto_region 1 with fail
 rw[<- B];clear B;go_wp2_with fail
 go_region_law (
  go_simp
  go_at_call 271
  refine ak.o.mono ?_
  rintro e w2 ⟨pv,rv,rfl,r,c⟩;have d:Bw W.heap.size W w2:=⟨c.os,c.tape,c.output,c.size,c.block⟩;have ar:=Hm (ab.o.trans (d.mono ab.o.size));have f:=Hm (aq.o.keep d);have a1:=f.o.2.1 0 _ rfl;have a0:=f.o.2.1 1 _ rfl;have az:=f.o.2.2 0;have ay:=f.o.2.2 1;obtain⟨A,z,F⟩:=Qg (r.all _ (mS));obtain⟨y,u,E⟩:=Qg (r.all _ (mC mS))
  dsimp only at F E
  subst F E;have ap:Hid (Own (V.heap.size+2) w2 [⟨2,1,([]:List Int).length,S A ([]:List Int).length z,I []⟩,⟨2,1,([a]:List Int).length,S y ([a]:List Int).length u,I [a]⟩]):=r.mono (by have:=ao.o;have:=aa.o;omega);clear c d r)
 all_goals
  go_wp2
  refine QC (λY=>(Y.cell? ⟨V.heap.size+1,0,none⟩=some (S A ([]:List Int).length z)/\Y.cell? ⟨V.heap.size+1,1,none⟩=some (S y ([a]:List Int).length u))/\Bw V.heap.size V Y/\Own V.heap.size Y [⟨2,1,([]:List Int).length,S A ([]:List Int).length z,I []⟩,⟨2,1,([a]:List Int).length,S y ([a]:List Int).length u,I [a]⟩]) (by have:=Gq (V:=V) (pv:=S A ([]:List Int).length z) (rv:=S y ([a]:List Int).length u) ar.o f.o ap.o _ rfl;simpa using this) ?_
  rintro Y ⟨⟨u0,u1⟩,h1,h2⟩
  exact bodyPost_ret (v:=Ag #[S A ([]:List Int).length z,S y ([a]:List Int).length u]) (by simp[results,results236,go_sem,u0,u1]) rfl ⟨_,_,[⟨2,1,([]:List Int).length,S A ([]:List Int).length z,I []⟩,⟨2,1,([a]:List Int).length,S y ([a]:List Int).length u,I [a]⟩],rfl,h1,h2,(.inr (by simp)),(.inr (by simp))⟩
theorem iit_36 (j:Nat)(b v:Int)(ll:List Int)(la:Option Ad)(lc:Nat)(h:ISt D w0 p (Yp (some ⟨q,0,none⟩)) l ks s V)(k:SpR D w0 q x fo go bd m ks)(ag:JM D w0 ks l s.ps s.gq)(hn:∀g∈s.gq,0<=g.n)(a6:N s.ps<=1048577)(a8:N s.gq<=1048577)(hj:j<N x.jx):Ec Q 236 #[Yp (some ⟨p,0,none⟩),inV ⟨36,(j:Int),b,v,ll⟩ la lc] V (ItP D w0 ks V ⟨[(Q6 x j).ty],[]⟩):=by
 obtain⟨W,B⟩:∃W,W=(V.alloc (Fc #[U O 36,U O (j:Int),U O b,U Ou v,S la (N ll) lc] 85)).alloc (Fc #[S none 0 0,S none 0 0] 76):=⟨_,rfl⟩;have ba:Bw V.heap.size V W:=by rw[B];exact(bFz.alloc lRz _).alloc (by simp) _
 have kk:C5 W V.heap.size 0 (U O 36) (U O (j:Int)) (U O b) (U Ou v) (S la (N ll) lc):=by rw[B];exact C5.new.past
 have kb:Bk W (V.heap.size+1) [S none 0 0,S none 0 0]:=by have:=Bk.new (w:=V.alloc (Fc #[U O 36,U O (j:Int),U O b,U Ou v,S la (N ll) lc] 85)) (cs:=[S none 0 0,S none 0 0]) (t:=76);rw[B];simpa using this
 have C:W.heap.size=V.heap.size+2:=by rw[B];simp
 have ao:=Hm C;obtain⟨⟨c0,c1,c2,c3,c4⟩,cf⟩:=kk;have aq:=Hm kb;have ab:=Hm ba;have hI:=h.keep ba;obtain⟨sa,sc,bv,bl,hm,hf,q4,q5,f4,f5⟩:=hI.opnS;have q0:=(hm.b0 0).1;obtain⟨r0,r1,r2,r3,r4⟩:=k.cells hI.mo;obtain⟨fa,fc,M,R⟩:=Qu hI.mo k.gr;obtain⟨gf,ah,X⟩:=R (by omega);subst ah;rw[M]at r4;have L:x.jx[j]?=some (Q6 x j):=by rw[Q6,Kc];simp[Kx,hj]
 have e1:=(Gr L).1;rw[<- k.gt]at e1;have d0:=X _ _ e1 (by omega);obtain⟨a,H⟩:∃a,a=(Q6 x j).ty:=⟨_,rfl⟩;rw[<- H]at d0⊢;have a7:(j:Int)<(N x.jx:Int):=by omega
 have ak:=Hm (ivar_36 a W.drew);have aa:Hid (W.heap.size<=W.drew.heap.size):=lRz;clear hI k ag X M R L e1 H hj;clear h hf hm q4 f4 f5 ba kb cf C;go_enter func236,ntmps236;go_upto_region 1 with fail
 rw[<- B];clear B;go_wp2_with fail
 go_region_law (
  go_simp
  go_at_call 271
  refine ak.o.mono ?_
  rintro e w2 ⟨pv,rv,rfl,r,c⟩;have d:Bw W.heap.size W w2:=⟨c.os,c.tape,c.output,c.size,c.block⟩;have ar:=Hm (ab.o.trans (d.mono ab.o.size));have f:=Hm (aq.o.keep d);have a1:=f.o.2.1 0 _ rfl;have a0:=f.o.2.1 1 _ rfl;have az:=f.o.2.2 0;have ay:=f.o.2.2 1;obtain⟨A,z,F⟩:=Qg (r.all _ (mS));obtain⟨y,u,E⟩:=Qg (r.all _ (mC mS))
  dsimp only at F E
  subst F E;have ap:Hid (Own (V.heap.size+2) w2 [⟨2,1,([a]:List Int).length,S A ([a]:List Int).length z,I [a]⟩,⟨2,1,([]:List Int).length,S y ([]:List Int).length u,I []⟩]):=r.mono (by have:=ao.o;have:=aa.o;omega);clear c d r)
 all_goals
  go_wp2
  refine QC (λY=>(Y.cell? ⟨V.heap.size+1,0,none⟩=some (S A ([a]:List Int).length z)/\Y.cell? ⟨V.heap.size+1,1,none⟩=some (S y ([]:List Int).length u))/\Bw V.heap.size V Y/\Own V.heap.size Y [⟨2,1,([a]:List Int).length,S A ([a]:List Int).length z,I [a]⟩,⟨2,1,([]:List Int).length,S y ([]:List Int).length u,I []⟩]) (by have:=Gq (V:=V) (pv:=S A ([a]:List Int).length z) (rv:=S y ([]:List Int).length u) ar.o f.o ap.o _ rfl;simpa using this) ?_
  rintro Y ⟨⟨u0,u1⟩,h1,h2⟩
  exact bodyPost_ret (v:=Ag #[S A ([a]:List Int).length z,S y ([]:List Int).length u]) (by simp[results,results236,go_sem,u0,u1]) rfl ⟨_,_,[⟨2,1,([a]:List Int).length,S A ([a]:List Int).length z,I [a]⟩,⟨2,1,([]:List Int).length,S y ([]:List Int).length u,I []⟩],rfl,h1,h2,(.inr (by simp)),(.inr (by simp))⟩
theorem finish_spec (h:Qw s=.ok (b,s'))(i:Inv s):b=top s/\s'.cq=s.cq.dropLast/\s'.ps=s.ps/\s'.gq=s.gq/\N s'.jj=b.gk/\N s'.jj<=N s.jj:=by
 unfold Qw at h;cases hp:Xq s (top s).results with
 |error f=>rw[hp]at h;cases h
 |ok s1 =>
  rw[hp]at h
  simp only[Except.bind]at h
  obtain⟨j,g,d,c,k⟩:=Jt hp i
  split at h
  · cases h
  . rename_i a
    cases h
    exact⟨rfl,by simp[j],g,d,by simpa using a,c⟩
theorem XL (a:Int)(w:J):Ec Q 227 #[U O a] w λe w'=>∃v,e=Z v/\w'.ownsRow w.heap.size 2 1 v (Qh a).length (I (Qh a))/\Bw w.heap.size w w':=by
 by_cases h:a=64
 . subst h;go_enter func227,ntmps227;go_wp2;go_ret;exact⟨_,rfl,by simpa[Qh]using Tq w w.heap.size 2 1,bFz⟩
 have k:(a==64)=false:=by simpa using h
 have e:Qh a=[a]:=by simp[Qh,h]
 rw[e];clear h e;go_enter func227,ntmps227;go_wp2;go_ret;exact⟨_,rfl,Hk (base:=w.heap.size) (e:=2) (size:=1) w #[U O a] 1 lRz (by unfold maxLen;omega) rfl,bFz.alloc lRz _⟩
theorem ibeginIf_c (v:Vu)(xs:List Int)(h:ISt D w0 p sp l ks s V)(t:Ty D w0 ks v xs)(j:s.cq≠[])(c:N s.cq<=1048577)(d:N s.jj<=1099511627776):Ec Q 228 #[Yp (some ⟨p,0,none⟩),v] V (FnP D w0 p sp l ks ((Q7 s 127).map (QI · 4 xs))):=by
 obtain⟨va,y,rfl,_⟩:=t.st h;have m:=Hm (ipop_c 127 h j c d);have B:=Hm t;clear h t;go_enter func228,ntmps228;go_wp2_with fail
 refine m.o.mono ?_;rintro e F ⟨g,n⟩;rcases g.cases with ⟨f,a,rfl,z⟩|⟨u,s',a,rfl,q⟩
 . (have b:Hid ((Q7 s 127).map (QI · 4 xs)=.error f):=by show(Q7 s 127).map _=_;rw[Q7,a];rfl);clear g a m n;go_wp2;go_ret;exact FnP.err b.o z
 have b:Hid ((Q7 s 127).map (QI · 4 xs)=.ok (QI s' 4 xs)):=by show(Q7 s 127).map _=_;rw[Q7,a];rfl
 have r:=(Jp a).1;have A:=JV a;have C:=Hm (ibegin_c 4 (S va (N xs) y) xs q B.o (by rw[r];exact c) (by omega));clear g a m n q r A;go_wp2_with (go_at_call 104;refine C.o.mono ?_;rintro e E ⟨rfl,k⟩)
 go_ret;exact FnP.ok b.o k
theorem iotherwise_c (h:ISt D w0 p sp l ks s V)(i:Inv s)(k:s.cq≠[])(m:N s.cq<=1048577)(j:N s.jj<=1099511627776)(g:∀b∈s.cq,N b.results<=1048577):Ec Q 229 #[Yp (some ⟨p,0,none⟩)] V (FnP D w0 p sp l ks ((Qw s).map λp=>QI p.2 5 p.1.results)):=by
 have q:=Hm (ifinish_c h i k m j g);have A:=Hm i;clear h;go_enter func229,ntmps229;go_wp2_with fail
 refine q.o.mono ?_;rintro e w1 (⟨f,hr,rfl,hb⟩|⟨b,s',tv,rv,hr,rfl,hI,t1,t2⟩)
 . (have a:Hid ((Qw s).map (λp=>QI p.2 5 p.1.results)=.error f):=by show(Qw s).map _=_;rw[hr];rfl);have r:=Hm hb;clear hr q hb;go_wp2;go_ret;exact FnP.err a.o (r.o.keep (bFz.alloc lRz _))
 have a:Hid ((Qw s).map (λp=>QI p.2 5 p.1.results)=.ok (QI s' 5 b.results)):=by show(Qw s).map _=_;rw[hr];rfl
 obtain⟨H,v,F,E,C,B⟩:=finish_spec hr A.o;obtain⟨u,t,rfl,_⟩:=t2.st hI;obtain⟨z,y,rfl,_⟩:=t1.st hI;have c:N s'.cq<=1048577:=by rw[v];simp;omega
 have d:=hI.bxn #[S z (N b.gj) y,U O b.gk,U O b.op,S u (N b.results) t,G b.jq] 221 5 rfl;have r:=Hm (ibegin_c 5 (S u (N b.results) t) b.results d (t2.cons _) c (by omega));clear hr q hI H v F E C B t1 t2 d;go_wp2_with (go_at_call 104;refine r.o.mono ?_;rintro e I ⟨rfl,n⟩)
 go_ret;exact FnP.ok a.o (n.un rfl)
theorem iend_c (h:ISt D w0 p sp l ks s V)(i:Inv s)(n:s.cq≠[])(B:N s.cq<=1048577)(z:N s.jj<=1099511627776)(j:∀b∈s.cq,N b.results<=1048577):Ec Q 230 #[Yp (some ⟨p,0,none⟩)] V (FnP D w0 p sp l ks ((Qw s).bind λp=>if p.1.op=4/\p.1.results≠[]then .error 6 else .ok (push p.2 p.1.results))):=by
 have r:=Hm (ifinish_c h i n B z j);have hi:=Hm i;have L:=Hm j;clear h j;go_enter func230,ntmps230;go_wp2_with fail
 refine r.o.mono ?_;rintro e w1 (⟨f,hr,rfl,hb⟩|⟨b,s',tv,rv,hr,rfl,hI,t1,t2⟩)
 . (have a:Hid ((Qw s).bind (λp=>if p.1.op=4/\p.1.results≠[]then .error 6 else .ok (push p.2 p.1.results))=.error f):=by show(Qw s).bind _=_;rw[hr];rfl);have HB:=Hm hb;clear hr r hb;go_wp2;go_ret;exact FnP.err a.o (HB.o.keep (bFz.alloc lRz _))
 have c:(Qw s).bind (λp=>if p.1.op=4/\p.1.results≠[]then .error 6 else .ok (push p.2 p.1.results))=if b.op=4/\b.results≠[]then .error 6 else .ok (push s' b.results):=by rw[hr];rfl
 obtain⟨u,I,H,F,E,C⟩:=finish_spec hr hi.o;have A:N b.results<=1048577:=by refine L.o b ?_;obtain⟨bs,e⟩:=JN n;rw[u,e];exact mR (List.mem_singleton.2 rfl)
 obtain⟨y,v,rfl,_⟩:=t2.st hI;obtain⟨X,R,rfl,_⟩:=t1.st hI;have d:=hI.bxn #[S X (N b.gj) R,U O b.gk,U O b.op,S y (N b.results) v,G b.jq] 221 5 rfl;have M:=Hm d.mo.tail;obtain⟨ab,aa,e,t⟩:=Ty.st (t2.cons (box 221 5 w1.heap.size [S X (N b.gj) R,U O b.gk,U O b.op,S y (N b.results) v,G b.jq])) d;cases e;have q:=Hm (ipush_c y v b.results d t A (by omega));by_cases g:b.op=4
 . (have k5:(b.op==4)=true:=by simp[g]);by_cases m:b.results=[]
   . (have a:Hid ((Qw s).bind (λp=>if p.1.op=4/\p.1.results≠[]then .error 6 else .ok (push p.2 p.1.results))=.ok (push s' b.results)):=by show(Qw s).bind _=_;rw[c,if_neg (by simp[m])]);(have k7:¬((0:Int)<(N b.results:Int)):=by rw[m];simp);clear hr r hI u I H F E C t1 t2 d t c g m;(go_wp2_with (go_at_call 267;refine q.o.mono ?_;rintro e Y ⟨rfl,k⟩));go_ret;exact FnP.ok a.o (k.un rfl)
   (have a:Hid ((Qw s).bind (λp=>if p.1.op=4/\p.1.results≠[]then .error 6 else .ok (push p.2 p.1.results))=.error 6):=by show(Qw s).bind _=_;rw[c,if_pos ⟨g,m⟩]);(have k7:((0:Int)<(N b.results:Int)):=by have:=List.length_pos_iff.2 m;omega);clear hr r hI u I H F E C t1 t2 d t c g m;go_wp2;go_ret;exact FnP.err a.o M.o
 have k5:(b.op==4)=false:=by simp[g]
 have a:Hid ((Qw s).bind (λp=>if p.1.op=4/\p.1.results≠[]then .error 6 else .ok (push p.2 p.1.results))=.ok (push s' b.results)):=by show(Qw s).bind _=_;rw[c,if_neg (by simp[g])]
 clear hr r hI u I H F E C t1 t2 d t c g;go_wp2_with (go_at_call 267;refine q.o.mono ?_;rintro e Y ⟨rfl,k⟩)
 go_ret;exact FnP.ok a.o (k.un rfl)
theorem ibt1_c {E C:Nat}{q:Option Ad}{v:Nat}{b:List Int}(j:Nat)(h:ISt D w0 p sp l ks s V)(c2:V.cell? ⟨E,0,none⟩=some (Yp (some ⟨p,0,none⟩)))(Y:V.cell? ⟨C,0,none⟩=some (S q (N b) v))(z:Has V q b)(A:j<N s.cq)(M:N s.cq<=1048577)(I:N b<=1048577)(r:(label s j).gj.length<=1048577):Ec Q 268 #[U O (j:Int),Yp (some ⟨E,0,none⟩),Yp (some ⟨C,0,none⟩)] V λe w'=>e=Z (G (decide ((label s j).gj=b)))/\∃k,w'=V.drewN k:=by
 obtain⟨g,k,c,X,rv,L,R,B,_,y,_⟩:=h.lab A;obtain⟨H,F,f,a⟩:=y.st h;rw[f]at B;have t:=Hm (λn=>(ilabel_c p g k c (j:Int) (V.drewN n) R (by omega) (by omega) (by omega)).mono (R':=λe w'=>e=Z (Yp (some ⟨g,(k-j)*5,none⟩))/\∃m,w'=V.drewN m) λe w' ⟨h1,m,h2⟩=>⟨by simpa using h1,n+m,by rw[h2];exact Xz _ _ _⟩);obtain⟨xs,d⟩:∃xs,xs=(label s j).gj:=⟨_,rfl⟩;rw[<- d]at B a r⊢;have u:=Hm (λn=>(ieq_c H q F v xs b (V.drewN n) (by omega) (by omega) a z).mono (R':=λe w'=>e=Z (G (decide (xs=b)))/\∃m,w'=V.drewN m) λe w' ⟨h1,m,h2⟩=>⟨h1,n+m,by rw[h2];exact Xz _ _ _⟩);clear h z a f y L d A;go_enter func268,ntmps268;go_wp2_with fail
 go_quiet (first|(with_reducible exact t.o _)|(with_reducible exact u.o _))
 go_wp2;go_ret;exact⟨rfl,_,rfl⟩
theorem ibrTable_c (j:Nat)(b v:Int)(A:List Int)(la:Option Ad)(lc:Nat)(h:ISt D w0 p sp l ks s V)(i:Inv s)(hj:j<N s.cq)(ao:N s.cq<=1048577)(a1:N s.jj<=1099511627776)(a0:∀b∈s.cq,N b.gj<=1048577)(tL:Ty D w0 [] (S la (N A) lc) A)(b6:N A<=1048577)(a9:∀i∈A,0<=i/\i<N s.cq):Ec Q 232 #[Yp (some ⟨p,0,none⟩),inV ⟨14,(j:Int),b,v,A⟩ la lc] V (FnP D w0 p sp l ks ((Q7 s 127).bind λs'=>if A.all (λi=>decide ((label s' i).gj=(label s' j).gj))then JC s' (label s' j).gj else .error 6)):=by
 have aj:s.cq≠[]:=λe=>by rw[e]at hj;simp at hj
 obtain⟨M,hM⟩:∃M,M=((Q7 s 127).bind λs'=>if A.all (λi=>decide ((label s' i).gj=(label s' j).gj))then JC s' (label s' j).gj else .error 6):=⟨_,rfl⟩;rw[<- hM];have F:=(h.bxn #[Yp (some ⟨p,0,none⟩)] 107 1 rfl).bxn #[U O 14,U O (j:Int),U O b,U Ou v,S la (N A) lc] 85 5 rfl;obtain⟨B2,H⟩:∃B2,B2=V.heap.size:=⟨_,rfl⟩;obtain⟨W,hW⟩:∃W,W=(V.alloc (Fc #[Yp (some ⟨p,0,none⟩)] 107)).alloc (Fc #[U O 14,U O (j:Int),U O b,U Ou v,S la (N A) lc] 85):=⟨_,rfl⟩;have ah:(V.alloc (Fc #[Yp (some ⟨p,0,none⟩)] 107)).heap.size=B2+1:=by rw[H];simp
 rw[<- hW,ah,<- H]at F;have HP:=Hm (ipop_c 127 F aj ao a1);have hi:=Hm i;have bc:=Hm tL;have x0:=(F.mo.tail.b0 0).1;have bw:p<V.heap.size:=by obtain⟨sv,bv,cb,h1,h2⟩:=h;exact(h1.lt (T:=116) (sz:=6) (n:=1) (g:=p) (c:=1) (cs:=ib sp l sv bv) (by simp)).2
 clear h F tL;go_enter func232,ntmps232;go_upto_region 1 with fail
 rw[<- hW,<- H];have HM:=Hm hM;clear hW H hM ah;go_wp2_with fail
 refine HP.o.mono ?_;rintro e w1 ⟨hp,hg⟩;rcases hp.cases with ⟨f,q,rfl,hb⟩|⟨u,s1,q,rfl,L⟩
 . (have t:Hid (M=.error f):=by show M=_;rw[HM.o,Q7,q];rfl);clear hp q HP hg;go_wp2;go_ret;exact FnP.err t.o hb.tail.tail
 have d:M=if A.all (λi=>decide ((label s1 i).gj=(label s1 j).gj))then JC s1 (label s1 j).gj else .error 6:=by rw[HM.o,Q7,q];rfl
 have b1:=(Jp q).1;have b2:=JV q;have i1:=X2 q hi.o;have R:j<N s1.cq:=by rw[b1];exact hj
 have I:N s1.cq<=1048577:=by rw[b1];exact ao
 have B:∀n:Nat,n<N s1.cq->(label s1 n).gj.length<=1048577:=λn hn=>by refine a0 _ ?_;rw[<- b1,label,Kc,Kx,Kj (by omega)];simp
 obtain⟨g,k,c,tv,rv,hk,d5,dt,_,t1,_⟩:=L.lab R;obtain⟨xa,xc,ag,C⟩:=t1.st L;rw[ag]at dt t1;have av:=Hm (ilabel_c p g k c (j:Int) w1 d5 (by omega) (by omega) (by omega));simp only[Kc]at av;have a2:=(L.mo.tail.b0 0).1;have a3:=(L.mo.b0 1).1;have aw:=Hm L;have ar:=Hm t1;have au:=Hm d;clear hp q HP hg L ag t1 C hk d5 d HM;go_wp2_with fail
 refine av.o.mono ?_;rintro e w2 ⟨rfl,n,rfl⟩;obtain⟨V2,E⟩:∃V2,V2=w1.drewN n:=⟨_,rfl⟩;have b9:V2.cell? ⟨g,(k-j)*5,none⟩=some (S xa (label s1 j).gj.length xc):=by rw[E];exact dt
 have bj:=Hm (aw.o.keep (W:=V2) (by rw[E];exact⟨rfl,rfl,rfl,lRz,λ_ _=>rfl⟩));rw[<- E];clear E dt a2 a3 aw;go_upto_region 5 with fail
 obtain⟨W3,X⟩:∃W3,W3=V2.alloc (Fc #[S xa (label s1 j).gj.length xc] 24):=⟨_,rfl⟩;have a:=bj.o.bxn #[S xa (label s1 j).gj.length xc] 24 1 rfl;obtain⟨B7,Y⟩:∃B7,B7=V2.heap.size:=⟨_,rfl⟩;rw[<- X,<- Y]at a;rw[<- X,<- Y];have a7:=(a.mo.b0 0).1;have bb:=(a.mo.tail.tail.b0 0).1;have cd:=(a.mo.tail.b0 4).1;obtain⟨bs,br,e,C⟩:=Ty.st (((ar.o).cons (box 24 1 B7 [S xa (label s1 j).gj.length xc]))) a;cases e;obtain⟨b3,bz,e,ak⟩:=Ty.st (bc.o.sub (λr q=>by cases q)) a;cases e;have aa:=Hm (allT_c la lc A B2 B7 (fun i=>decide ((label s1 i).gj=(label s1 j).gj)) W3 (by omega) ak (fun x hx m=>by
  obtain⟨h0,h1⟩:=a9 x hx;obtain⟨y,rfl⟩:∃y:Nat,x=y:=⟨x.toNat,by omega⟩;have hy:y<N s1.cq:=by rw[b1];omega
  exact ibt1_c y (a.keep (W:=W3.drewN m) ⟨rfl,rfl,rfl,lRz,fun _ _=>rfl⟩) bb a7 C hy I (B j R) (B y hy)))
 have bh:=Hm (λm=>ileave_c (S xa (label s1 j).gj.length xc) (label s1 j).gj (a.keep (W:=W3.drewN m) ⟨rfl,rfl,rfl,lRz,λ_ _=>rfl⟩) (((ar.o).cons (box 24 1 B7 [S xa (label s1 j).gj.length xc]))) i1 (by rw[b1];exact aj) I (by omega) (B j R));have bf:=Hm (λm=>(a.mo.tail.tail.tail).drewN m);have d:=au.o;clear au;generalize hz:A.all (λi=>decide ((label s1 i).gj=(label s1 j).gj))=z at aa d;clear X Y a C ak hz;cases z
 . (have t:Hid (M=.error 6):=by show M=_;rw[d];rfl);clear d;(go_wp2_with (go_at_call 155;refine aa.o.mono ?_;rintro e w4 ⟨rfl,m,rfl⟩));go_ret;exact FnP.err t.o (bf.o m)
 have t:Hid (M=JC s1 (label s1 j).gj):=by show M=_;rw[d];rfl
 clear d;go_wp2_with (go_at_call 155;refine aa.o.mono ?_;rintro e w4 ⟨rfl,m,rfl⟩)
 refine(bh.o m).mono ?_;intro e w5 hp;rcases hp.cases with ⟨f,q,rfl,hb⟩|⟨s2,q,rfl,L⟩
 . go_wp2;go_ret;exact FnP.err (t.o.trans q) hb.tail.tail.tail
 go_wp2;go_ret;exact FnP.ok (t.o.trans q) (((L.un rfl).un rfl).un rfl)
structure CxB (x:Ctx):Prop where
 ty:∀t∈x.types,N t.ps<=1048576/\N t.rs<=1048576
 fu:∀t∈x.jk,N t.ps<=1048576/\N t.rs<=1048576
structure Bd (s:Fn):Prop where
 inv:Inv s
 bl:N s.cq<=1048577
 st:N s.jj<=1099511627776
 rl:∀b∈s.cq,N b.results<=1048576
 nn:∀g∈s.gq,0<=g.n
 pl:N s.ps<=1048577
 gl:N s.gq<=1048577
theorem Bd.tl (h:Bd s):∀b∈s.cq,N b.gj<=1048576:=λb hb=>by
 rw[h.inv.tk b hb];split
 · simp
 . exact h.rl b hb
theorem Xc (a:j<N s.cq):label s j∈s.cq:=by
 rw[label,Kc,Kx,Kj (by omega)];simp
theorem XR {xs:List Qc}(h:j<N xs):xs.getD j Qc.z∈xs:=by simp[Kx,h]
theorem oty_len (op:Int):(oty op).ps.length<=2/\(oty op).rs.length<=1:=by
 refine⟨?_,?_⟩
 . exact Kq (nz_len _) (by simp)
 exact Kq (nz_len _) (by simp)
theorem iit_c (y:In)(t:Option Ad)(r:Nat)(h:ISt D w0 p (Yp (some ⟨q,0,none⟩)) l ks s V)(d:SpR D w0 q x fo go bd m ks)(f:JM D w0 ks l s.ps s.gq)(B:Bd s)(C:CxB x)(Y:0<=y.a)(A:y.a<=4294967295)(g:Qk x frm s y=true):Ec Q 236 #[Yp (some ⟨p,0,none⟩),inV y t r] V (ItP D w0 ks V (QW x oty s y))/\(QW x oty s y).ps.length<=1048577/\(QW x oty s y).rs.length<=1048577:=by
 obtain⟨n,a,b,v,c⟩:=y;dsimp only at Y A;obtain⟨j,rfl⟩:∃j:Nat,a=j:=⟨a.toNat,by omega⟩;have u:=B.nn;by_cases X:n=13
 . subst X;(have o:j<N s.cq:=by(have:Qk x frm s ⟨13,j,b,v,c⟩=decide ((j:Int)<N s.cq):=by simp[Qk,show frm 13=2 by decide +kernel]);rw[this]at g;simp at g;exact g);(have e:QW x oty s ⟨13,j,b,v,c⟩=⟨(label s j).gj++[127],(label s j).gj⟩:=by simp[QW]);have hl:=B.tl _ (Xc o);rw[e];exact⟨iit_13 j b v c t r h d f u B.pl B.gl o B.bl (by omega),by simp;omega,by simp;omega⟩
 by_cases R:n=16
 . subst R;(have o:j<N x.jk:=by(have:Qk x frm s ⟨16,j,b,v,c⟩=decide ((j:Int)<N x.jk):=by simp[Qk,show frm 16=2 by decide +kernel]);rw[this]at g;simp at g;exact g);(have e:QW x oty s ⟨16,j,b,v,c⟩=x.jk.getD j Qc.z:=by simp[QW]);have hl:=C.fu _ (XR o);rw[e];exact⟨iit_16 j b v c t r h d f u B.pl B.gl o,by omega,by omega⟩
 by_cases M:n=17
 . subst M;(have o:j<N x.types:=by(have:Qk x frm s ⟨17,j,b,v,c⟩=(decide (0<x.jv)&&decide ((j:Int)<N x.types)):=by simp[Qk,show frm 17=4 by decide +kernel]);rw[this]at g;simp at g;exact g.2);(have e:QW x oty s ⟨17,j,b,v,c⟩=⟨(x.types.getD j Qc.z).ps++[127],(x.types.getD j Qc.z).rs⟩:=by simp[QW]);have hl:=C.ty _ (XR o);rw[e];exact⟨iit_17 j b v c t r h d f u B.pl B.gl o (by omega),by show((x.types.getD j Qc.z).ps++[127]).length<=_;rw[List.length_append];show _+1<=_;omega,by show(x.types.getD j Qc.z).rs.length<=_;omega⟩
 by_cases L:n=32
 . subst L;(have e:QW x oty s ⟨32,j,b,v,c⟩=⟨[],[loc s j]⟩:=by simp[QW]);rw[e];exact⟨iit_32 j b v c t r h d f u B.pl B.gl A,by simp,by simp⟩
 by_cases I:n=33
 . subst I;(have e:QW x oty s ⟨33,j,b,v,c⟩=⟨[loc s j],[]⟩:=by simp[QW]);rw[e];exact⟨iit_33 j b v c t r h d f u B.pl B.gl A,by simp,by simp⟩
 by_cases H:n=34
 . subst H;(have e:QW x oty s ⟨34,j,b,v,c⟩=⟨[loc s j],[loc s j]⟩:=by simp[QW]);rw[e];exact⟨iit_34 j b v c t r h d f u B.pl B.gl A,by simp,by simp⟩
 by_cases F:n=35
 . subst F;(have o:j<N x.jx:=by(have:Qk x frm s ⟨35,j,b,v,c⟩=decide ((j:Int)<N x.jx):=by simp[Qk,show frm 35=2 by decide +kernel]);rw[this]at g;simp at g;exact g);(have e:QW x oty s ⟨35,j,b,v,c⟩=⟨[],[(Q6 x j).ty]⟩:=by simp[QW]);rw[e];exact⟨iit_35 j b v c t r h d f u B.pl B.gl o,by simp,by simp⟩
 by_cases E:n=36
 . subst E;(have o:j<N x.jx:=by(have:Qk x frm s ⟨36,j,b,v,c⟩=decide ((j:Int)<N x.jx):=by simp[Qk,show frm 36=2 by decide +kernel]);rw[this]at g;simp at g;exact g);(have e:QW x oty s ⟨36,j,b,v,c⟩=⟨[(Q6 x j).ty],[]⟩:=by simp[QW]);rw[e];exact⟨iit_36 j b v c t r h d f u B.pl B.gl o,by simp,by simp⟩
 have e:QW x oty s ⟨n,j,b,v,c⟩=oty n:=by simp[QW,X,R,M,L,I,H,F,E]
 rw[e];have:=oty_len n;exact⟨iit_e n j b v c t r h d f u B.pl B.gl (by intro k hk;simp at hk;rcases hk with rfl|rfl|rfl|rfl|rfl|rfl|rfl|rfl<;>assumption),by omega,by omega⟩
def nst (s:Fn):List Bool:=s.cq.map λb=>decide (b.op=4)
theorem inv_push (h:Inv s)(a:List Int):Inv (push s a):=⟨h.tk,h.so,λhne=>by have:=h.ht hne;show(top s).gk<=(s.jj++a).length;simp;omega⟩
theorem inv_begin (h:Inv s)(op:Int)(rs:List Int):Inv (QI s op rs):=by
 refine⟨λb d=>?_,?_,λ_=>?_⟩
 . rcases List.mem_append.1 d with d|d
   . exact h.tk b d
   simp at d;subst d;rfl
 . show(List.map (λb:Blk=>b.gk) (s.cq++[_])).Pairwise (·<=·);rw[Tf,Pc];refine⟨h.so,by simp,λa ha b d=>?_⟩;simp at d;subst d;obtain⟨c,f,rfl⟩:=List.mem_map.1 ha;exact h.all c f
 show(top (QI s op rs)).gk<=N s.jj;simp[top,QI]
theorem inv_die (h:Inv s)(c:s.cq≠[]):Inv (die s):=by
 obtain⟨f,d⟩:=JN c;have hd:s.cq.dropLast=f:=by rw[d];simp
 have e:(die s).cq=f++[{ top s with jq:=true }]:=by simp[die,hd]
 refine⟨λb a=>?_,?_,λ_=>?_⟩
 . rw[e]at a;rcases List.mem_append.1 a with a|a
   . exact h.tk b (by rw[d];exact mL a)
   simp at a;subst a;exact h.tk (top s) (by rw[d];exact mR (List.mem_singleton.2 rfl))
 . rw[e];have:=h.so;rw[d]at this;simpa using this
 have g:top (die s)={ top s with jq:=true }:=top_snoc e;have:=h.ht c;rw[g];show(top s).gk<=(s.jj.take (top s).gk).length;simp;omega
theorem inv_drop (h:Inv s)(c:s.cq≠[])(k:N s.jj=(top s).gk):Inv { s with cq:=s.cq.dropLast }:=by
 obtain⟨g,f⟩:=JN c;have hd:s.cq.dropLast=g:=by rw[f];simp
 have a:=h.so;rw[f,Tf,Pc]at a;refine⟨λb hb'=>h.tk b ?_,?_,λhne'=>?_⟩
 . rw[f];rw[hd]at hb';exact mL hb'
 . show(List.map (λb:Blk=>b.gk) s.cq.dropLast).Pairwise (·<=·);rw[hd];exact a.1
 show(top { s with cq:=s.cq.dropLast }).gk<=N s.jj;obtain⟨cs,j⟩:=JN (s:={ s with cq:=s.cq.dropLast }) hne';have d:g=cs++[top { s with cq:=s.cq.dropLast }]:=by rw[<- hd];exact j
 have:=a.2.2 (top { s with cq:=s.cq.dropLast }).gk (by rw[d];simp) (top s).gk (by simp);omega
structure Kp (s s':Fn)(n:List Bool):Prop where
 inv:Inv s'
 ps:s'.ps=s.ps
 gq:s'.gq=s.gq
 st:N s'.jj<=N s.jj+1048576
 bl:N s'.cq<=N s.cq+1
 rl:(∀b∈s.cq,N b.results<=1048576)->∀b∈s'.cq,N b.results<=1048576
 nst:nst s'=n
theorem kp_die {m:List Int}(h:JC s m=.ok s1)(i:Inv s)(k:s.cq≠[]):Kp s s1 (nst s):=by
 unfold JC at h;cases hp:Xq s m with
 |error f=>rw[hp]at h;cases h
 |ok s2 =>
  rw[hp]at h;cases h;obtain⟨j,q,p,r,o⟩:=Jt hp i;have c:s2.cq≠[]:=by rw[j];exact k
  obtain⟨l,g⟩:=JN c;have hd:s2.cq.dropLast=l:=by rw[g];simp
  have e:(die s2).cq=l++[{ top s2 with jq:=true }]:=by simp[die,hd]
  have d:(die s2).cq.length=N s2.cq:=by rw[e,g];simp
  refine⟨inv_die o c,q,p,?_,by rw[d,j];omega,λhr b a=>?_,?_⟩
  . have:(die s2).jj.length<=N s2.jj:=by simp[die];omega
    omega
  . rw[e]at a;rw[<- j]at hr
    rcases List.mem_append.1 a with a|a
    . exact hr b (by rw[g];exact mL a)
    . simp at a;subst a
      exact hr (top s2) (by rw[g];exact mR (List.mem_singleton.2 rfl))
  . have n:nst s=(l++[top s2]).map (λb=>decide (b.op=4)):=by rw[nst,<- j,g]
    rw[n,nst,e];simp
theorem kp_pop (d:Inv s1)(c:s1.cq=s.cq)(g:s1.ps=s.ps)(f:s1.gq=s.gq)(k:N s1.jj<=N s.jj)(a:List Int)(j:N a<=1048576):Kp s (push s1 a) (nst s) :=
 ⟨inv_push d a,g,f,by show(s1.jj++a).length<=_;simp;omega,by show(N s1.cq)<=_;rw[c];omega,λhr b hb=>hr b (by rw[<- c];exact hb),by show s1.cq.map _=_;rw[c];rfl⟩
theorem kp_begin (d:Inv s1)(c:s1.cq=s.cq)(j:s1.ps=s.ps)(g:s1.gq=s.gq)(k:N s1.jj<=N s.jj)(op:Int)(rs:List Int)(f:N rs<=1048576):Kp s (QI s1 op rs) (nst s++[decide (op=4)]):=by
 refine⟨inv_begin d op rs,j,g,by show(N s1.jj)<=_;omega,by simp[QI,c],λhr b a=>?_,by simp[nst,QI,c]⟩;rcases List.mem_append.1 a with a|a
 . exact hr b (by rw[<- c];exact a)
 simp at a;subst a;exact f
theorem resOf_len (a:Int):(Qh a).length<=1:=by unfold Qh;split<;>simp
theorem finish_kp (h:Qw s=.ok (b,s1))(i:Inv s)(c:s.cq≠[]):Inv s1/\b=top s/\s1.cq=s.cq.dropLast/\s1.ps=s.ps/\s1.gq=s.gq/\N s1.jj<=N s.jj:=by
 unfold Qw at h;cases hp:Xq s (top s).results with
 |error f=>rw[hp]at h;cases h
 |ok s2 =>
  rw[hp]at h
  simp only[Except.bind]at h
  obtain⟨d,m,l,k,j⟩:=Jt hp i
  split at h
  · cases h
  . rename_i g
    cases h
    have a:s2.cq≠[]:=by rw[d];exact c
    exact⟨inv_drop j a (by rw[top_eq d];simpa using g),rfl,by simp[d],m,l,k⟩
theorem top_mem (a:s.cq≠[]):top s∈s.cq:=by
 obtain⟨c,b⟩:=JN a;rw[b];exact mR (List.mem_singleton.2 rfl)
theorem insTy_rs {y:In}(C:CxB x)(B:Bd s)(d:0<=y.a)(g:Qk x frm s y=true):(QW x oty s y).rs.length<=1048576:=by
 obtain⟨k,a,b,v,l⟩:=y;obtain⟨j,rfl⟩:∃j:Nat,a=j:=⟨a.toNat,by dsimp only at d;omega⟩;have H:∀(xs:List Qc),(∀t∈xs,N t.ps<=1048576/\N t.rs<=1048576)->(xs.getD j Qc.z).rs.length<=1048576:=λxs h=>by
  by_cases c:j<N xs
  . exact(h _ (XR c)).2
  simp[Kx,List.getElem?_eq_none (by omega:N xs<=j),Qc.z]
 unfold QW;dsimp only;split
 · by_cases c:j<N s.cq
   . exact B.tl _ (Xc c)
   rename_i f;subst f;(have:Qk x frm s ⟨13,j,b,v,l⟩=decide ((j:Int)<N s.cq):=by simp[Qk,show frm 13=2 by decide +kernel]);rw[this]at g;simp at g;omega
 split
 · simpa using H x.jk C.fu
 split
 · simpa using H x.types C.ty
 split
 · simp
 split
 · simp
 split
 · simp
 split
 · simp
 split
 · simp
 exact Kq (oty_len k).2 (by omega)
theorem step_kp {y:In}{n:List Bool}(h:step x frm oty s y=.ok s')(C:CxB x)(B:Bd s)(d:s.cq≠[])(A:0<=y.a)(g:QB (nst s) y.op=some n):Kp s s' n:=by
 have i:=B.inv;have t:(nst s).isEmpty=false:=by
  cases hb:s.cq with
  |nil=>exact absurd hb d
  |cons z zs=>simp[nst,hb]
 unfold step at h;split at h
 . cases h
 rename_i X;split at h
 . cases h
 split at h
 . cases h
 have v:Qk x frm s y=true:=by simpa using X
 unfold JQ at h;unfold QB at g;simp only[t]at g;split at h
 . rename_i e;rw[e]at g;simp at g;subst g;exact kp_die h i d
 split at h
 . rename_i e;cases h;(have E:nst s++[decide (y.op=4)]=n:=by rcases e with e|e<;>rw[e]at g⊢<;>simpa using g);rw[<- E];exact kp_begin i rfl rfl rfl lRz y.op _ (Kq (resOf_len _) (by omega))
 split at h
 . rename_i e;rw[e]at g;simp at g;subst g;cases hp:Q7 s 127 with
   |error f=>rw[hp]at h;cases h
   |ok s1 =>
    rw[hp]at h;cases h;obtain⟨u,m⟩:=pop1_of hp;obtain⟨j,l,o,_⟩:=Jp m
    exact kp_begin (X2 m i) j l o (JV m) 4 _ (Kq (resOf_len _) (by omega))
 split at h
 . rename_i e;rw[e]at g;simp at g;cases hp:Qw s with
   |error f=>rw[hp]at h;cases h
   |ok r =>
    obtain⟨b,s1⟩:=r;rw[hp]at h;cases h;obtain⟨L,j,l,o,q,I⟩:=finish_kp hp i d
    refine⟨inv_begin L 5 _,o,q,by show(N s1.jj)<=_;omega,by simp[QI,l],λhr c p=>?_,?_⟩
    . rcases List.mem_append.1 p with p|p
      . exact hr c (by rw[l]at p;exact(Ih _).subset p)
      . simp at p;subst p;show(N b.results)<=_;rw[j];exact hr _ (top_mem d)
    . rw[<- g.2];simp[nst,QI,l,Eb]
 split at h
 . rename_i e;rw[e]at g;simp at g;cases hp:Qw s with
   |error f=>rw[hp]at h;cases h
   |ok r =>
    obtain⟨b,s1⟩:=r;rw[hp]at h
    simp only[Except.bind]at h
    split at h
    · cases h
    . cases h
      obtain⟨L,j,l,o,q,I⟩:=finish_kp hp i d
      refine⟨inv_push L _,o,q,?_,by show(N s1.cq)<=_;rw[l];simp;omega,λhr c p=>hr c (by have:c∈s1.cq:=p;rw[l]at this;exact(Ih _).subset this),?_⟩
      . have:=B.rl _ (top_mem d)
        show(s1.jj++b.results).length<=_
        rw[j];simp;omega
      . rw[<- g];show s1.cq.map _=_;rw[l];simp[nst,Eb]
 rename_i e0 F e4 Y H;have D:n=nst s:=by rw[if_neg (by simp),if_neg F,if_neg e4,if_neg Y,if_neg H]at g;exact(Option.some.inj g).symm
 rw[D];split at h
 . exact kp_die h i d
 split at h
 . cases hp:Q7 s 127 with
   |error f=>rw[hp]at h;cases h
   |ok s1 =>
    rw[hp]at h
    simp only[Except.bind]at h
    obtain⟨u,m⟩:=pop1_of hp;obtain⟨j,l,o,_⟩:=Jp m
    split at h
    · have k:=kp_die h (X2 m i) (by rw[j];exact d)
      have:=JV m
      have V:nst s1=nst s:=by simp[nst,j]
      exact⟨k.inv,k.ps.trans l,k.gq.trans o,by have:=k.st;omega,by have:=k.bl;rw[j]at this;exact this,λhr=>k.rl (by rw[j];exact hr),k.nst.trans V⟩
    . cases h
 split at h
 . exact kp_die h i d
 split at h
 . obtain⟨u,m⟩:=pop1_of h;obtain⟨j,l,o,_⟩:=Jp m;have:=JV m;exact⟨X2 m i,l,o,by omega,by rw[j];omega,λhr=>by rw[j];exact hr,by simp[nst,j]⟩
 split at h
 . cases hp:Q7 s 127 with
   |error f=>rw[hp]at h;cases h
   |ok s1 =>
    rw[hp]at h
    simp only[Except.bind]at h
    obtain⟨u,m⟩:=pop1_of hp;obtain⟨j,l,o,_⟩:=Jp m;have l1:=JV m
    cases hp2:pop s1 0 with
    |error f=>rw[hp2]at h;cases h
    |ok r =>
     obtain⟨M,R⟩:=r;rw[hp2]at h
     simp only at h
     obtain⟨b1,b2,b3,_⟩:=Jp hp2;have l2:=JV hp2
     cases hp3:pop R M with
     |error f=>rw[hp3]at h;cases h
     |ok r =>
      obtain⟨t3,s3⟩:=r;rw[hp3]at h;cases h;obtain⟨c1,c2,c3,_⟩:=Jp hp3;have l3:=JV hp3
      exact kp_pop (X2 hp3 (X2 hp2 (X2 m i))) (c1.trans (b1.trans j)) (c2.trans (b2.trans l)) (c3.trans (b3.trans o)) (by omega) _ (by simp)
 unfold apply at h;cases hp:Xq s (QW x oty s y).ps with
 |error f=>rw[hp]at h;cases h
 |ok s1 =>
  rw[hp]at h;cases h;obtain⟨j,l,o,q,I⟩:=Jt hp i
  exact kp_pop I j l o q _ (insTy_rs C B A v)
