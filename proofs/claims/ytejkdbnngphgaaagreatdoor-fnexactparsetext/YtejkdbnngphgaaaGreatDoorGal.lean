import Derived.Test.YtejkdbnngphgaaaGreatDoorGak
import Derived.Laws.BytesArg
set_option linter.all false
set_option maxHeartbeats 400000000
set_option maxRecDepth 100000
namespace Go.Proofs
open Value renaming int->U,slice->S,bool->G,pointer->Yp,string->Xs
open IntKind renaming i64->O,u64->Ou
open Ending renaming returned->Z
open Obj renaming cells->Fc
open Go renaming World->J,Calls->Ec,Value->Vu,Addr->Ad
open Go.RowKit renaming Below->Bw
open Tryz renaming prog->Q
open Tryz
open Region renaming wanted->Hg
open Nat renaming le_trans->Kf,zero_add->Kk
open List renaming length->Hx,find?->Dq,length->N
open World renaming cell?_of_block->Kx
namespace YtejkdbnngphgaaaGreatDoor.Yz
open Go.RowKit Go.Sort
variable {bd:Bool}{op:Int}{w V V':J}{L:List (Wd × Int)}{acc:List Int}{cs:List Vu}{ws:List Wd}{B n q k lc T g t:Nat}{r:Qb}{v a b d e u:Vu}{s:Wd}
theorem step_append_src {P:Program}{f:Array Oper}{o:Oper}{a:Act}{K:Act->J->Prop}{k:Exit->Act->J->Prop}{E:Prop}(g:o.guard=none)(s x:Operand)(t:TypeId) (q:o.op=.call { callee:=.builtin .append,args:=#[s,x],argTypes:=#[t,t] }) (base:Nat) (e:TypeId) (i:TypeInfo) (z:Vu) (size bytes:Nat) (ht:P.underlying t=some (.slice e)) (hi:P.info? e=some i) (hz:i.zero=some z) (hsize:i.size=size) (hby:i.bytes=bytes) (hzs:z.cells.size=size) (hsz:0<size) (v:Vu) (n:Nat) (xs:List Vu) (hs:a.eval s=v) (hown:w.ownsRow base e size v n xs) (ad:Ad) (m c:Nat) (news:List Vu) (hx:a.eval x=S (some ad) m c) (hl:N news=m*size) (hn:∀j u,news[j]?=some u->w.cell? (ad.add j)=some u) (h1:∀u∈news,u.oneCell'=true) (h63:n+m<=maxLen) (hbytes:(n+m)*bytes<=140737488355328) (hbase:base<=w.heap.size) (h:∀b d,d.ownsRow base e size b (n+m) (xs++news)->w.grownBy d v.ownBlock->(b.ownBlock=v.ownBlock\/b.ownBlock=some w.heap.size)->K (a.put o.dst b) d):if Hg o (yielded f a.tmps)=true then Oper.wp P o a w K k else E:=by
 have l:Hg o (yielded f a.tmps)=true:=by simp[Hg,g]
 rw[if_pos l];obtain⟨b,d,p,A,y,B,r⟩:=run_append_own_at (P:=P) w base t o.type e i z size bytes ht hi hz hsize hby hzs hsz v n xs hown ad m c news hl hn h1 h63 hbytes hbase;unfold Oper.wp execOp;simp only[q,resolve,invoke,builtin,Sem.run_bind,Sem.run_pure,Result.andThen_ok,List.map_toArray,List.map_cons,List.map_nil,hs,hx,p];exact h b d A y r
theorem QL {e:Nat}{b:List Vu}(h:w.ownsRow B e 1 v n b):∃a c,v=S a n c:=by
 rcases h.2 with ⟨e,d⟩|⟨g,j,f,hv,_⟩
 . rw[d];exact⟨_,_,e⟩
 exact⟨_,_,hv⟩
theorem ownE_grown' {w':J}{e:Nat}{r:Option Nat}{d:List Vu}(h:w.ownsRow B e 1 v n d)(hg:w.grownBy w' r)(a:∀k,v.ownBlock=some k->r≠some k):w'.ownsRow B e 1 v n d:=by
 refine⟨h.1,?_⟩;rcases h.2 with m|⟨g,c,b,hv,l,j,f⟩
 . exact .inl m
 subst hv;exact .inr ⟨g,c,b,rfl,l,(hg.block g (h.lt g rfl).2 (λe=>a g rfl e.symm)).trans j,f⟩
theorem oneI (x:Int):∀u∈[Value.int O x],u.oneCell'=true:=by
 intro u a;simp at a;subst a;rfl
def lenOf (q:Nat)(w:J):Nat:=match w.cell? ⟨q,0,none⟩with|some (S _ n _)=>n|_=>0
theorem Tw.len (h:Tw w q ws bd):lenOf q w=N ws:=by
 obtain⟨a,c,b,-⟩:=h.c0;simp[lenOf,b]
theorem Tw.low {k:J}{bad:Bool}(h:Tw w q ws bad)(d:Bw n w k)(g:q<n):Tw k q ws bad:=by
 obtain⟨a,c,m,j⟩:=h.c0;refine⟨⟨a,c,(d.cell (p:=⟨q,0,none⟩) g).trans m,?_⟩,(d.cell (p:=⟨q,1,none⟩) g).trans h.c1,λi=>(d.frozen (p:=⟨q,i,none⟩) g).trans (h.fz i),h.le⟩;rcases j with j|⟨b,o,e,f,hc,l⟩
 . exact .inl j
 exact .inr ⟨b,o,e,f,hc,λi hi=>(d.cell (p:=⟨b,o+i,none⟩) (show b<n by omega)).trans (l i hi)⟩
theorem c5_low {c:Vu}(h:C5 V B 0 a b c d e)(g:Bw n V V')(f:B<n):C5 V' B 0 a b c d e:=by
 obtain⟨⟨q,o,m,l,k⟩,j⟩:=h;exact⟨⟨(g.cell (p:=⟨B,_,none⟩) f).trans q,(g.cell (p:=⟨B,_,none⟩) f).trans o,(g.cell (p:=⟨B,_,none⟩) f).trans m,(g.cell (p:=⟨B,_,none⟩) f).trans l,(g.cell (p:=⟨B,_,none⟩) f).trans k⟩,λi=>(g.frozen (p:=⟨B,i,none⟩) f).trans (j i)⟩
theorem Bx.low {c:Vu}(h:Bx w q ws bd a b c d e V)(f:Bw (w.heap.size+2) V V'):Bx w q ws bd a b c d e V' :=
 have j:=h.qq
 ⟨c5_low h.x f (by omega),c5_low h.z f (by omega),h.t.low f (by omega),⟨f.os.trans h.g.os,f.tape.trans h.g.tape,f.output.trans h.g.output,Kf h.g.size f.size,λk hk hne=>(f.block k (by omega)).trans (h.g.block k hk hne)⟩,h.v.keep (f.mono (by omega)),j⟩
theorem Bx.sz {c:Vu}(h:Bx w q ws bd a b c d e V):w.heap.size+2<=V.heap.size:=by
 have f:=World.block_lt_of_cell? V _ h.x.1.1;have g:w.heap.size+1<V.heap.size:=f;omega
theorem nms_snoc {v:Int}(h:Nm 0 4294967295 s v):∀(a:List Wd) (vs:List Int),Nms a vs->Nms (a++[s]) (vs++[v])
 |[],[],_=>⟨h,trivial⟩
 |[],_::_,g=>g.elim
 |_::_,[],g=>g.elim
 |_::a,_::vs,g=>⟨g.1,nms_snoc h a vs g.2⟩
theorem nms_ok:∀(c:List Wd) (vs:List Int),Nms c vs->∀s∈c,okN 0 4294967295 s=true
 |[],_,_,s,b=>by cases b
 |_::_,[],g,_,_=>g.elim
 |a::c,v::vs,g,s,b=>by
  rcases List.mem_cons.1 b with rfl|b
  . exact g.1.1
  . exact nms_ok c vs g.2 s b
structure Iv3 (w:J)(q:Nat)(ws:List Wd)(op:Int)(k:Nat)(acc:List Int)(la:Option Ad)(lc:Nat)(bd:Bool)(V:J):Prop where
 al:N acc=k
 kl:k=0\/k<N ws
 b:Bx w q (ws.drop k) bd (U O op) (U O 0) (U O 0) (U Ou 0) (S la (N acc) lc) V
 o:V.ownsRow (w.heap.size+2) 2 1 (S la (N acc) lc) (N acc) (I acc)
 n:bd=false->Nms (ws.take k) acc
 f:(∀s∈ws.take k,okN 0 4294967295 s=true)->bd=false
theorem Iv3.next {j b:Option Ad}{a:Nat}{W:J}{r:List Wd}{v:Int}(h:Iv3 w q ws op k acc j lc bd V)(e:ws.drop k=s::r)(hr:r≠[]) (hx:okN 0 4294967295 s=true->okP s=some v) (o:Bx w q r ((bd || false) || !okN 0 4294967295 s) (U O op) (U O 0) (U O 0) (U Ou 0) (S b (N acc+1) a) W) (l:W.ownsRow (w.heap.size+2) 2 1 (S b (N acc+1) a) (N acc+1) (I acc++[U O v])):Iv3 w q ws op (k+1) (acc++[v]) b a ((bd || false) || !okN 0 4294967295 s) W:=by
 have u:ws.drop (k+1)=r:=by rw[<- List.tail_drop,e];rfl
 have m:k<N ws:=by have:=congrArg Hx e;simp at this;omega
 have g:ws.take (k+1)=ws.take k++[s]:=by rw[List.take_succ,show ws[k]?=some s by rw[<- List.head?_drop,e];rfl];rfl
 have c:k+1<N ws:=by have:=congrArg Hx e;have d:0<N r:=List.length_pos_iff.2 hr;simp at this;omega
 refine⟨by simp[h.al],.inr c,by rw[u];simpa using o,by simpa[I]using l,λhbd=>?_,λhf=>?_⟩
 . simp at hbd;rw[g];exact nms_snoc ⟨hbd.2,hx hbd.2⟩ _ _ (h.n hbd.1)
 rw[g]at hf;have p:=h.f (λt ht=>hf t (by simp[ht]));have d:=hf s (by simp);simp[p,d]
theorem Bx.fin3 {c:Vu}(h:Bx w q ws bd a b c d e V){r:Vu}{p:List Vu}(v:V.ownsRow (w.heap.size+2) 2 1 r n p)(l k j g f:Vu):C5 (((((V.setCell ⟨w.heap.size,0,none⟩ l).setCell ⟨w.heap.size,1,none⟩ k).setCell ⟨w.heap.size,2,none⟩ j).setCell ⟨w.heap.size,3,none⟩ g).setCell ⟨w.heap.size,4,none⟩ f) w.heap.size 0 l k j g f/\Tw (((((V.setCell ⟨w.heap.size,0,none⟩ l).setCell ⟨w.heap.size,1,none⟩ k).setCell ⟨w.heap.size,2,none⟩ j).setCell ⟨w.heap.size,3,none⟩ g).setCell ⟨w.heap.size,4,none⟩ f) q ws bd/\w.grownBy (((((V.setCell ⟨w.heap.size,0,none⟩ l).setCell ⟨w.heap.size,1,none⟩ k).setCell ⟨w.heap.size,2,none⟩ j).setCell ⟨w.heap.size,3,none⟩ g).setCell ⟨w.heap.size,4,none⟩ f) (some q)/\(((((V.setCell ⟨w.heap.size,0,none⟩ l).setCell ⟨w.heap.size,1,none⟩ k).setCell ⟨w.heap.size,2,none⟩ j).setCell ⟨w.heap.size,3,none⟩ g).setCell ⟨w.heap.size,4,none⟩ f).ownsRow w.heap.size 2 1 r n p:=by
 have m:∀o,(⟨w.heap.size,o,none⟩:Ad).block<w.heap.size+2:=λo=>by show w.heap.size<_;omega
 have u:=ownsRow_setCell_below v (m 0) l;have o1:=ownsRow_setCell_below u (m 1) k;have o2:=ownsRow_setCell_below o1 (m 2) j;have t:=ownsRow_setCell_below o2 (m 3) g;have s:=ownsRow_setCell_below t (m 4) f;obtain⟨A,z,y⟩:=h.fin l k j g f;exact⟨A,z,y,s.mono (by omega)⟩
theorem there_3 {c:Option Ad}{v:Int}(h:Iv3 w q ws op k acc c lc bd V)(hx:okN 0 4294967295 ((ws.drop k).headD [])=true->okP ((ws.drop k).headD [])=some v)(a:((bd || (ws.drop k).isEmpty) || !okN 0 4294967295 ((ws.drop k).headD []))=false)(ht:(ws.drop k).tail=[]):Arg 3 ws ⟨op,v,0,0,acc⟩:=by
 rw[arg_3];cases hbd:bd with
 |true=>rw[hbd]at a;simp at a
 |false =>
  rw[hbd]at a;obtain⟨s,e,b⟩:=one_ok a ht
  refine⟨ws.take k,s,acc,v,by rw[<- e];exact(List.take_append_drop k ws).symm,h.n hbd,?_,rfl⟩
  rw[e]at b hx
  exact⟨b,hx b⟩
theorem back_3 {d:Option Ad}(h:Iv3 w q ws op k acc d lc bd V)(hl:¬1<(ws.drop k).length)(a:∃y,Arg 3 ws y):((bd || (ws.drop k).isEmpty) || !okN 0 4294967295 ((ws.drop k).headD []))=false/\(ws.drop k).tail=[]:=by
 obtain⟨y,a⟩:=a;rw[arg_3]at a;obtain⟨c,s,vs,v,rfl,j,g,-⟩:=a;have l:k=N c:=by have m:=h.kl;simp at hl m;omega
 subst l;have b:bd=false:=h.f (by rw[List.take_left'];exact nms_ok _ _ j;rfl);rw[List.drop_left' rfl];exact⟨by simp[b,g.1],rfl⟩
theorem ins_3 (q:Nat)(ws:List Wd)(op:Int)(w:J)(hf:QD (Qe op)=3)(h:Tw w q ws false)(hl:∀x∈ws,N x<=1099511627776)(hV:Vs q w):Ec Q 31 #[Yp (some ⟨q,0,none⟩),U O op] w (InsP 3 op ws w q):=by
 have HF:=Hm (iform_c op);rw[hf]at HF;obtain⟨W,hW⟩:∃W,W=(w.alloc (Fc #[U O 0,U O 0,U O 0,U Ou 0,S none 0 0] 70)).alloc (Fc #[U O op,U O 0,U O 0,U Ou 0,S none 0 0] 70):=⟨_,rfl⟩;obtain⟨hz,hx,Y⟩:=two_box w op;rw[<- hW]at hz hx Y;have HW:=Hm hW;have BX:=Hm (show Bx w q ws false (U O op) (U O 0) (U O 0) (U Ou 0) (S none 0 0) W from⟨hx,hz,h.keep Y,Qu Y,hV.keep (Y.mono (Nat.le_of_lt h.lt)),h.lt⟩);have hq:=h.lt;clear hf hW hz hx Y h hV;go_enter func31,ntmps31;go_wp2_with fail
 rw[<- HW.o];refine(HF.o _).mono ?_;rintro e w2 ⟨rfl,X⟩;have B2:=Hm (BX.o.below X);clear X BX HW HF;obtain⟨i0,hi,ay,ax,aw⟩:=info_parts info2;have ad:=Hm (show Iv3 w q ws op 0 [] none 0 false w2 from⟨rfl,.inl rfl,B2.o,JV _ _,λ_=>trivial,λ_=>rfl⟩);have cc:=B2.o.t.le;clear B2;go_upto_region 11 with fail
 go_loopw [] (λwr=>∃(k:Nat) (acc:List Int) (g:Option Ad) (lc:Nat) (bd:Bool),Iv3 w q ws op k acc g lc bd wr) (λwr=>lenOf q wr)
 case atStart=>exact⟨_,_,_,_,_,ad.o⟩
 obtain⟨k,acc,g,lc,bd,hI⟩:=hrel;have HI:=Hm hI;obtain⟨a,c,h0,-⟩:=hI.b.t.c0;have m:∀x∈ws.drop k,N x<=1099511627776:=λx hx=>hl x (List.mem_of_mem_drop hx);have ce:N acc<=1099511627776:=by have:=hI.kl;have:=hI.al;omega
 clear hI ad;by_cases d:1<(ws.drop k).length
 . obtain⟨s,r,e⟩:∃s r,ws.drop k=s::r:=by
    cases hd:ws.drop k with
    |nil=>rw[hd]at d;simp at d
    |cons s r=>exact⟨s,r,rfl⟩
   (have hr:r≠[]:=by rintro rfl;rw[e]at d;simp at d);have HB:=Hm (HI.o.b.below bFz.drew);rw[e]at HB;have K:=Hm (u32_c q (s::r) bd wr.drew HB.o.t (by rw[<- e];exact m) HB.o.v);have HO:=Hm HI.o.o;have x4:=HI.o.b.x.1.2.2.2.2;have av:=HI.o.b.x.2 4;rw[e]at h0 d;simp only[List.length_cons]at h0 d;simp only[Kk]at x4 av;(have a1:(1:Int)<(N r:Int)+1:=by omega);have A:=Hm (And.intro e hr);clear e hr d m;go_upto_region 12 with fail
   go_region_law (first
    | (
     refine step_append_src rfl (.tmp 33) (.tmp 36) 25 rfl (w.heap.size+2) 2 i0 (U O 0) 1 8 underlying25 hi ay ax aw rfl (by decide) (S g (N acc) lc) (N acc) (I acc) (by simp[Act.eval,Act.put]) (O1.o.alloc _) ⟨w1.heap.size,0,none⟩ 1 1 [U O v] (by simp[Act.eval,Act.put]) rfl (cell_one_new _ _ _) (oneI _) (by unfold maxLen;omega) (by omega) (by simp;omega) ?_
     intro v2 w3 f ab V
     have l:=Hm (B1.o.low ((bFz.alloc (by omega) _).grown ab (by simp;omega) (λj hj=>(O1.o.lt j hj).1)));obtain⟨va,vc,rfl⟩:=QL f;have O3:=Hm f;have y4:=l.o.x.1.2.2.2.2;have au:=l.o.x.2 4
     simp only[Kk]at y4 au
     clear f ab V)
    | (
     go_simp
     refine(K.o).mono ?_
     rintro e w1 ⟨v,rfl,R,y,L⟩;have B1:=Hm (HB.o.call y R);have O1:=Hm (ownE_grown' (w:=wr.drew) (w':=w1) (HO.o) y (λj hj=>by have:=(HO.o.lt j hj).1;simp;omega));have HX:=Hm L;have C:=B1.o.x.1.2.2.2.2;have n:=B1.o.x.2 4;have cd:=B1.o.sz
     simp only[Kk]at C n
     have b4:∀o,(w1.alloc o).cell? ⟨w.heap.size+1,4,none⟩=some (S g (N acc) lc):=fun o=>(Kx (Jy w1 o _ (by show w.heap.size+1<_;omega))).trans C;clear R y L))
   all_goals
    go_simp
    go_roundw
    case rel=>exact⟨_,_,_,_,_,_,_,_,_,_,_,_,_,⟨k+1,acc++[v],va,vc,_,HI.o.next A.o.1 A.o.2 HX.o l.o.set4 (ownsRow_setCell_below O3.o (show w.heap.size+1<_ by omega) _)⟩,rfl⟩
    case measure =>
     have m1:=(l.o.set4 (u:=.slice va (N acc+1) vc)).t.len;have m0:=HI.o.b.t.len;rw[A.o.1]at m0;rw[m1,m0]
     simp
 have HC:=Hm (u32_c q (ws.drop k) bd wr HI.o.b.t m HI.o.b.v);have a0:=Hm d;obtain⟨D,hD⟩:∃D,D=(ws.drop k).length:=⟨_,rfl⟩;rw[<- hD]at h0 d;have a1:¬(1:Int)<(D:Int):=by omega
 clear m d hD;go_wp2_with fail
 refine HC.o.mono ?_;rintro e w3 ⟨v,rfl,M,p,H⟩;have l:=Hm (And.intro (HI.o.b.call p M) (ownE_grown' HI.o.o p (λj hj=>by have:=(HI.o.o.lt j hj).1;simp;omega)));have hx:=Hm H;have F:=l.o.1.x.1.2.1;have E:=l.o.1.x.2 1;simp only[Kk]at F E;clear M p H HC h0;go_upto_region 25 with fail
 refine Qh (λUz0=>Bx w q (ws.drop k).tail ((bd || (ws.drop k).isEmpty) || !okN 0 4294967295 ((ws.drop k).headD [])) (U O op) (U O v) (U O 0) (U Ou 0) (S g (N acc) lc) Uz0/\Uz0.ownsRow (w.heap.size+2) 2 1 (S g (N acc) lc) (N acc) (I acc)) ⟨l.o.1.set1,ownsRow_setCell_below l.o.2 (show w.heap.size+1<_ by omega) _⟩ ?_;rintro U4 ⟨ae,ac⟩;have BU:=Hm ae;have OU:=Hm ac;clear ae ac F E l;obtain⟨⟨x0,F,x2,x3,x4⟩,xf⟩:=BU.o.x;obtain⟨⟨z0,z1,z2,z3,C⟩,B⟩:=BU.o.z;simp only[Kk]at x0 F x2 x3 x4 z0 z1 z2 z3 C;have ar:=B 0;have aq:=B 1;have ao:=B 2;have ak:=B 3;have n:=B 4;clear xf B;go_wp2;refine Qx (λUz0=>C5 Uz0 w.heap.size 0 (U O op) (U O v) (U O 0) (U Ou 0) (S g (N acc) lc)/\Tw Uz0 q (ws.drop k).tail ((bd || (ws.drop k).isEmpty) || !okN 0 4294967295 ((ws.drop k).headD []))/\w.grownBy Uz0 (some q)/\Uz0.ownsRow w.heap.size 2 1 (S g (N acc) lc) (N acc) (I acc)) (BU.o.fin3 OU.o _ _ _ _ _) ?_;rintro Uz0 ⟨⟨⟨t0,t1,t2,t3,t4⟩,-⟩,tU,gU,oU⟩;simp only[Kk]at t0 t1 t2 t3 t4;have HU:=Hm (And.intro tU (And.intro gU oU));clear tU gU oU x0 F x2 x3 x4 z0 z1 z2 z3 C ar aq ao ak n;exact bodyPost_ret (v:=inV ⟨op,v,0,0,acc⟩ g lc) (by simp[results,results31,go_sem,t0,t1,t2,t3,t4]) rfl ⟨⟨op,v,0,0,acc⟩,g,lc,_,_,rfl,rfl,HU.o.2.2,HU.o.1,HU.o.2.1,λh ht=>there_3 HI.o hx.o h ht,λhy=>back_3 HI.o a0.o hy⟩
theorem X9 (op:Int):QD (Qe op)=-1\/QD (Qe op)=0\/QD (Qe op)=1\/QD (Qe op)=2\/QD (Qe op)=3\/QD (Qe op)=4\/QD (Qe op)=5\/QD (Qe op)=6\/QD (Qe op)=7\/QD (Qe op)=8\/QD (Qe op)=9\/QD (Qe op)=10:=by
 by_cases h:0<=op/\op<192
 . have e:=of_decide_eq_true (rng 0 192 (λi=>decide (-1<=QD (tbl.getD i Z0)/\QD (tbl.getD i Z0)<=10)) (by decide +kernel) op (by omega) (by omega));(have a:Qe op=tbl.getD op.toNat Z0:=by simp only[Qe,h,and_self,if_true]);rw[<- a]at e;omega
 have a:Qe op=Z0:=by simp only[Qe,h,if_false]
 rw[a];left;decide
theorem ins_c (q:Nat)(ws:List Wd)(op:Int)(w:J)(h:Tw w q ws false)(hl:∀x∈ws,N x<=1099511627776)(a:Vs q w):Ec Q 31 #[Yp (some ⟨q,0,none⟩),U O op] w (InsP (QD (Qe op)) op ws w q):=by
 rcases X9 op with e|e|e|e|e|e|e|e|e|e|e|e
 . rw[e];exact ins_m1 q ws op w e h hl a
 . rw[e];exact ins_0 q ws op w e h hl a
 . rw[e];exact ins_1 q ws op w e h hl a
 . rw[e];exact ins_2 q ws op w e h hl a
 . rw[e];exact ins_3 q ws op w e h hl a
 . rw[e];exact ins_4 q ws op w e h hl a
 . rw[e];exact ins_5 q ws op w e h hl a
 . rw[e];exact ins_6 q ws op w e h hl a
 . rw[e];exact ins_7 q ws op w e h hl a
 . rw[e];exact ins_8 q ws op w e h hl a
 . rw[e];exact ins_9 q ws op w e h hl a
 rw[e];exact ins_10 q ws op w e h hl a
theorem psplit_ne (l:Wd):Jm l≠[]:=by
 by_cases h:Jb l<N l
 . rw[JO h];simp
 rw[JP h];simp
theorem own_words (h:w.ownsRow B 9 1 v (N ws) (Sv ws))(a:ws≠[]):∃b c,v=S (some ⟨b,0,none⟩) (N ws) c/\b<w.heap.size/\N ws<=c/\∀i,i<N ws->w.cell? ⟨b,0+i,none⟩=some (Xs (Sz0 (ws.getD i []))):=by
 rcases h.2 with ⟨_,j⟩|⟨g,d,k,hv,l,f,hc,_⟩
 . exact absurd (List.eq_nil_of_length_eq_zero j) a
 subst hv;refine⟨g,d,rfl,(Array.getElem?_eq_some_iff.1 f).1,hc,λi hi=>?_⟩;rw[Kk,h.cellAt i (by omega)];simp[Sv,List.getD,hi]
theorem tw_new (h:w.ownsRow B 9 1 v (N ws) (Sv ws))(a:ws≠[])(hl:N ws<=1099511627776):Tw (w.alloc (Fc #[v,G false] 184)) w.heap.size ws false:=by
 obtain⟨b,c,rfl,d,hc,f⟩:=own_words h a;refine⟨⟨_,c,Qn rfl rfl,.inr ⟨b,0,rfl,d,hc,λi hi=>?_⟩⟩,Qn rfl rfl,λi=>?_,hl⟩
 . exact(Kx (Jy w _ b d)).trans (f i hi)
 exact World.frozen?_alloc_new w _ _ i
structure C6 (w:J)(B:Nat)(t a b c d e:Vu):Prop where
 c0:w.cell? ⟨B,0,none⟩=some t
 c1:w.cell? ⟨B,1,none⟩=some a
 c2:w.cell? ⟨B,2,none⟩=some b
 c3:w.cell? ⟨B,3,none⟩=some c
 c4:w.cell? ⟨B,4,none⟩=some d
 c5:w.cell? ⟨B,5,none⟩=some e
 fz:∀i,w.frozen? ⟨B,i,none⟩=false
theorem JF (V:J)(g j:Nat)(u:Vu):V.grownBy (V.setCell ⟨g,j,none⟩ u) (some g) :=
 ⟨rfl,rfl,rfl,by simp,λi hi hne=>Below.heap_setCell _ _ _ _ (λe=>hne (by simp at e;rw[e]))⟩
structure Mo (D:Nat)(w0:J)(rs:List Qb)(V:J):Prop where
 own:Own D V rs
 b:Bw D w0 V
 le:D<=V.heap.size
abbrev box (t n g:Nat)(cs:List Vu):Qb:=⟨t,n,1,S (some ⟨g,0,none⟩) 1 1,cs⟩
section
variable {D:Nat}{w0 V W:J}{rs rs':List Qb}
theorem Mo.perm (h:Mo D w0 rs V)(p:rs.Perm rs'):Mo D w0 rs' V:=⟨h.own.perm p,h.b,h.le⟩
theorem Mo.keep (h:Mo D w0 rs V)(a:Bw V.heap.size V W):Mo D w0 rs W:=⟨h.own.keep a,h.b.trans (a.mono h.le),Kf h.le a.size⟩
theorem Mo.tail (h:Mo D w0 (r::rs) V):Mo D w0 rs V:=⟨h.own.tail,h.b,h.le⟩
theorem Mo.set {sz c:Nat}(h:Mo D w0 (⟨T,sz,n,S (some ⟨g,0,none⟩) n c,cs⟩::rs) V)(j:Nat)(u:Vu):Mo D w0 (⟨T,sz,n,S (some ⟨g,0,none⟩) n c,cs.set j u⟩::rs) (V.setCell ⟨g,j,none⟩ u):=by
 have f:V.ownsRow D T sz (S (some ⟨g,0,none⟩) n c) n cs:=h.own.head;have a:=(World.ownsRow.stored f j u).1;have d:=JF V g j u;have k:=World.ownsRow.lt f g rfl;refine⟨h.own.push (r':=⟨T,sz,n,S (some ⟨g,0,none⟩) n c,cs.set j u⟩) d a (.inl rfl),h.b.setCell k.1 _,by simpa using h.le⟩
theorem Mo.cell {sz c:Nat}(h:Mo D w0 rs V)(d:(⟨T,sz,n,v,cs⟩:Qb)∈rs)(hv:v=S (some ⟨g,0,none⟩) n c){j:Nat}(f:j<n*sz)(b:cs[j]?=some u):V.cell? ⟨g,j,none⟩=some u/\V.frozen? ⟨g,j,none⟩=false:=by
 subst hv;have a:V.ownsRow D T sz (S (some ⟨g,0,none⟩) n c) n cs:=h.own.all _ d;exact⟨(World.ownsRow.cellAt a j f).trans b,World.ownsRow.frozenAt a j⟩
theorem Mo.bx (h:Mo D w0 rs V)(b:box t n g cs∈rs)(j:Nat)(a:cs[j]?=some u:=by exact rfl)(hj:j<n:=by first|decide|omega):V.cell? ⟨g,j,none⟩=some u/\V.frozen? ⟨g,j,none⟩=false:=h.cell b rfl (by omega) a
theorem Mo.b0 (h:Mo D w0 (box t n g cs::rs) V)(j:Nat)(a:cs[j]?=some u:=by exact rfl)(hj:j<n:=by first|decide|omega):V.cell? ⟨g,j,none⟩=some u/\V.frozen? ⟨g,j,none⟩=false:=h.bx (t:=t) (n:=n) (cs:=cs) (by simp) j a hj
theorem Mo.lt {sz c:Nat}(h:Mo D w0 rs V)(a:(⟨T,sz,n,S (some ⟨g,0,none⟩) n c,cs⟩:Qb)∈rs):D<=g/\g<V.heap.size:=World.ownsRow.lt (h.own.all _ a) g rfl
theorem Mo.new {ns}(h:Mo D w0 rs V)(a:Bw V.heap.size V W)(c:Own V.heap.size W ns):Mo D w0 (ns++rs) W:=by
 refine⟨(Own.new h.own (h.own.keep a) c h.le).comm,h.b.trans (a.mono h.le),Kf h.le a.size⟩
theorem Mo.box {cur:Array Vu}(h:Mo D w0 rs V)(e n:Nat)(a:cur.size=n):Mo D w0 (Yz.box e n V.heap.size cur.toList::rs) (V.alloc (Fc cur e)):=by
 have b:Bw V.heap.size V (V.alloc (Fc cur e)):=bFz.alloc lRz _;refine h.new (ns:=[Yz.box e n V.heap.size cur.toList]) b (Own.one ?_);subst a;refine⟨by simp,.inr ⟨V.heap.size,1,cur,rfl,lRz,?_,lRz,by decide,by simp,?_⟩⟩
 . show(V.heap.push _)[V.heap.size]?=_;exact Array.getElem?_push_size
 show cur.toList.take (1*cur.size)=cur.toList;rw[List.take_of_length_le (by simp)]
theorem Mo.swap {r':Qb}(h:Mo D w0 (r::rs) V)(c:r'.Ok D V)(a:r'.v.ownBlock=r.v.ownBlock):Mo D w0 (r'::rs) V :=
 ⟨h.own.push (World.grownBy.refl _ _) c (.inl a),h.b,h.le⟩
theorem Mo.push {r':Qb}{V1}(h:Mo D w0 (r::rs) V)(f:Bw V.heap.size V V1)(d:V1.grownBy W r.v.ownBlock)(own:r'.Ok D W)(c:r'.v.ownBlock=r.v.ownBlock\/r'.v.ownBlock=some V1.heap.size):Mo D w0 (r'::rs) W:=by
 have a:=h.keep f;exact⟨a.own.push d own c,a.b.grown d a.le (λk hk=>(a.own.lt (QF.2 ⟨r,by simp,hk⟩)).1),Kf a.le d.size⟩
end
theorem Jp {P:Program}{b:Func}{d:Ending->J->Prop}{c:Exit}{a:Act}{w0:J}(R:J->Prop)(f:R w0)(h:∀W,R W->bodyPost P b d c a W):bodyPost P b d c a w0:=h w0 f
theorem Mo.words {rs}(h:Mo (q+1) w rs V)(hg:V.grownBy V' (some q)):Own (q+1) V' rs:=h.own.grown hg (λk hk hk2=>by cases hk;have:=(h.own.lt hk2).1;omega)
def lkL (L:List (Wd × Int))(s:Wd):Option Int:=(L.find? (λp=>decide (p.1=s))).map (·.2)
theorem lkL_at (a:k<N L)(h:∀i,i<k->(L.getD i ([],0)).1≠s)(e:(L.getD k ([],0)).1=s):lkL L s=some (L.getD k ([],0)).2:=by
 induction L generalizing k with
 |nil=>simp at a
 |cons p ps ih =>
  cases k with
  |zero =>
   have c:p.1=s:=by simpa using e
   simp[lkL,Dq,c]
  |succ k =>
   have b:p.1≠s:=by have:=h 0 (by omega);simpa using this
   have:=ih (k:=k) (by simpa using a) (λi hi=>by have:=h (i+1) (by omega);simpa using this) (by simpa using e)
   simp only[lkL,Dq,decide_eq_false b]at this⊢
   simpa using this
theorem lkL_no (h:∀i,i<N L->(L.getD i ([],0)).1≠s):lkL L s=none:=by
 induction L with
 |nil=>rfl
 |cons p ps ih =>
  have a:p.1≠s:=by have:=h 0 (by simp);simpa using this
  have:=ih (λi hi=>by have:=h (i+1) (by simpa using hi);simpa using this)
  simp only[lkL,Dq,decide_eq_false a]at this⊢
  exact this
def TbW (w:J)(g:Nat)(L:List (Wd × Int)):Prop:=∀i,i<N L->w.cell? ⟨g,i*2,none⟩=some (Xs (Sz0 (L.getD i ([],0)).1))/\w.cell? ⟨g,i*2+1,none⟩=some (U O (L.getD i ([],0)).2)
theorem TbW.keep {w':J}(h:TbW w g L)(a:w'.heap[g]?=w.heap[g]?):TbW w' g L:=λi hi=>⟨(Kx a).trans (h i hi).1,(Kx a).trans (h i hi).2⟩
theorem oneL_c (q g:Nat)(L:List (Wd × Int))(ws:List Wd)(bad:Bool)(w:J)(h:Tw w q ws bad)(I:TbW w g L)(hg:q<g)(u:g<w.heap.size)(hL:N L<=100):Ec Q 158 #[Yp (some ⟨q,0,none⟩),S (some ⟨g,0,none⟩) (N L) (N L)] w λe w'=>e=Z (U O ((lkL L (ws.headD [])).getD 0))/\Tw w' q ws.tail ((bad || ws.isEmpty) || (lkL L (ws.headD [])).isNone)/\w.grownBy w' (some q):=by
 have M:=Hm (next_g q ws bad w h);have R:=Hm I;clear h I;generalize ws.headD []=s at *;generalize ws.tail=r at *;generalize(bad || ws.isEmpty)=z at *;go_enter func158,ntmps158;go_wp2_with fail
 refine M.o.mono ?_;rintro e A ⟨rfl,H,g1⟩;have D:=Hm H;have F:=Hm g1;have f:=Hm (R.o.keep (g1.block g u (by simp;omega)));have b:g<A.heap.size:=Nat.lt_of_lt_of_le u g1.size;clear H g1 M R;go_wp2;go_loopw [12] (λi wr=>∃k:Nat,k<=N L/\i=U O k/\(∀i,i<k->(L.getD i ([],0)).1≠s)/\Bw A.heap.size A wr) (λi _=>N L-(intOf i).toNat)
 case atStart=>exact⟨0,by omega,rfl,λi hi=>by omega,bFz⟩
 obtain⟨k,hk,rfl,a,c⟩:=hrel;have y:=Hm (D.o.keep c);have V:=Hm (Ql F.o (Qu c));have HB:=Hm c;have E:=Hm a;have C:=c.size;by_cases t:k<N L
 . (have X:(k:Int)<(N L:Int):=by omega);obtain⟨c0,v⟩:=f.o k t;have c0:=(c.cell (p:=⟨g,k*2,none⟩) b).trans c0;have v:=(c.cell (p:=⟨g,k*2+1,none⟩) b).trans v;obtain⟨n,d⟩:∃n,n=L.getD k ([],0):=⟨_,rfl⟩;have j:=Hm d;rw[<- d]at c0 v;clear c a D F f d;by_cases l:n.1=s
   . (have B:((Sz0 n.1).toList==(Sz0 s).toList)=true:=by rw[Xt];simp[l]);have m:=Hm (lkL_at t E.o (by rw[<- j.o];exact l));rw[<- j.o]at m;clear l;go_wp2;go_ret;exact⟨by rw[m.o];rfl,by rw[m.o];simpa using y.o.keep (bFz.alloc lRz _),Ql V.o (Qu (bFz.alloc lRz _))⟩
   (have B:((Sz0 n.1).toList==(Sz0 s).toList)=false:=by rw[Xt];simp[l]);have HE:=Hm l;clear l;go_wp2;go_roundw
   case rel=>exact⟨k+1,by omega,by go_num,fun i hi=>by
    rcases(by omega:i<k\/i=k)with h|h
    . exact E.o i h
    . subst h;rw[<- j.o];exact HE.o,HB.o.alloc C _⟩
   case measure=>simp[intOf];omega
 have e:k=N L:=by omega
 subst e;have m:=Hm (lkL_no E.o);have v:=y.o.c1;have f1:=y.o.fz 1;have Y:=Hm (y.o.flag true);clear c a D F f;go_wp2;go_ret;exact⟨by rw[m.o];rfl,by rw[m.o];simpa using Y.o,Ql V.o (JE _ _ _ _)⟩
def knL:List (Wd × Int):=[([102,117,110,99],0),([116,97,98,108,101],1),([109,101,109,111,114,121],2),([103,108,111,98,97,108],3)]
theorem knL_new (w:J):TbW (w.alloc (Fc #[Xs ⟨#[102,117,110,99]⟩,U O 0,Xs ⟨#[116,97,98,108,101]⟩,U O 1,Xs ⟨#[109,101,109,111,114,121]⟩,U O 2,Xs ⟨#[103,108,111,98,97,108]⟩,U O 3] 243)) w.heap.size knL:=by
 intro i a;have:i=0\/i=1\/i=2\/i=3:=by have:i<4:=a;omega
 rcases this with rfl|rfl|rfl|rfl<;>exact⟨Qn rfl rfl,Qn rfl rfl⟩
theorem knL_c (w:J):Ec Q 194 #[] w λe w'=>e=Z (S (some ⟨w.heap.size,0,none⟩) 4 4)/\w'=w.alloc (Fc #[Xs ⟨#[102,117,110,99]⟩,U O 0,Xs ⟨#[116,97,98,108,101]⟩,U O 1,Xs ⟨#[109,101,109,111,114,121]⟩,U O 2,Xs ⟨#[103,108,111,98,97,108]⟩,U O 3] 243):=by
 go_enter func194,ntmps194;go_wp2;go_ret;exact⟨rfl,rfl⟩
def mtL:List (Wd × Int):=[([99,111,110,115,116],0),([118,97,114],1)]
theorem mtL_new (w:J):TbW (w.alloc (Fc #[Xs ⟨#[99,111,110,115,116]⟩,U O 0,Xs ⟨#[118,97,114]⟩,U O 1] 243)) w.heap.size mtL:=by
 intro i a;have:i=0\/i=1:=by have:i<2:=a;omega
 rcases this with rfl|rfl<;>exact⟨Qn rfl rfl,Qn rfl rfl⟩
theorem mtL_c (w:J):Ec Q 159 #[] w λe w'=>e=Z (S (some ⟨w.heap.size,0,none⟩) 2 2)/\w'=w.alloc (Fc #[Xs ⟨#[99,111,110,115,116]⟩,U O 0,Xs ⟨#[118,97,114]⟩,U O 1] 243):=by
 go_enter func159,ntmps159;go_wp2;go_ret;exact⟨rfl,rfl⟩
theorem kind_c (q:Nat)(ws:List Wd)(bad:Bool)(w:J)(h:Tw w q ws bad):Ec Q 151 #[Yp (some ⟨q,0,none⟩)] w λe w'=>e=Z (U O ((lkL knL (ws.headD [])).getD 0))/\Tw w' q ws.tail ((bad || ws.isEmpty) || (lkL knL (ws.headD [])).isNone)/\w.grownBy w' (some q):=by
 have m:=h.lt;obtain⟨W,b⟩:∃W,W=w.alloc (Fc #[Xs ⟨#[102,117,110,99]⟩,U O 0,Xs ⟨#[116,97,98,108,101]⟩,U O 1,Xs ⟨#[109,101,109,111,114,121]⟩,U O 2,Xs ⟨#[103,108,111,98,97,108]⟩,U O 3] 243):=⟨_,rfl⟩;have c:Bw w.heap.size w W:=by rw[b];exact bFz.alloc lRz _
 have K:=Hm (oneL_c q w.heap.size knL ws bad W (h.keep c) (by rw[b];exact knL_new w) m (by rw[b];simp) (by decide));rw[show(N knL)=4 from rfl]at K;have g:=Hm (knL_c w);have k:=Hm c;have j:=Hm b;clear h c b;generalize ws.headD []=s at *;go_enter func151,ntmps151;go_wp2_with fail
 refine g.o.mono ?_;rintro e l ⟨rfl,a⟩;obtain rfl:l=W:=a.trans j.o.symm;clear a j g;go_wp2_with fail
 refine K.o.mono ?_;rintro e r ⟨rfl,d,f⟩;have n:=Hm d;have p:=Hm (Ql (Qu k.o) f);clear d f K k;go_wp2;go_ret;exact⟨rfl,n.o,p.o⟩
structure Rd (q:Nat)(w:J)(rs:List Qb)(ws:List Wd)(bad:Bool)(V:J):Prop where
 own:Own w.heap.size V rs
 tw:Tw V q ws bad
 gr:w.grownBy V (some q)
 lt:q<w.heap.size
section
variable {q:Nat}{w V V':J}{rs rs':List Qb}{ws ws':List Wd}{bad bad':Bool}
theorem Rd.start (h:Tw w q ws bad):Rd q w [] ws bad w:=⟨Own.nil _ _,h,World.grownBy.refl _ _,h.lt⟩
theorem Rd.call (h:Rd q w rs ws bad V)(ht:Tw V' q ws' bad')(hg:V.grownBy V' (some q)):Rd q w rs ws' bad' V':=⟨h.own.grown hg (λk hk hk2=>by cases hk;have:=(h.own.lt hk2).1;have:=h.lt;omega),ht,Ql h.gr hg,h.lt⟩
theorem Rd.below (h:Rd q w rs ws bad V)(a:Bw V.heap.size V V'):Rd q w rs ws bad V':=h.call (h.tw.keep a) (Qu a)
theorem Rd.box {cur:Array Vu}(h:Rd q w rs ws bad V)(e n:Nat)(b:cur.size=n):Rd q w (Yz.box e n V.heap.size cur.toList::rs) ws bad (V.alloc (Fc cur e)):=by
 have d:Bw V.heap.size V (V.alloc (Fc cur e)):=bFz.alloc lRz _;have a:=h.below d;have c:Mo w.heap.size V rs V:=⟨h.own,bFz,h.gr.size⟩;exact⟨(c.box (cur:=cur) e n b).own,a.tw,a.gr,a.lt⟩
theorem Rd.perm (h:Rd q w rs ws bad V)(p:rs.Perm rs'):Rd q w rs' ws bad V:=⟨h.own.perm p,h.tw,h.gr,h.lt⟩
theorem Rd.tail (h:Rd q w (r::rs) ws bad V):Rd q w rs ws bad V:=⟨h.own.tail,h.tw,h.gr,h.lt⟩
theorem Rd.b0 (h:Rd q w (Yz.box t n g cs::rs) ws bad V)(j:Nat)(a:cs[j]?=some u:=by exact rfl)(hj:j<n:=by first|decide|omega):V.cell? ⟨g,j,none⟩=some u/\V.frozen? ⟨g,j,none⟩=false:=(⟨h.own,bFz,h.gr.size⟩:Mo w.heap.size V (Yz.box t n g cs::rs) V).b0 j a hj
theorem Rd.set (h:Rd q w (Yz.box t n g cs::rs) ws bad V)(j:Nat)(u:Vu):Rd q w (Yz.box t n g (cs.set j u)::rs) ws bad (V.setCell ⟨g,j,none⟩ u):=by
 have a:Mo w.heap.size V (Yz.box t n g cs::rs) V:=⟨h.own,bFz,h.gr.size⟩;have d:w.heap.size<=g:=(a.lt (T:=t) (sz:=n) (n:=1) (c:=1) (cs:=cs) (mS ..)).1;have b:=h.lt;refine⟨(a.set j u).own,h.tw.far (by omega),JI h.gr d j u,b⟩
end
