import Derived.Deep.RegionWith
import Derived.Deep.RegionHeld3
import Derived.Test.YtaccbbndmmhenaaGreatGae
import Derived.Test.YtaccbbndmmhenaaGreatGaf
import Derived.Test.YtaccbbndmmhenaaGreatGag
import Derived.ScopeJumps
import Derived.Laws.IdiomStrings
import Derived.Laws.AppendOwn
import Derived.Deep.RegionLaw
import Derived.Laws.StructEq
import Derived.LaidEql
import Derived.RangeFuncNested
import Derived.RangeFuncBound
import Derived.RangeFuncCalls
import Derived.RangeFuncLeaves
import Derived.Shelf.Abstract
import Derived.Shelf.RegionOpen
import Derived.OwnWalkIn
import Derived.TacticsInMore
import Derived.LoopNIn
import Derived.LoopIn
set_option linter.all false
set_option maxHeartbeats 400000000
set_option maxRecDepth 100000
namespace Go.Proofs
open Value renaming int->U,slice->S,bool->G,pointer->Yp,string->Xs,agg->Ag,nilIface->Nf,iface->If
open IntKind renaming i64->O,u64->Ou
open Ending renaming returned->Z
open Obj renaming cells->Fc
open Go renaming World->J,Calls->Ec,Value->Vu,Addr->Ad
open Go.RowKit renaming Below->Bw
open Tryz renaming prog->Q
open Tryz
open List renaming dropLast_concat_getLast->Hy,map_append->Tf,map_cons->Hp,map_nil->Lm,getElem?_eq_none->Hq,getElem?_eq_getElem->Kj,drop_eq_getElem_cons->Tw,getD->Kx,append_assoc->Kv,getElem?_append_right->Tb,map_toArray->Rn,perm_iff_count->Kn,count_cons->Th,length->N
open Nat renaming lt_of_lt_of_le->Km,zero_le->Kw,lt_succ_self->Mg,lt_or_ge->Lc,lt_trans->Ef,zero_add->Tx,le_trans->Kq
open World renaming frozen?_setCell->Kb,block_lt_of_cell?->Kk,frozen?_alloc_new->Tm
open Option renaming getD_some->Lf
open _root_.Array renaming getElem?_eq_getElem->Ld,getElem?_push_size->Lw
open Region renaming wanted->Tj
open Value renaming ownBlock->Tg,slice->Tv
open Act renaming eval->Tc,put->Hw
open Result renaming andThen_ok->Hc
open IntKind renaming wrap_i64->Kz
namespace YtaccbbndmmhenaaGreat
open Go.RowKit Go.Sort
variable {a:Act}{Qz0:Exit->Act->J->Prop}{w w':J}{xs:List In}{B g b B' l:Nat}{P:Program}{v:Vu}
theorem good_c (x:In)(la)(a:Nat)(w)(hv:0<=x.v)(b:N x.l<=1099511627776)(c:Has w la x.l):Ec Q 187 #[inV x la a] w λe w'=>e=Z (G (gd x))/\Bw w.heap.size w w':=by
 rcases form_range x.op with h|h|h|h|h|h|h|h|h|h|h|h
 . simp only[gd,h];exact sgood_m1 x la a w h hv
 . simp only[gd,h];exact sgood_0 x la a w h hv
 . simp only[gd,h];exact sgood_1 x la a w h hv
 . simp only[gd,h];exact sgood_2 x la a w h hv
 . simp only[gd,h];exact sgood_3 x la a w h hv b c
 . simp only[gd,h];exact sgood_4 x la a w h hv
 . simp only[gd,h];exact sgood_5 x la a w h hv
 . simp only[gd,h];exact sgood_6 x la a w h hv
 . simp only[gd,h];exact sgood_7 x la a w h hv
 . simp only[gd,h];exact sgood_8 x la a w h hv
 . simp only[gd,h];exact sgood_9 x la a w h hv
 simp only[gd,h];exact sgood_10 x la a w h hv
theorem stepM_e (n m:List Bool)(z:Bool)(h:n=m++[z]):QB n 5=if z then some (m++[false])else none:=by
 subst h;cases z<;>simp[QB]
theorem stepM_x (n m:List Bool)(z:Bool)(h:n=m++[z]):QB n 11=some m:=by
 subst h;simp[QB]
def bi (b:Bool):Int:=if b then 1 else 0
def Ge (n:List Bool):List Int:=n.tail.map bi
def hdF (n:List Bool):Prop:=n=[]\/∃m,n=false::m
theorem ksOf_cons (m:List Bool):Ge (false::m)=m.map bi:=rfl
theorem sl {n:Nat}{b:List Vu}(h:w.ownsRow B 2 1 v n b):∃va vn vc,v=S va vn vc:=by
 obtain⟨a,c,e⟩:=QH h;exact⟨a,_,c,e⟩
def Ans (n:List Bool)(op:Int)(kv':Vu)(dn bd:Bool)(B:Nat)(w':J):Prop:=(QB n op=none/\bd=true)\/∃n',QB n op=some n'/\hdF n'/\bd=false/\dn=n'.isEmpty/\w'.ownsRow B 2 1 kv' (Ge n').length (I (Ge n'))
theorem next_c (B:Nat)(kv:Vu)(n:List Bool)(op:Int)(w:J)(f:B<=w.heap.size)(s:N n<=4194304)(hd:hdF n)(h:w.ownsRow B 2 1 kv (Ge n).length (I (Ge n))):Ec Q 188 #[opV kv n.isEmpty false,U O op] w λe w'=>∃va vn vc dn bd,e=Z (opV (S va vn vc) dn bd)/\Ans n op (S va vn vc) dn bd B w'/\Bw B w w':=by
 refine Calls.mono (R:=λe w'=>∃kv' dn bd,e=Z (opV kv' dn bd)/\(∃va vn vc,kv'=S va vn vc)/\Ans n op kv' dn bd B w'/\Bw B w w') ?_ (λe w' ⟨kv',dn,bd,p,⟨va,vn,vc,o⟩,l,k⟩=>by subst o;exact⟨va,vn,vc,dn,bd,p,l,k⟩);rcases hd with rfl|⟨m,rfl⟩
 . exact(next_done B kv _ op w f h).mono λe w' ⟨va,vn,vc,a,b⟩=>⟨_,_,_,a,⟨va,vn,vc,rfl⟩,.inl ⟨by simp[QB],rfl⟩,b⟩
 have d:N m<=4194304:=by simp at s;omega
 rw[ksOf_cons]at h;show Ec Q 188 #[opV kv false false,U O op] w _;by_cases p:op=2\/op=3
 . (have e:QB (false::m) op=some (false::(m++[false])):=by simp[QB,p]);(have j:∀kv' (w':J),w'.ownsRow B 2 1 kv' (m.map bi++[0]).length (I (m.map bi++[0]))->w'.ownsRow B 2 1 kv' (Ge (false::(m++[false]))).length (I (Ge (false::(m++[false])))):=λkv' w' q=>by(have:Ge (false::(m++[false]))=m.map bi++[0]:=by simp[Ge,bi]);rw[this];exact q);rcases p with rfl|rfl
   . exact(next_2 B kv _ w f (by simpa using d) h).mono λe' w' ⟨kv',a,b,c⟩=>⟨kv',_,_,a,sl b,.inr ⟨_,e,.inr ⟨_,rfl⟩,rfl,rfl,j kv' w' b⟩,c⟩
   exact(next_3 B kv _ w f (by simpa using d) h).mono λe' w' ⟨kv',a,b,c⟩=>⟨kv',_,_,a,sl b,.inr ⟨_,e,.inr ⟨_,rfl⟩,rfl,rfl,j kv' w' b⟩,c⟩
 by_cases o:op=4
 . subst o;(have e:QB (false::m) 4=some (false::(m++[true])):=by simp[QB]);refine(next_4 B kv _ w f (by simpa using d) h).mono λe' w' ⟨kv',a,b,c⟩=>⟨kv',_,_,a,sl b,.inr ⟨_,e,.inr ⟨_,rfl⟩,rfl,rfl,?_⟩,c⟩;(have:Ge (false::(m++[true]))=m.map bi++[1]:=by simp[Ge,bi]);rw[this];exact b
 by_cases l:op=5
 . subst l;by_cases g:m=[]
   . subst g;exact(next_5n B kv w f h).mono λe' w' ⟨va,vn,vc,a,b⟩=>⟨_,_,_,a,⟨va,vn,vc,rfl⟩,.inl ⟨by simp[QB],rfl⟩,b⟩
   obtain⟨q,z,rfl⟩:∃q z,m=q++[z]:=⟨m.dropLast,m.getLast g,(Hy g).symm⟩;(have r:N q<=4194304:=by simp at d;omega);rw[Tf,Hp,Lm]at h;cases z
   . exact(next_5z B kv _ _ w f (by simpa using r) rfl h).mono λe' w' ⟨va,vn,vc,a,b⟩=>⟨_,_,_,a,⟨va,vn,vc,rfl⟩,.inl ⟨stepM_e _ (false::q) false rfl,rfl⟩,b⟩
   have e:QB (false::(q++[true])) 5=some (false::(q++[false])):=stepM_e _ (false::q) true rfl;refine(next_5 B kv _ _ w f (by simpa using r) (by decide) h).mono λe' w' ⟨kv',a,b,c⟩=>⟨kv',_,_,a,sl b,.inr ⟨_,e,.inr ⟨_,rfl⟩,rfl,rfl,?_⟩,c⟩;(have:Ge (false::(q++[false]))=q.map bi++[0]:=by simp[Ge,bi]);rw[this];exact b
 by_cases k:op=11
 . subst k;by_cases g:m=[]
   . subst g;(have e:QB [false] 11=some []:=by simp[QB]);exact(next_11n B kv w f h).mono λe' w' ⟨kv',a,b,c⟩=>⟨kv',_,_,a,sl b,.inr ⟨_,e,.inl rfl,rfl,rfl,b⟩,c⟩
   obtain⟨q,z,rfl⟩:∃q z,m=q++[z]:=⟨m.dropLast,m.getLast g,(Hy g).symm⟩;(have r:N q<=4194304:=by simp at d;omega);rw[Tf,Hp,Lm]at h;have e:QB (false::(q++[z])) 11=some (false::q):=stepM_x _ (false::q) z rfl;exact(next_11 B kv _ _ w f (by simpa using r) h).mono λe' w' ⟨kv',a,b,c⟩=>⟨kv',_,_,a,sl b,.inr ⟨_,e,.inr ⟨_,rfl⟩,rfl,rfl,b⟩,c⟩
 have e:QB (false::m) op=some (false::m):=by simp only[QB,p,o,l,k,if_false];simp
 exact(next_same B kv _ op w f (by omega) (by omega) o l k h).mono λe' w' ⟨kv',a,b,c⟩=>⟨kv',_,_,a,sl b,.inr ⟨_,e,.inr ⟨_,rfl⟩,rfl,rfl,b⟩,c⟩
structure So (g:Nat)(kv:Vu)(n:List Bool)(w:J):Prop where
 c0:w.cell? ⟨g,0,none⟩=some kv
 c1:w.cell? ⟨g,1,none⟩=some (G n.isEmpty)
 c2:w.cell? ⟨g,2,none⟩=some (G false)
 fz:∀i,w.frozen? ⟨g,i,none⟩=false
 own:w.ownsRow (g+1) 2 1 kv (Ge n).length (I (Ge n))
 lt:g<w.heap.size
theorem So.keep {kv:Vu}{n:List Bool}{w1:J}(h:So g kv n w)(a:Bw w.heap.size w w1):So g kv n w1 :=
 ⟨(a.cell (p:=⟨g,0,none⟩) h.lt).trans h.c0,(a.cell (p:=⟨g,1,none⟩) h.lt).trans h.c1,(a.cell (p:=⟨g,2,none⟩) h.lt).trans h.c2,λi=>(a.frozen (p:=⟨g,i,none⟩) h.lt).trans (h.fz i),own_keep h.own a (own_lt h.own),Km h.lt a.size⟩
theorem So.drew {kv:Vu}{n:List Bool}(h:So g kv n w):So g kv n w.drew:=⟨h.c0,h.c1,h.c2,h.fz,h.own,h.lt⟩
theorem So.set {kv a:Vu}{d:List Bool}{b:J}{m l k:Vu}(j:b.cell? ⟨g,0,none⟩=some m)(p:b.cell? ⟨g,1,none⟩=some l)(o:b.cell? ⟨g,2,none⟩=some k)(n:∀i,b.frozen? ⟨g,i,none⟩=false)(f:b.ownsRow (g+1) 2 1 a (Ge d).length (I (Ge d))):So g a d (((b.setCell ⟨g,0,none⟩ a).setCell ⟨g,1,none⟩ (G d.isEmpty)).setCell ⟨g,2,none⟩ (G false)):=by
 have c:a.ownBlock≠some g:=λe=>by have:=(f.lt g e).1;omega
 refine⟨QE (QE (QS j) (by omega)) (by omega),QE (QS (QE p (by omega))) (by omega),QS (QE (QE o (by omega)) (by omega)),λi=>by simp only[Kb];exact n i,Jh (Jh (Jh f c) c) c,?_⟩;have:=Kk b _ j;simpa using this
theorem so_start (w:J):So w.heap.size (S none 0 0) [false] (w.alloc (Fc #[S none 0 0,G false,G false] 291)) :=
 ⟨Qe rfl rfl,Qe rfl rfl,Qe rfl rfl,λi=>Tm _ _ _ _,World.ownsRow_nil _ _ _ _,by simp⟩
theorem sclosed_c (a:Option Ad)(c:Nat)(xs:List In)(w:J)(hn:N xs<=1048576)(hl:∀i,i<N xs->(xs.getD i I0).l.length<=1048576)(hv:∀i,0<=(xs.getD i I0).v)(hL:Lst w a xs):Ec Q 127 #[S a (N xs) c] w λe w'=>e=Z (G (QF xs))/\Bw w.heap.size w w':=by
 have HL:=Hm hL;have Hl:=Hm hl;have Hv:=Hm hv;clear hL hl hv;have HS:=Hm (so_start w);go_enter func127,ntmps127;go_wp2_with fail
 go_loopw [4] (λi wr=>∃(k:Nat) (n:List Bool) (kv:Vu),k<=N xs/\i=U O k/\So w.heap.size kv n wr/\hdF n/\Bw w.heap.size w wr/\QF xs=goM n (xs.drop k)/\N n<=k+1) (λi _=>N xs-(intOf i).toNat)
 case atStart=>exact⟨0,[false],_,Kw _,rfl,HS.o,.inr ⟨_,rfl⟩,bFz.alloc lRz _,rfl,by simp⟩
 obtain⟨k,n,kv,hk,rfl,E,hd,H,u,a8⟩:=hrel;clear HS;by_cases j:k<N xs
 . (have a9:(k:Int)<(N xs:Int):=by omega);rcases HL.o with F|⟨b,o,ea,hc⟩
   . subst F;simp at j
   (have a4:b<w.heap.size:=by obtain⟨la,lc,y,_⟩:=hc k j;exact Kk w _ y);obtain⟨la,lc,y,c1,c2,c3,c4,c5⟩:=(hc k j).keep H;have ae:=Kk wr _ y;subst ea;rw[JP xs k j]at u;have V:=Hl.o k j;have A:=Hv.o k;obtain⟨x,F⟩:∃x,x=xs.getD k I0:=⟨_,rfl⟩;rw[<- F]at y c1 c2 c3 c4 c5 u V A;have HI:=Hm (good_c x la lc wr A (by omega) c5);have SO:=Hm E;have L:=Hm H;have D:=Hm u;have HD:=Hm hd;clear F hc c5 E H u hd HL Hl Hv;generalize X:gd x=gx at *;cases gx
   . (go_wp2_with fail);refine HI.o.mono ?_;rintro e z ⟨rfl,f⟩;have ab:Bw w.heap.size w z:=L.o.trans (f.mono L.o.size);clear f;go_wp2;go_ret;exact⟨by rw[D.o];simp[goM,X],ab⟩
   (go_wp2_with fail);refine HI.o.mono ?_;rintro e z ⟨rfl,f⟩;have d:=SO.o.keep f;have C:Bw w.heap.size w z:=L.o.trans (f.mono L.o.size);have d0:z.cell? ⟨b,o+k*5,none⟩=some (U O x.op):=(f.cell (p:=⟨b,o+k*5,none⟩) ae).trans y;have f0:=d.c0;have f1:=d.c1;have f2:=d.c2;have ff:=d.fz;obtain⟨R,M,rfl⟩:=QH d.own;have NS:=Hm (λ(W:J) (hw:So w.heap.size (S R (Ge n).length M) n W)=>next_c (w.heap.size+1) (S R (Ge n).length M) n x.op W hw.lt (by omega) HD.o hw.own);have q:=Hm d;have s:=Hm C;clear f HI SO y c1 c2 c3 c4 d C;go_wp2;go_region_with (refine(NS.o _ (by first|exact q.o|exact q.o.drew|exact q.o.drew.drew)).mono ?_;rintro e t ⟨va,vn,vc,dn,bd,rfl,af,m⟩;have g0:t.cell? ⟨w.heap.size,0,none⟩=some (S R (Ge n).length M):=(m.cell (p:=⟨w.heap.size,0,none⟩) (Mg _)).trans f0;have g1:t.cell? ⟨w.heap.size,1,none⟩=some (G n.isEmpty):=(m.cell (p:=⟨w.heap.size,1,none⟩) (Mg _)).trans f1;have g2:t.cell? ⟨w.heap.size,2,none⟩=some (G false):=(m.cell (p:=⟨w.heap.size,2,none⟩) (Mg _)).trans f2;have gf:∀i,t.frozen? ⟨w.heap.size,i,none⟩=false:=λi=>(m.frozen (p:=⟨w.heap.size,i,none⟩) (Mg _)).trans (ff i))
   all_goals
    have I:Bw w.heap.size w (((t.setCell ⟨w.heap.size,0,none⟩ (S va vn vc)).setCell ⟨w.heap.size,1,none⟩ (G dn)).setCell ⟨w.heap.size,2,none⟩ (G bd)):=((((s.o.trans (⟨m.os,m.tape,m.output,m.size,λk hk=>m.block k (by omega)⟩:Bw w.heap.size z t))).setCell lRz _).setCell lRz _).setCell lRz _
    rcases af with ⟨g,r⟩|⟨n',g,B,r,Y,ho⟩
    . subst r;have B5:=Hm I;clear m I NS q s
      go_wp2
      go_ret
      exact⟨by rw[D.o];simp[goM,X,g],B5.o⟩
    . subst r Y;have S3:=Hm (So.set (kv:=S va vn vc) g0 g1 g2 gf ho);have B5:=Hm I;have ao:=Hm B;have ay:=stepM_len g
      have aj:Hid (QF xs=goM n' (xs.drop (k+1))):=by
       show QF xs=_
       rw[D.o];simp[goM,X,g]
      clear m I NS q s ho B HD g
      go_wp2
      go_roundw
      case rel=>exact⟨k+1,n',_,by omega,by go_num,S3.o,ao.o,B5.o,aj.o,by omega⟩
      case measure=>simp[intOf];omega
 have e:k=N xs:=by omega
 subst e;have c1:=E.c1;have D:Hid (QF xs=n.isEmpty):=by show QF xs=_;rw[u,List.drop_of_length_le lRz];cases n<;>simp[goM]
 clear u E HL Hl Hv;generalize n.isEmpty=dd at *;go_wp2;go_ret;exact⟨by rw[D.o];rfl,H⟩
def Up (B:Nat)(w w':J):Prop:=∀k,B<=k->k<w.heap.size->w'.heap[k]?=w.heap[k]?
theorem Up.cell {o:Nat}{w w'}(u:Up B w w')(a:B<=b)(h:w.cell? ⟨b,o,none⟩=some v):w'.cell? ⟨b,o,none⟩=some v :=
 (World.cell?_of_block (u b a (Kk w _ h))).trans h
theorem up_below {w w'}(h:Bw w.heap.size w w'):Up B w w':=λk _ hk=>h.block k hk
theorem Q8 {o:Nat}(h:g<B):Up B w (w.setCell ⟨g,o,none⟩ v):=λk hk _=>Below.heap_setCell _ _ _ _ (λe=>by simp at e;omega)
theorem Up.size_trans {B w w' w''}(h:Up B w w')(k:Up B w' w'')(a:w.heap.size<=w'.heap.size):Up B w w'':=λj hj hl=>(k j hj (by omega)).trans (h j hj hl)
def HI (k:IntKind)(B:Nat)(w:J)(a:Option Ad)(xs:List Int):Prop:=xs=[]\/∃b off,a=some ⟨b,off,none⟩/\B<=b/\∀i,i<N xs->w.cell? ⟨b,off+i,none⟩=some (U k (xs.getD i 0))
theorem HI.up {k:IntKind}{B w w' a xs}(h:HI k B w a xs)(u:Up B w w'):HI k B w' a xs:=by
 rcases h with h|⟨b,o,e,c,d⟩
 . exact .inl h
 exact .inr ⟨b,o,e,c,λi hi=>u.cell c (d i hi)⟩
theorem HI.mono {k:IntKind}{w a xs}(h:HI k B w a xs)(f:B'<=B):HI k B' w a xs:=by
 rcases h with h|⟨b,o,e,d,c⟩
 . exact .inl h
 exact .inr ⟨b,o,e,by omega,c⟩
theorem HI.has {B w a xs}(h:HI O B w a xs):Has w a xs:=by
 rcases h with h|⟨b,o,e,d,c⟩
 . exact .inl h
 exact .inr ⟨b,o,e,c⟩
structure Qd where
 min:Int
 max:Int
 has:Bool
variable {x:Qd}
def Qd.z:Qd:=⟨0,0,false⟩
def Qd.Is (B:Nat)(w:J)(x:Qd):Prop:=True
def Qd.At (B:Nat)(w:J)(b o:Nat)(x:Qd):Prop:=(w.cell? ⟨b,o,none⟩=some (U O x.min)/\w.cell? ⟨b,o+1,none⟩=some (U O x.max)/\w.cell? ⟨b,o+2,none⟩=some (G x.has))/\Qd.Is B w x
def Qd.Ls (B:Nat)(w:J)(a:Option Ad)(xs:List Qd):Prop:=xs=[]\/∃b off,a=some ⟨b,off,none⟩/\B<=b/\∀i,i<N xs->Qd.At B w b (off+i*3) (xs.getD i Qd.z)
theorem Qd.Is.up (h:Qd.Is B w x)(u:Up B w w'):Qd.Is B w' x:=h
theorem Qd.Is.mono (h:Qd.Is B w x)(a:B'<=B):Qd.Is B' w x:=h
theorem Qd.At.up {o:Nat}(h:Qd.At B w b o x)(u:Up B w w')(a:B<=b):Qd.At B w' b o x:=by
 obtain⟨⟨f,d,c⟩,hi⟩:=h;exact⟨⟨u.cell a f,u.cell a d,u.cell a c⟩,hi.up u⟩
theorem Qd.At.mono {o:Nat}(h:Qd.At B w b o x)(c:B'<=B):Qd.At B' w b o x:=by
 obtain⟨a,hi⟩:=h;exact⟨a,hi.mono c⟩
theorem Qd.Ls.up {a:Option Ad}{xs:List Qd}(h:Qd.Ls B w a xs)(u:Up B w w'):Qd.Ls B w' a xs:=by
 rcases h with h|⟨b,o,e,c,d⟩
 . exact .inl h
 exact .inr ⟨b,o,e,c,λi hi=>(d i hi).up u c⟩
theorem Qd.Ls.mono {a:Option Ad}{xs:List Qd}(h:Qd.Ls B w a xs)(d:B'<=B):Qd.Ls B' w a xs:=by
 rcases h with h|⟨b,o,e,f,c⟩
 . exact .inl h
 exact .inr ⟨b,o,e,by omega,λi hi=>(c i hi).mono d⟩
def Qd.LB (Nz0:Nat)(x:Qd):Prop:=True
structure Qx where
 ty:Int
 mu:Bool
def Qx.z:Qx:=⟨0,false⟩
def Qx.Is (B:Nat)(w:J)(x:Qx):Prop:=True
def Qx.LB (Nz0:Nat)(x:Qx):Prop:=True
structure Qc where
 ps:List Int
 rs:List Int
def Qc.z:Qc:=⟨[],[]⟩
def Qc.Is (B:Nat)(w:J)(x:Qc)(a1:Option Ad)(a2:Option Ad):Prop:=HI O B w a1 x.ps/\HI O B w a2 x.rs
def Qc.At (B:Nat)(w:J)(b o:Nat)(x:Qc):Prop:=∃a1 c1 a2 c2,(w.cell? ⟨b,o,none⟩=some (S a1 (N x.ps) c1)/\w.cell? ⟨b,o+1,none⟩=some (S a2 (N x.rs) c2))/\Qc.Is B w x a1 a2
def Qc.Ls (B:Nat)(w:J)(a:Option Ad)(xs:List Qc):Prop:=xs=[]\/∃b off,a=some ⟨b,off,none⟩/\B<=b/\∀i,i<N xs->Qc.At B w b (off+i*2) (xs.getD i Qc.z)
theorem Qc.Is.up {x:Qc}{b:Option Ad}{a:Option Ad}(h:Qc.Is B w x b a)(u:Up B w w'):Qc.Is B w' x b a:=by
 obtain⟨d,c⟩:=h;exact⟨d.up u,c.up u⟩
theorem Qc.Is.mono {x:Qc}{c:Option Ad}{b:Option Ad}(h:Qc.Is B w x c b)(a:B'<=B):Qc.Is B' w x c b:=by
 obtain⟨f,d⟩:=h;exact⟨f.mono a,d.mono a⟩
theorem Qc.At.up {o:Nat}{x:Qc}(h:Qc.At B w b o x)(u:Up B w w')(a:B<=b):Qc.At B w' b o x:=by
 obtain⟨k,g,j,f,⟨d,c⟩,hi⟩:=h;exact⟨k,g,j,f,⟨u.cell a d,u.cell a c⟩,hi.up u⟩
theorem Qc.At.mono {o:Nat}{x:Qc}(h:Qc.At B w b o x)(c:B'<=B):Qc.At B' w b o x:=by
 obtain⟨j,f,g,d,a,hi⟩:=h;exact⟨j,f,g,d,a,hi.mono c⟩
theorem Qc.Ls.up {a:Option Ad}{xs:List Qc}(h:Qc.Ls B w a xs)(u:Up B w w'):Qc.Ls B w' a xs:=by
 rcases h with h|⟨b,o,e,c,d⟩
 . exact .inl h
 exact .inr ⟨b,o,e,c,λi hi=>(d i hi).up u c⟩
theorem Qc.Ls.mono {a:Option Ad}{xs:List Qc}(h:Qc.Ls B w a xs)(d:B'<=B):Qc.Ls B' w a xs:=by
 rcases h with h|⟨b,o,e,f,c⟩
 . exact .inl h
 exact .inr ⟨b,o,e,by omega,λi hi=>(c i hi).mono d⟩
def Qc.LB (Nz0:Nat)(x:Qc):Prop:=N x.ps<=Nz0/\N x.rs<=Nz0
def In.Is (B:Nat)(w:J)(x:In)(a1:Option Ad):Prop:=HI O B w a1 x.l
def In.At (B:Nat)(w:J)(b o:Nat)(x:In):Prop:=∃a1 c1,(w.cell? ⟨b,o,none⟩=some (U O x.op)/\w.cell? ⟨b,o+1,none⟩=some (U O x.a)/\w.cell? ⟨b,o+2,none⟩=some (U O x.b)/\w.cell? ⟨b,o+3,none⟩=some (U Ou x.v)/\w.cell? ⟨b,o+4,none⟩=some (S a1 (N x.l) c1))/\In.Is B w x a1
def In.Ls (B:Nat)(w:J)(a:Option Ad)(xs:List In):Prop:=xs=[]\/∃b off,a=some ⟨b,off,none⟩/\B<=b/\∀i,i<N xs->In.At B w b (off+i*5) (xs.getD i I0)
theorem In.Is.up {x:In}{a:Option Ad}(h:In.Is B w x a)(u:Up B w w'):In.Is B w' x a:=by
 have b:=h;exact HI.up b u
theorem In.Is.mono {x:In}{a:Option Ad}(h:In.Is B w x a)(b:B'<=B):In.Is B' w x a:=by
 have c:=h;exact HI.mono c b
theorem In.At.up {o:Nat}{x:In}(h:In.At B w b o x)(u:Up B w w')(a:B<=b):In.At B w' b o x:=by
 obtain⟨l,k,⟨j,g,f,d,c⟩,hi⟩:=h;exact⟨l,k,⟨u.cell a j,u.cell a g,u.cell a f,u.cell a d,u.cell a c⟩,hi.up u⟩
theorem In.At.mono {o:Nat}{x:In}(h:In.At B w b o x)(c:B'<=B):In.At B' w b o x:=by
 obtain⟨f,d,a,hi⟩:=h;exact⟨f,d,a,hi.mono c⟩
theorem In.Ls.up {a:Option Ad}(h:In.Ls B w a xs)(u:Up B w w'):In.Ls B w' a xs:=by
 rcases h with h|⟨b,o,e,c,d⟩
 . exact .inl h
 exact .inr ⟨b,o,e,c,λi hi=>(d i hi).up u c⟩
theorem In.Ls.mono {a:Option Ad}(h:In.Ls B w a xs)(d:B'<=B):In.Ls B' w a xs:=by
 rcases h with h|⟨b,o,e,f,c⟩
 . exact .inl h
 exact .inr ⟨b,o,e,by omega,λi hi=>(c i hi).mono d⟩
def In.LB (Nz0:Nat)(x:In):Prop:=N x.l<=Nz0
structure Imp where
 mod:ByteArray
 nm:ByteArray
 kind:Int
 ty:Int
 lim:Qd
 gl:Qx
def Imp.z:Imp:=⟨⟨#[]⟩,⟨#[]⟩,0,0,Qd.z,Qx.z⟩
def Imp.Is (B:Nat)(w:J)(x:Imp):Prop:=True
def Imp.At (B:Nat)(w:J)(b o:Nat)(x:Imp):Prop:=(w.cell? ⟨b,o,none⟩=some (Xs x.mod)/\w.cell? ⟨b,o+1,none⟩=some (Xs x.nm)/\w.cell? ⟨b,o+2,none⟩=some (U O x.kind)/\w.cell? ⟨b,o+3,none⟩=some (U O x.ty)/\w.cell? ⟨b,o+4,none⟩=some (U O x.lim.min)/\w.cell? ⟨b,o+5,none⟩=some (U O x.lim.max)/\w.cell? ⟨b,o+6,none⟩=some (G x.lim.has)/\w.cell? ⟨b,o+7,none⟩=some (U O x.gl.ty)/\w.cell? ⟨b,o+8,none⟩=some (G x.gl.mu))/\Imp.Is B w x
def Imp.Ls (B:Nat)(w:J)(a:Option Ad)(xs:List Imp):Prop:=xs=[]\/∃b off,a=some ⟨b,off,none⟩/\B<=b/\∀i,i<N xs->Imp.At B w b (off+i*9) (xs.getD i Imp.z)
theorem Imp.Is.up {x:Imp}(h:Imp.Is B w x)(u:Up B w w'):Imp.Is B w' x:=h
theorem Imp.Is.mono {x:Imp}(h:Imp.Is B w x)(a:B'<=B):Imp.Is B' w x:=h
theorem Imp.At.up {o:Nat}{x:Imp}(h:Imp.At B w b o x)(u:Up B w w')(a:B<=b):Imp.At B w' b o x:=by
 obtain⟨⟨n,m,l,k,j,g,f,d,c⟩,hi⟩:=h;exact⟨⟨u.cell a n,u.cell a m,u.cell a l,u.cell a k,u.cell a j,u.cell a g,u.cell a f,u.cell a d,u.cell a c⟩,hi.up u⟩
theorem Imp.At.mono {o:Nat}{x:Imp}(h:Imp.At B w b o x)(c:B'<=B):Imp.At B' w b o x:=by
 obtain⟨a,hi⟩:=h;exact⟨a,hi.mono c⟩
theorem Imp.Ls.up {a:Option Ad}{xs:List Imp}(h:Imp.Ls B w a xs)(u:Up B w w'):Imp.Ls B w' a xs:=by
 rcases h with h|⟨b,o,e,c,d⟩
 . exact .inl h
 exact .inr ⟨b,o,e,c,λi hi=>(d i hi).up u c⟩
theorem Imp.Ls.mono {a:Option Ad}{xs:List Imp}(h:Imp.Ls B w a xs)(d:B'<=B):Imp.Ls B' w a xs:=by
 rcases h with h|⟨b,o,e,f,c⟩
 . exact .inl h
 exact .inr ⟨b,o,e,by omega,λi hi=>(c i hi).mono d⟩
def Imp.LB (Nz0:Nat)(x:Imp):Prop:=x.mod.size<=Nz0/\x.nm.size<=Nz0
structure Qm where
 ty:Qx
 ini:List In
def Qm.z:Qm:=⟨Qx.z,[]⟩
def Qm.Is (B:Nat)(w:J)(x:Qm)(a1:Option Ad):Prop:=In.Ls B w a1 x.ini
def Qm.At (B:Nat)(w:J)(b o:Nat)(x:Qm):Prop:=∃a1 c1,(w.cell? ⟨b,o,none⟩=some (U O x.ty.ty)/\w.cell? ⟨b,o+1,none⟩=some (G x.ty.mu)/\w.cell? ⟨b,o+2,none⟩=some (S a1 (N x.ini) c1))/\Qm.Is B w x a1
def Qm.Ls (B:Nat)(w:J)(a:Option Ad)(xs:List Qm):Prop:=xs=[]\/∃b off,a=some ⟨b,off,none⟩/\B<=b/\∀i,i<N xs->Qm.At B w b (off+i*3) (xs.getD i Qm.z)
theorem Qm.Is.up {x:Qm}{a:Option Ad}(h:Qm.Is B w x a)(u:Up B w w'):Qm.Is B w' x a:=by
 have b:=h;exact In.Ls.up b u
theorem Qm.Is.mono {x:Qm}{a:Option Ad}(h:Qm.Is B w x a)(b:B'<=B):Qm.Is B' w x a:=by
 have c:=h;exact In.Ls.mono c b
theorem Qm.At.up {o:Nat}{x:Qm}(h:Qm.At B w b o x)(u:Up B w w')(a:B<=b):Qm.At B w' b o x:=by
 obtain⟨j,g,⟨f,d,c⟩,hi⟩:=h;exact⟨j,g,⟨u.cell a f,u.cell a d,u.cell a c⟩,hi.up u⟩
theorem Qm.At.mono {o:Nat}{x:Qm}(h:Qm.At B w b o x)(c:B'<=B):Qm.At B' w b o x:=by
 obtain⟨f,d,a,hi⟩:=h;exact⟨f,d,a,hi.mono c⟩
theorem Qm.Ls.up {a:Option Ad}{xs:List Qm}(h:Qm.Ls B w a xs)(u:Up B w w'):Qm.Ls B w' a xs:=by
 rcases h with h|⟨b,o,e,c,d⟩
 . exact .inl h
 exact .inr ⟨b,o,e,c,λi hi=>(d i hi).up u c⟩
theorem Qm.Ls.mono {a:Option Ad}{xs:List Qm}(h:Qm.Ls B w a xs)(d:B'<=B):Qm.Ls B' w a xs:=by
 rcases h with h|⟨b,o,e,f,c⟩
 . exact .inl h
 exact .inr ⟨b,o,e,by omega,λi hi=>(c i hi).mono d⟩
def Qm.LB (Nz0:Nat)(x:Qm):Prop:=(N x.ini<=Nz0/\∀i,i<N x.ini->In.LB Nz0 (x.ini.getD i I0))
structure Exp where
 nm:ByteArray
 kind:Int
 ix:Int
def Exp.z:Exp:=⟨⟨#[]⟩,0,0⟩
def Exp.Is (B:Nat)(w:J)(x:Exp):Prop:=True
def Exp.At (B:Nat)(w:J)(b o:Nat)(x:Exp):Prop:=(w.cell? ⟨b,o,none⟩=some (Xs x.nm)/\w.cell? ⟨b,o+1,none⟩=some (U O x.kind)/\w.cell? ⟨b,o+2,none⟩=some (U O x.ix))/\Exp.Is B w x
def Exp.Ls (B:Nat)(w:J)(a:Option Ad)(xs:List Exp):Prop:=xs=[]\/∃b off,a=some ⟨b,off,none⟩/\B<=b/\∀i,i<N xs->Exp.At B w b (off+i*3) (xs.getD i Exp.z)
theorem Exp.Is.up {x:Exp}(h:Exp.Is B w x)(u:Up B w w'):Exp.Is B w' x:=h
theorem Exp.Is.mono {x:Exp}(h:Exp.Is B w x)(a:B'<=B):Exp.Is B' w x:=h
theorem Exp.At.up {o:Nat}{x:Exp}(h:Exp.At B w b o x)(u:Up B w w')(a:B<=b):Exp.At B w' b o x:=by
 obtain⟨⟨f,d,c⟩,hi⟩:=h;exact⟨⟨u.cell a f,u.cell a d,u.cell a c⟩,hi.up u⟩
theorem Exp.At.mono {o:Nat}{x:Exp}(h:Exp.At B w b o x)(c:B'<=B):Exp.At B' w b o x:=by
 obtain⟨a,hi⟩:=h;exact⟨a,hi.mono c⟩
theorem Exp.Ls.up {a:Option Ad}{xs:List Exp}(h:Exp.Ls B w a xs)(u:Up B w w'):Exp.Ls B w' a xs:=by
 rcases h with h|⟨b,o,e,c,d⟩
 . exact .inl h
 exact .inr ⟨b,o,e,c,λi hi=>(d i hi).up u c⟩
theorem Exp.Ls.mono {a:Option Ad}{xs:List Exp}(h:Exp.Ls B w a xs)(d:B'<=B):Exp.Ls B' w a xs:=by
 rcases h with h|⟨b,o,e,f,c⟩
 . exact .inl h
 exact .inr ⟨b,o,e,by omega,λi hi=>(c i hi).mono d⟩
def Exp.LB (Nz0:Nat)(x:Exp):Prop:=x.nm.size<=Nz0
structure Ele where
 off:List In
 fs:List Int
def Ele.z:Ele:=⟨[],[]⟩
def Ele.Is (B:Nat)(w:J)(x:Ele)(a1:Option Ad)(a2:Option Ad):Prop:=In.Ls B w a1 x.off/\HI O B w a2 x.fs
def Ele.At (B:Nat)(w:J)(b o:Nat)(x:Ele):Prop:=∃a1 c1 a2 c2,(w.cell? ⟨b,o,none⟩=some (S a1 (N x.off) c1)/\w.cell? ⟨b,o+1,none⟩=some (S a2 (N x.fs) c2))/\Ele.Is B w x a1 a2
def Ele.Ls (B:Nat)(w:J)(a:Option Ad)(xs:List Ele):Prop:=xs=[]\/∃b off,a=some ⟨b,off,none⟩/\B<=b/\∀i,i<N xs->Ele.At B w b (off+i*2) (xs.getD i Ele.z)
theorem Ele.Is.up {x:Ele}{b:Option Ad}{a:Option Ad}(h:Ele.Is B w x b a)(u:Up B w w'):Ele.Is B w' x b a:=by
 obtain⟨d,c⟩:=h;exact⟨d.up u,c.up u⟩
theorem Ele.Is.mono {x:Ele}{c:Option Ad}{b:Option Ad}(h:Ele.Is B w x c b)(a:B'<=B):Ele.Is B' w x c b:=by
 obtain⟨f,d⟩:=h;exact⟨f.mono a,d.mono a⟩
theorem Ele.At.up {o:Nat}{x:Ele}(h:Ele.At B w b o x)(u:Up B w w')(a:B<=b):Ele.At B w' b o x:=by
 obtain⟨k,g,j,f,⟨d,c⟩,hi⟩:=h;exact⟨k,g,j,f,⟨u.cell a d,u.cell a c⟩,hi.up u⟩
theorem Ele.At.mono {o:Nat}{x:Ele}(h:Ele.At B w b o x)(c:B'<=B):Ele.At B' w b o x:=by
 obtain⟨j,f,g,d,a,hi⟩:=h;exact⟨j,f,g,d,a,hi.mono c⟩
theorem Ele.Ls.up {a:Option Ad}{xs:List Ele}(h:Ele.Ls B w a xs)(u:Up B w w'):Ele.Ls B w' a xs:=by
 rcases h with h|⟨b,o,e,c,d⟩
 . exact .inl h
 exact .inr ⟨b,o,e,c,λi hi=>(d i hi).up u c⟩
theorem Ele.Ls.mono {a:Option Ad}{xs:List Ele}(h:Ele.Ls B w a xs)(d:B'<=B):Ele.Ls B' w a xs:=by
 rcases h with h|⟨b,o,e,f,c⟩
 . exact .inl h
 exact .inr ⟨b,o,e,by omega,λi hi=>(c i hi).mono d⟩
def Ele.LB (Nz0:Nat)(x:Ele):Prop:=(N x.off<=Nz0/\∀i,i<N x.off->In.LB Nz0 (x.off.getD i I0))/\N x.fs<=Nz0
structure Grp where
 n:Int
 ty:Int
def Grp.z:Grp:=⟨0,0⟩
def Grp.Is (B:Nat)(w:J)(x:Grp):Prop:=True
def Grp.At (B:Nat)(w:J)(b o:Nat)(x:Grp):Prop:=(w.cell? ⟨b,o,none⟩=some (U O x.n)/\w.cell? ⟨b,o+1,none⟩=some (U O x.ty))/\Grp.Is B w x
def Grp.Ls (B:Nat)(w:J)(a:Option Ad)(xs:List Grp):Prop:=xs=[]\/∃b off,a=some ⟨b,off,none⟩/\B<=b/\∀i,i<N xs->Grp.At B w b (off+i*2) (xs.getD i Grp.z)
theorem Grp.Is.up {x:Grp}(h:Grp.Is B w x)(u:Up B w w'):Grp.Is B w' x:=h
theorem Grp.Is.mono {x:Grp}(h:Grp.Is B w x)(a:B'<=B):Grp.Is B' w x:=h
theorem Grp.At.up {o:Nat}{x:Grp}(h:Grp.At B w b o x)(u:Up B w w')(a:B<=b):Grp.At B w' b o x:=by
 obtain⟨⟨d,c⟩,hi⟩:=h;exact⟨⟨u.cell a d,u.cell a c⟩,hi.up u⟩
theorem Grp.At.mono {o:Nat}{x:Grp}(h:Grp.At B w b o x)(c:B'<=B):Grp.At B' w b o x:=by
 obtain⟨a,hi⟩:=h;exact⟨a,hi.mono c⟩
theorem Grp.Ls.up {a:Option Ad}{xs:List Grp}(h:Grp.Ls B w a xs)(u:Up B w w'):Grp.Ls B w' a xs:=by
 rcases h with h|⟨b,o,e,c,d⟩
 . exact .inl h
 exact .inr ⟨b,o,e,c,λi hi=>(d i hi).up u c⟩
theorem Grp.Ls.mono {a:Option Ad}{xs:List Grp}(h:Grp.Ls B w a xs)(d:B'<=B):Grp.Ls B' w a xs:=by
 rcases h with h|⟨b,o,e,f,c⟩
 . exact .inl h
 exact .inr ⟨b,o,e,by omega,λi hi=>(c i hi).mono d⟩
def Grp.LB (Nz0:Nat)(x:Grp):Prop:=True
structure Cod where
 gq:List Grp
 body:List In
def Cod.z:Cod:=⟨[],[]⟩
def Cod.Is (B:Nat)(w:J)(x:Cod)(a1:Option Ad)(a2:Option Ad):Prop:=Grp.Ls B w a1 x.gq/\In.Ls B w a2 x.body
def Cod.At (B:Nat)(w:J)(b o:Nat)(x:Cod):Prop:=∃a1 c1 a2 c2,(w.cell? ⟨b,o,none⟩=some (S a1 (N x.gq) c1)/\w.cell? ⟨b,o+1,none⟩=some (S a2 (N x.body) c2))/\Cod.Is B w x a1 a2
def Cod.Ls (B:Nat)(w:J)(a:Option Ad)(xs:List Cod):Prop:=xs=[]\/∃b off,a=some ⟨b,off,none⟩/\B<=b/\∀i,i<N xs->Cod.At B w b (off+i*2) (xs.getD i Cod.z)
theorem Cod.Is.up {x:Cod}{b:Option Ad}{a:Option Ad}(h:Cod.Is B w x b a)(u:Up B w w'):Cod.Is B w' x b a:=by
 obtain⟨d,c⟩:=h;exact⟨d.up u,c.up u⟩
theorem Cod.Is.mono {x:Cod}{c:Option Ad}{b:Option Ad}(h:Cod.Is B w x c b)(a:B'<=B):Cod.Is B' w x c b:=by
 obtain⟨f,d⟩:=h;exact⟨f.mono a,d.mono a⟩
theorem Cod.At.up {o:Nat}{x:Cod}(h:Cod.At B w b o x)(u:Up B w w')(a:B<=b):Cod.At B w' b o x:=by
 obtain⟨k,g,j,f,⟨d,c⟩,hi⟩:=h;exact⟨k,g,j,f,⟨u.cell a d,u.cell a c⟩,hi.up u⟩
theorem Cod.At.mono {o:Nat}{x:Cod}(h:Cod.At B w b o x)(c:B'<=B):Cod.At B' w b o x:=by
 obtain⟨j,f,g,d,a,hi⟩:=h;exact⟨j,f,g,d,a,hi.mono c⟩
theorem Cod.Ls.up {a:Option Ad}{xs:List Cod}(h:Cod.Ls B w a xs)(u:Up B w w'):Cod.Ls B w' a xs:=by
 rcases h with h|⟨b,o,e,c,d⟩
 . exact .inl h
 exact .inr ⟨b,o,e,c,λi hi=>(d i hi).up u c⟩
theorem Cod.Ls.mono {a:Option Ad}{xs:List Cod}(h:Cod.Ls B w a xs)(d:B'<=B):Cod.Ls B' w a xs:=by
 rcases h with h|⟨b,o,e,f,c⟩
 . exact .inl h
 exact .inr ⟨b,o,e,by omega,λi hi=>(c i hi).mono d⟩
def Cod.LB (Nz0:Nat)(x:Cod):Prop:=(N x.gq<=Nz0/\∀i,i<N x.gq->Grp.LB Nz0 (x.gq.getD i Grp.z))/\(N x.body<=Nz0/\∀i,i<N x.body->In.LB Nz0 (x.body.getD i I0))
structure Dat where
 off:List In
 bs:List Int
def Dat.z:Dat:=⟨[],[]⟩
def Dat.Is (B:Nat)(w:J)(x:Dat)(a1:Option Ad)(a2:Option Ad):Prop:=In.Ls B w a1 x.off/\HI .u8 B w a2 x.bs
def Dat.At (B:Nat)(w:J)(b o:Nat)(x:Dat):Prop:=∃a1 c1 a2 c2,(w.cell? ⟨b,o,none⟩=some (S a1 (N x.off) c1)/\w.cell? ⟨b,o+1,none⟩=some (S a2 (N x.bs) c2))/\Dat.Is B w x a1 a2
def Dat.Ls (B:Nat)(w:J)(a:Option Ad)(xs:List Dat):Prop:=xs=[]\/∃b off,a=some ⟨b,off,none⟩/\B<=b/\∀i,i<N xs->Dat.At B w b (off+i*2) (xs.getD i Dat.z)
theorem Dat.Is.up {x:Dat}{b:Option Ad}{a:Option Ad}(h:Dat.Is B w x b a)(u:Up B w w'):Dat.Is B w' x b a:=by
 obtain⟨d,c⟩:=h;exact⟨d.up u,c.up u⟩
theorem Dat.Is.mono {x:Dat}{c:Option Ad}{b:Option Ad}(h:Dat.Is B w x c b)(a:B'<=B):Dat.Is B' w x c b:=by
 obtain⟨f,d⟩:=h;exact⟨f.mono a,d.mono a⟩
theorem Dat.At.up {o:Nat}{x:Dat}(h:Dat.At B w b o x)(u:Up B w w')(a:B<=b):Dat.At B w' b o x:=by
 obtain⟨k,g,j,f,⟨d,c⟩,hi⟩:=h;exact⟨k,g,j,f,⟨u.cell a d,u.cell a c⟩,hi.up u⟩
theorem Dat.At.mono {o:Nat}{x:Dat}(h:Dat.At B w b o x)(c:B'<=B):Dat.At B' w b o x:=by
 obtain⟨j,f,g,d,a,hi⟩:=h;exact⟨j,f,g,d,a,hi.mono c⟩
theorem Dat.Ls.up {a:Option Ad}{xs:List Dat}(h:Dat.Ls B w a xs)(u:Up B w w'):Dat.Ls B w' a xs:=by
 rcases h with h|⟨b,o,e,c,d⟩
 . exact .inl h
 exact .inr ⟨b,o,e,c,λi hi=>(d i hi).up u c⟩
theorem Dat.Ls.mono {a:Option Ad}{xs:List Dat}(h:Dat.Ls B w a xs)(d:B'<=B):Dat.Ls B' w a xs:=by
 rcases h with h|⟨b,o,e,f,c⟩
 . exact .inl h
 exact .inr ⟨b,o,e,by omega,λi hi=>(c i hi).mono d⟩
def Dat.LB (Nz0:Nat)(x:Dat):Prop:=(N x.off<=Nz0/\∀i,i<N x.off->In.LB Nz0 (x.off.getD i I0))/\N x.bs<=Nz0
structure Cus where
 aft:Int
 nm:ByteArray
 bs:List Int
def Cus.z:Cus:=⟨0,⟨#[]⟩,[]⟩
def Cus.Is (B:Nat)(w:J)(x:Cus)(a1:Option Ad):Prop:=HI .u8 B w a1 x.bs
def Cus.At (B:Nat)(w:J)(b o:Nat)(x:Cus):Prop:=∃a1 c1,(w.cell? ⟨b,o,none⟩=some (U O x.aft)/\w.cell? ⟨b,o+1,none⟩=some (Xs x.nm)/\w.cell? ⟨b,o+2,none⟩=some (S a1 (N x.bs) c1))/\Cus.Is B w x a1
def Cus.Ls (B:Nat)(w:J)(a:Option Ad)(xs:List Cus):Prop:=xs=[]\/∃b off,a=some ⟨b,off,none⟩/\B<=b/\∀i,i<N xs->Cus.At B w b (off+i*3) (xs.getD i Cus.z)
theorem Cus.Is.up {x:Cus}{a:Option Ad}(h:Cus.Is B w x a)(u:Up B w w'):Cus.Is B w' x a:=by
 have b:=h;exact HI.up b u
theorem Cus.Is.mono {x:Cus}{a:Option Ad}(h:Cus.Is B w x a)(b:B'<=B):Cus.Is B' w x a:=by
 have c:=h;exact HI.mono c b
theorem Cus.At.up {o:Nat}{x:Cus}(h:Cus.At B w b o x)(u:Up B w w')(a:B<=b):Cus.At B w' b o x:=by
 obtain⟨j,g,⟨f,d,c⟩,hi⟩:=h;exact⟨j,g,⟨u.cell a f,u.cell a d,u.cell a c⟩,hi.up u⟩
theorem Cus.At.mono {o:Nat}{x:Cus}(h:Cus.At B w b o x)(c:B'<=B):Cus.At B' w b o x:=by
 obtain⟨f,d,a,hi⟩:=h;exact⟨f,d,a,hi.mono c⟩
theorem Cus.Ls.up {a:Option Ad}{xs:List Cus}(h:Cus.Ls B w a xs)(u:Up B w w'):Cus.Ls B w' a xs:=by
 rcases h with h|⟨b,o,e,c,d⟩
 . exact .inl h
 exact .inr ⟨b,o,e,c,λi hi=>(d i hi).up u c⟩
theorem Cus.Ls.mono {a:Option Ad}{xs:List Cus}(h:Cus.Ls B w a xs)(d:B'<=B):Cus.Ls B' w a xs:=by
 rcases h with h|⟨b,o,e,f,c⟩
 . exact .inl h
 exact .inr ⟨b,o,e,by omega,λi hi=>(c i hi).mono d⟩
def Cus.LB (Nz0:Nat)(x:Cus):Prop:=x.nm.size<=Nz0/\N x.bs<=Nz0
structure Mod where
 types:List Qc
 cj:List Imp
 jk:List Int
 cw:List Qd
 jz:List Qd
 ck:List Qm
 cv:List Exp
 gz:Bool
 start:Int
 fq:List Ele
 fj:List Cod
 fx:List Dat
 fw:List Cus
def Mod.Is (B:Nat)(w:J)(x:Mod)(a1:Option Ad)(a2:Option Ad)(a3:Option Ad)(a4:Option Ad)(a5:Option Ad)(a6:Option Ad)(a7:Option Ad)(a8:Option Ad)(a9:Option Ad)(a10:Option Ad)(a11:Option Ad):Prop:=Qc.Ls B w a1 x.types/\Imp.Ls B w a2 x.cj/\HI O B w a3 x.jk/\Qd.Ls B w a4 x.cw/\Qd.Ls B w a5 x.jz/\Qm.Ls B w a6 x.ck/\Exp.Ls B w a7 x.cv/\Ele.Ls B w a8 x.fq/\Cod.Ls B w a9 x.fj/\Dat.Ls B w a10 x.fx/\Cus.Ls B w a11 x.fw
def Mod.At (B:Nat)(w:J)(b o:Nat)(x:Mod):Prop:=∃a1 c1 a2 c2 a3 c3 a4 c4 a5 c5 a6 c6 a7 c7 a8 c8 a9 c9 a10 c10 a11 c11,(w.cell? ⟨b,o,none⟩=some (S a1 (N x.types) c1)/\w.cell? ⟨b,o+1,none⟩=some (S a2 (N x.cj) c2)/\w.cell? ⟨b,o+2,none⟩=some (S a3 (N x.jk) c3)/\w.cell? ⟨b,o+3,none⟩=some (S a4 (N x.cw) c4)/\w.cell? ⟨b,o+4,none⟩=some (S a5 (N x.jz) c5)/\w.cell? ⟨b,o+5,none⟩=some (S a6 (N x.ck) c6)/\w.cell? ⟨b,o+6,none⟩=some (S a7 (N x.cv) c7)/\w.cell? ⟨b,o+7,none⟩=some (G x.gz)/\w.cell? ⟨b,o+8,none⟩=some (U O x.start)/\w.cell? ⟨b,o+9,none⟩=some (S a8 (N x.fq) c8)/\w.cell? ⟨b,o+10,none⟩=some (S a9 (N x.fj) c9)/\w.cell? ⟨b,o+11,none⟩=some (S a10 (N x.fx) c10)/\w.cell? ⟨b,o+12,none⟩=some (S a11 (N x.fw) c11))/\Mod.Is B w x a1 a2 a3 a4 a5 a6 a7 a8 a9 a10 a11
theorem Mod.Is.up {x:Mod}{p:Option Ad}{o:Option Ad}{n:Option Ad}{m:Option Ad}{l:Option Ad}{k:Option Ad}{j:Option Ad}{g:Option Ad}{f:Option Ad}{b:Option Ad}{a:Option Ad}(h:Mod.Is B w x p o n m l k j g f b a)(u:Up B w w'):Mod.Is B w' x p o n m l k j g f b a:=by
 obtain⟨C,A,z,y,v,t,s,r,q,d,c⟩:=h;exact⟨C.up u,A.up u,z.up u,y.up u,v.up u,t.up u,s.up u,r.up u,q.up u,d.up u,c.up u⟩
theorem Mod.Is.mono {x:Mod}{q:Option Ad}{p:Option Ad}{o:Option Ad}{n:Option Ad}{m:Option Ad}{l:Option Ad}{k:Option Ad}{j:Option Ad}{g:Option Ad}{c:Option Ad}{b:Option Ad}(h:Mod.Is B w x q p o n m l k j g c b)(a:B'<=B):Mod.Is B' w x q p o n m l k j g c b:=by
 obtain⟨C,A,z,y,v,u,t,s,r,f,d⟩:=h;exact⟨C.mono a,A.mono a,z.mono a,y.mono a,v.mono a,u.mono a,t.mono a,s.mono a,r.mono a,f.mono a,d.mono a⟩
def Mod.LB (Nz0:Nat)(x:Mod):Prop:=(N x.types<=Nz0/\∀i,i<N x.types->Qc.LB Nz0 (x.types.getD i Qc.z))/\(N x.cj<=Nz0/\∀i,i<N x.cj->Imp.LB Nz0 (x.cj.getD i Imp.z))/\N x.jk<=Nz0/\(N x.cw<=Nz0/\∀i,i<N x.cw->Qd.LB Nz0 (x.cw.getD i Qd.z))/\(N x.jz<=Nz0/\∀i,i<N x.jz->Qd.LB Nz0 (x.jz.getD i Qd.z))/\(N x.ck<=Nz0/\∀i,i<N x.ck->Qm.LB Nz0 (x.ck.getD i Qm.z))/\(N x.cv<=Nz0/\∀i,i<N x.cv->Exp.LB Nz0 (x.cv.getD i Exp.z))/\(N x.fq<=Nz0/\∀i,i<N x.fq->Ele.LB Nz0 (x.fq.getD i Ele.z))/\(N x.fj<=Nz0/\∀i,i<N x.fj->Cod.LB Nz0 (x.fj.getD i Cod.z))/\(N x.fx<=Nz0/\∀i,i<N x.fx->Dat.LB Nz0 (x.fx.getD i Dat.z))/\(N x.fw<=Nz0/\∀i,i<N x.fw->Cus.LB Nz0 (x.fw.getD i Cus.z))
theorem In.Ls.lst {a:Option Ad}(h:In.Ls B w a xs):Lst w a xs:=by
 rcases h with h|⟨b,o,e,n,k⟩
 . exact .inl h
 refine .inr ⟨b,o,e,λi hi=>?_⟩;obtain⟨m,l,⟨j,g,f,d,c⟩,hi⟩:=k i hi;exact⟨m,l,j,g,f,d,c,HI.has hi⟩
theorem info5:(Q.info? 5).map (λi=>(i.zero,i.size,i.bytes))=some (some (U .u8 0),1,1):=by kernel_rfl
def Bk (W:J)(g:Nat)(cs:List Vu):Prop:=g<W.heap.size/\(∀j v,cs[j]?=some v->W.cell? ⟨g,j,none⟩=some v)/\∀j,W.frozen? ⟨g,j,none⟩=false
theorem Bk.keep {W W' g cs}(h:Bk W g cs)(a:Bw W.heap.size W W'):Bk W' g cs :=
 ⟨Km h.1 a.size,λj v hj=>(a.cell (p:=⟨g,j,none⟩) h.1).trans (h.2.1 j v hj),λj=>(a.frozen (p:=⟨g,j,none⟩) h.1).trans (h.2.2 j)⟩
theorem Bk.new {cs:List Vu}{t:TypeId}:Bk (w.alloc (Fc cs.toArray t)) w.heap.size cs :=
 ⟨by simp,λj v hj=>Qe rfl (by simpa using hj),λj=>Tm _ _ _ _⟩
theorem Bk.past {w g cs}{o:Obj}(h:Bk w g cs):Bk (w.alloc o) g cs:=h.keep (bFz.alloc lRz _)
theorem Bk.other {W}{b o:Nat}{cs}(h:Bk W g cs)(a:b≠g):Bk (W.setCell ⟨b,o,none⟩ v) g cs :=
 ⟨by simpa using h.1,λj u hj=>by rw[World.cell?_setCell_other _ _ _ _ (λe=>a (congrArg Addr.block e))];exact h.2.1 j u hj,λj=>by rw[Kb];exact h.2.2 j⟩
theorem Bk.set {W}{j:Nat}{cs}(h:Bk W g cs):Bk (W.setCell ⟨g,j,none⟩ v) g (cs.set j v):=by
 refine⟨by simpa using h.1,λi u hi=>?_,λi=>by rw[Kb];exact h.2.2 i⟩;by_cases e:j=i
 . subst e;have b:j<N cs:=by
    rcases Lc j (N cs)with a|a
    . exact a
    rw[Hq (by simpa using a)]at hi;cases hi
   rw[List.getElem?_set_self b]at hi;cases hi;exact QS (h.2.1 j _ (Kj b))
 rw[List.getElem?_set_ne e]at hi;exact QE (h.2.1 i u hi) e
open Go.RowKit
def HasB (w:J)(a:Option Ad)(xs:List Int):Prop:=xs=[]\/∃b off,a=some ⟨b,off,none⟩/\∀i,i<N xs->w.cell? ⟨b,off+i,none⟩=some (U .u8 (xs.getD i 0))
def ldN (c:Int):Int:=if c<128 then 0 else if c<194 then -1 else if c<224 then 1 else if c<240 then 2 else if c<245 then 3 else -1
def Jj (c:Int):Int:=if c<194 then 0 else if c<224 then 128 else if c<225 then 160 else if c<240 then 128 else if c<241 then 144 else if c<245 then 128 else 0
def Jk (c:Int):Int:=if c<194 then 0 else if c<237 then 191 else if c<238 then 159 else if c<244 then 191 else if c<245 then 143 else 0
theorem ldN_bd (c:Int):-1<=ldN c/\ldN c<=3:=by unfold ldN;omega
def uf:Nat->Int->Int->Nat->List Int->Int
 |0,_,_,_,[]=>-1
 |0,_,_,p,c::cs=>if ldN c<0 then p else uf (ldN c).toNat (Jj c) (Jk c) (p+1) cs
 |_+1,_,_,p,[]=>p
 |l+1,lo,hi,p,c::cs=>if c<lo\/hi<c then p else uf l 128 191 (p+1) cs
section
variable {bs:List Int}{p:Nat}{lo hi:Int}
theorem uf_any0 (a b:Int)(cs:List Int):uf 0 lo hi p cs=uf 0 a b p cs:=by cases cs<;>simp[uf]
theorem uf_end0 (h:p=N bs):uf 0 lo hi p (bs.drop p)=-1:=by subst h;simp[uf]
theorem uf_endl (h:p=N bs):uf (l+1) lo hi p (bs.drop p)=p:=by subst h;simp[uf]
theorem uf_bad (h:p<N bs)(hn:ldN (bs.getD p 0)<0):uf 0 lo hi p (bs.drop p)=p:=by
 rw[Tw h];simp only[Kx,Kj h,Lf]at hn;simp[uf,hn]
theorem uf_lead (h:p<N bs)(hn:¬ldN (bs.getD p 0)<0):uf 0 lo hi p (bs.drop p)=uf (ldN (bs.getD p 0)).toNat (Jj (bs.getD p 0)) (Jk (bs.getD p 0)) (p+1) (bs.drop (p+1)):=by
 rw[Tw h];simp only[Kx,Kj h,Lf]at hn⊢;simp[uf,hn]
theorem uf_out (h:p<N bs)(hn:bs.getD p 0<lo\/hi<bs.getD p 0):uf (l+1) lo hi p (bs.drop p)=p:=by
 rw[Tw h];simp only[Kx,Kj h,Lf]at hn;simp[uf,hn]
theorem uf_next (h:p<N bs)(hn:¬(bs.getD p 0<lo\/hi<bs.getD p 0)):uf (l+1) lo hi p (bs.drop p)=uf l 128 191 (p+1) (bs.drop (p+1)):=by
 rw[Tw h];simp only[Kx,Kj h,Lf]at hn;simp only[uf];rw[if_neg hn]
end
theorem follow_any (c:Int)(w:J)(d:0<=c)(b:c<=255):Ec Q 239 #[U .u8 c] w λe w'=>e=Z (.tuple #[U O (ldN c),U .u8 (Jj c),U .u8 (Jk c)])/\w=w':=by
 rcases(show c<128\/(128<=c/\c<194)\/(194<=c/\c<224)\/c=224\/(225<=c/\c<237)\/c=237\/(238<=c/\c<240)\/c=240\/(241<=c/\c<244)\/c=244\/244<c by omega)with h|⟨h,a⟩|⟨h,a⟩|rfl|⟨h,a⟩|rfl|⟨h,a⟩|rfl|⟨h,a⟩|rfl|h
 . rw[show ldN c=0 by unfold ldN;omega,show Jj c=0 by unfold Jj;omega,show Jk c=0 by unfold Jk;omega];go_enter func239,ntmps239;go_wp2;(go_ret3);exact⟨rfl,rfl⟩
 . rw[show ldN c=-1 by unfold ldN;omega,show Jj c=0 by unfold Jj;omega,show Jk c=0 by unfold Jk;omega];go_enter func239,ntmps239;go_wp2;(go_ret3);exact⟨rfl,rfl⟩
 . rw[show ldN c=1 by unfold ldN;omega,show Jj c=128 by unfold Jj;omega,show Jk c=191 by unfold Jk;omega];go_enter func239,ntmps239;go_wp2;(go_ret3);exact⟨rfl,rfl⟩
 . rw[show ldN 224=2 by decide,show Jj 224=160 by decide,show Jk 224=191 by decide];go_enter func239,ntmps239;go_wp2;(go_ret3);exact⟨rfl,rfl⟩
 . rw[show ldN c=2 by unfold ldN;omega,show Jj c=128 by unfold Jj;omega,show Jk c=191 by unfold Jk;omega];go_enter func239,ntmps239;go_wp2;(go_ret3);exact⟨rfl,rfl⟩
 . rw[show ldN 237=2 by decide,show Jj 237=128 by decide,show Jk 237=159 by decide];go_enter func239,ntmps239;go_wp2;(go_ret3);exact⟨rfl,rfl⟩
 . rw[show ldN c=2 by unfold ldN;omega,show Jj c=128 by unfold Jj;omega,show Jk c=191 by unfold Jk;omega];go_enter func239,ntmps239;go_wp2;(go_ret3);exact⟨rfl,rfl⟩
 . rw[show ldN 240=3 by decide,show Jj 240=144 by decide,show Jk 240=191 by decide];go_enter func239,ntmps239;go_wp2;(go_ret3);exact⟨rfl,rfl⟩
 . rw[show ldN c=3 by unfold ldN;omega,show Jj c=128 by unfold Jj;omega,show Jk c=191 by unfold Jk;omega];go_enter func239,ntmps239;go_wp2;(go_ret3);exact⟨rfl,rfl⟩
 . rw[show ldN 244=3 by decide,show Jj 244=128 by decide,show Jk 244=143 by decide];go_enter func239,ntmps239;go_wp2;(go_ret3);exact⟨rfl,rfl⟩
 rw[show ldN c=-1 by unfold ldN;omega,show Jj c=0 by unfold Jj;omega,show Jk c=0 by unfold Jk;omega];go_enter func239,ntmps239;go_wp2;go_ret3
 exact⟨rfl,rfl⟩
def AllB (xs:List Int):Prop:=∀i,0<=xs.getD i 0/\xs.getD i 0<=255
theorem specUtf8_any (a:Option Ad)(cap:Nat)(bs:List Int)(w:J)(hl:N bs<=1099511627776)(ha:HasB w a bs)(X:AllB bs):Ec Q 189 #[S a (N bs) cap] w λe w'=>e=Z (U O (uf 0 0 0 0 bs))/\w=w':=by
 obtain⟨R,D⟩:∃R,R=uf 0 0 0 0 bs:=⟨_,rfl⟩;have F:Hid (uf 0 0 0 0 (bs.drop 0)=R):=by rw[D];rfl
 rw[<- D];clear D;rcases ha with hx|⟨E,v,rfl,n⟩
 . subst hx;(have e:R=-1:=by rw[<- F.o];rfl);subst e;clear F X hl;go_enter func189,ntmps189;go_wp2;refine wp_loop_rounds 1 ?_;rw[rounds_succ];go_wp2;go_ret;exact⟨rfl,rfl⟩
 have u:Hid (∀i,i<N bs->w.cell? ⟨E,v+i,none⟩=some (U .u8 (bs.getD i 0))):=n;clear n;go_enter func189,ntmps189;go_wp2;go_loop [4] (λi=>∃p:Nat,p<=N bs/\i=U O p/\Hid (uf 0 0 0 p (bs.drop p)=R)) (λi=>N bs-(intOf i).toNat)
 case atStart=>exact⟨0,Kw _,rfl,F⟩
 obtain⟨p,hp,rfl,I⟩:=hrel;by_cases j:p<N bs
 . have Y:w.cell? ⟨E,v+p,none⟩=some (U .u8 (bs.getD p 0)):=u.o p j;(have ab:(p:Int)<(N bs:Int):=by omega);obtain⟨c,d⟩:∃c,c=bs.getD p 0:=⟨_,rfl⟩;rw[<- d]at Y;have M:Hid (c=bs.getD p 0):=d;have V:=X p;rw[<- d]at V;obtain⟨s,r⟩:=V;have hn:=ldN_bd c;clear d;by_cases f:ldN c<0
   . (have e:R=p:=by rw[<- I.o,uf_bad j (by rw[<- M.o];exact f)]);subst e;(go_wp2_with (go_at_call 239;refine(follow_any _ _ s r).mono ?_;rintro e w' ⟨rfl,rfl⟩));go_ret;exact⟨rfl,rfl⟩
   (have H:Hid (uf (ldN c).toNat (Jj c) (Jk c) (p+1) (bs.drop (p+1))=R):=by have:=I.o;rw[uf_lead j (by rw[<- M.o];exact f),<- M.o]at this;exact this);(go_wp2_with (go_at_call 239;refine(follow_any _ _ s r).mono ?_;rintro e w' ⟨rfl,rfl⟩));(go_loop [6,7,8] (λlv hv kv=>∃(k l:Nat) (lo hi:Int),(k:Int)+l=ldN c+1/\1<=k/\p+k<=N bs/\kv=U O k/\lv=U .u8 lo/\hv=U .u8 hi/\Hid (uf l lo hi (p+k) (bs.drop (p+k))=R)) (λ_ _ kv=>5-(intOf kv).toNat));(case atStart=>exact⟨1,(ldN c).toNat,_,_,by omega,by omega,by omega,rfl,rfl,rfl,H⟩);obtain⟨k,l,lo,hi,ad,ae,y,rfl,rfl,rfl,t⟩:=hrel;clear Y;cases l with
   |zero =>
    have B:ldN c<(k:Int):=by omega
    go_wp2
    go_round
    case rel=>exact⟨p+k,y,by rw[show((p+k:Nat):Int)=(p:Int)+1+ldN c by omega],(uf_any0 lo hi _).trans t.o⟩
    case measure=>simp[intOf];omega
   |succ l =>
    have B:(k:Int)<=ldN c:=by omega
    by_cases b:p+k<N bs
    . have d2:w.cell? ⟨E,v+(p+k),none⟩=some (U .u8 (bs.getD (p+k) 0)):=u.o (p+k) b;obtain⟨q,g⟩:∃q,q=bs.getD (p+k) 0:=⟨_,rfl⟩;rw[<- g]at d2;have m:Hid (q=bs.getD (p+k) 0):=g;clear g;have C:(p:Int)+k<(N bs:Int):=by omega
      by_cases A:q<lo
      . have e:R=((p+k:Nat):Int):=by rw[<- t.o,uf_out b (by rw[<- m.o];exact .inl A)]
        subst e
        go_wp2
        go_ret
        exact⟨rfl,rfl⟩
      . by_cases z:hi<q
        . have e:R=((p+k:Nat):Int):=by rw[<- t.o,uf_out b (by rw[<- m.o];exact .inr z)]
          subst e
          go_wp2
          go_ret
          exact⟨rfl,rfl⟩
        . have L:Hid (uf l 128 191 (p+k+1) (bs.drop (p+k+1))=R):=by
            have:=t.o
            rw[uf_next b (by rw[<- m.o];omega)]at this
            exact this
          go_wp2
          go_round
          case rel=>exact⟨k+1,l,128,191,by omega,by omega,by omega,by go_num,rfl,rfl,L⟩
          case measure=>simp[intOf];omega
    . have e:R=(N bs:Int):=by rw[<- t.o,uf_endl (by omega)];omega
      subst e;have C:(N bs:Int)<=(p:Int)+k:=by omega
      go_wp2
      go_ret
      exact⟨rfl,rfl⟩
 have e:R=-1:=by rw[<- I.o,uf_end0 (by omega)]
 subst e;go_wp2;go_ret;exact⟨rfl,rfl⟩
theorem Gm (c:Int)(w:J)(d:0<=c)(b:c<=255):Ec Q 273 #[U .u8 c] w λe w'=>e=Z (.tuple #[U O (ldN c),U .u8 (Jj c),U .u8 (Jk c)])/\w=w':=by
 rcases(show c<128\/(128<=c/\c<194)\/(194<=c/\c<224)\/c=224\/(225<=c/\c<237)\/c=237\/(238<=c/\c<240)\/c=240\/(241<=c/\c<244)\/c=244\/244<c by omega)with h|⟨h,a⟩|⟨h,a⟩|rfl|⟨h,a⟩|rfl|⟨h,a⟩|rfl|⟨h,a⟩|rfl|h
 . rw[show ldN c=0 by unfold ldN;omega,show Jj c=0 by unfold Jj;omega,show Jk c=0 by unfold Jk;omega];go_enter func273,ntmps273;go_wp2;(go_ret3);exact⟨rfl,rfl⟩
 . rw[show ldN c=-1 by unfold ldN;omega,show Jj c=0 by unfold Jj;omega,show Jk c=0 by unfold Jk;omega];go_enter func273,ntmps273;go_wp2;(go_ret3);exact⟨rfl,rfl⟩
 . rw[show ldN c=1 by unfold ldN;omega,show Jj c=128 by unfold Jj;omega,show Jk c=191 by unfold Jk;omega];go_enter func273,ntmps273;go_wp2;(go_ret3);exact⟨rfl,rfl⟩
 . rw[show ldN 224=2 by decide,show Jj 224=160 by decide,show Jk 224=191 by decide];go_enter func273,ntmps273;go_wp2;(go_ret3);exact⟨rfl,rfl⟩
 . rw[show ldN c=2 by unfold ldN;omega,show Jj c=128 by unfold Jj;omega,show Jk c=191 by unfold Jk;omega];go_enter func273,ntmps273;go_wp2;(go_ret3);exact⟨rfl,rfl⟩
 . rw[show ldN 237=2 by decide,show Jj 237=128 by decide,show Jk 237=159 by decide];go_enter func273,ntmps273;go_wp2;(go_ret3);exact⟨rfl,rfl⟩
 . rw[show ldN c=2 by unfold ldN;omega,show Jj c=128 by unfold Jj;omega,show Jk c=191 by unfold Jk;omega];go_enter func273,ntmps273;go_wp2;(go_ret3);exact⟨rfl,rfl⟩
 . rw[show ldN 240=3 by decide,show Jj 240=144 by decide,show Jk 240=191 by decide];go_enter func273,ntmps273;go_wp2;(go_ret3);exact⟨rfl,rfl⟩
 . rw[show ldN c=3 by unfold ldN;omega,show Jj c=128 by unfold Jj;omega,show Jk c=191 by unfold Jk;omega];go_enter func273,ntmps273;go_wp2;(go_ret3);exact⟨rfl,rfl⟩
 . rw[show ldN 244=3 by decide,show Jj 244=128 by decide,show Jk 244=143 by decide];go_enter func273,ntmps273;go_wp2;(go_ret3);exact⟨rfl,rfl⟩
 rw[show ldN c=-1 by unfold ldN;omega,show Jj c=0 by unfold Jj;omega,show Jk c=0 by unfold Jk;omega];go_enter func273,ntmps273;go_wp2;go_ret3
 exact⟨rfl,rfl⟩
def jumps (Jz0:Nat->Act->J->Prop)(Qz0:Exit->Act->J->Prop):Exit->Act->J->Prop
 |.goto l,a,w=>Jz0 l a w
 |e,a,w=>Qz0 e a w
theorem wp_scope_many {c:Code}(s:Nat->Act->J->Prop)(μ:Nat->Act->J->Nat) (first:c.wp P (jumps s Qz0) a w) (q:∀l a w,s l a w->∃f,findLabel c l=some f/\f.wp P (jumps (λl' a' w'=>s l' a' w'/\μ l' a' w'<μ l a w) Qz0) a w):(Code.scope c).wp P Qz0 a w:=by
 intro b k cs;have E:∀l f,findLabel c l=some f->gotoIn l (.inScope c::k)=some (.code f::.inScope c::k):=λl f B=>by simp[gotoIn,B]
 have A:∀n l a w f,μ l a w=n->s l a w->findLabel c l=some f->∃e a' w',Qz0 e a' w'/\Arrives P (lone (b.at a (.code f::.inScope c::k)) cs w) b k cs e a' w':=by
  intro n;induction n using Nat.strongRecOn with
  |_ n ih =>
   intro l a w f L I B
   obtain⟨z,u,F⟩:=q l a w I;rw[B]at u;obtain rfl:=Option.some.inj u;obtain⟨e,o,j,p,d⟩:=F b (.inScope c::k) cs
   cases e with
   |normal=>exact⟨.normal,o,j,p,Steps.trans d (.one step_inScope)⟩
   |exit id=>exact⟨.exit id,o,j,p,λk' hk=>d k' (by simp[exitTo,hk])⟩
   |goto l' =>
    obtain⟨v,H⟩:=p;obtain⟨g,r,_⟩:=q l' o j v;obtain⟨C,D,y,t,m⟩:=ih _ (by omega) l' o j g rfl v r
    exact⟨C,D,y,t,.of_steps (d _ (E l' g r)) m⟩
   |ret=>exact⟨_,o,j,p,d⟩
   |panic ch=>exact⟨_,o,j,p,d⟩
   |outgrown=>exact⟨_,o,j,p,d⟩
 obtain⟨e,o,j,p,d⟩:=first b (.inScope c::k) cs
 cases e with
 |normal=>exact⟨.normal,o,j,p,.head step_scope (Steps.trans d (.one step_inScope))⟩
 |exit id=>exact⟨.exit id,o,j,p,λk' hk=>.head step_scope (d k' (by simp[exitTo,hk]))⟩
 |goto l' =>
  obtain⟨g,r,_⟩:=q l' o j p;obtain⟨C,D,y,t,m⟩:=A _ l' o j g rfl p r
  exact⟨C,D,y,t,.of_steps (.head step_scope (d _ (E l' g r))) m⟩
 |ret=>exact⟨_,o,j,p,.of_steps (.one step_scope) d⟩
 |panic ch=>exact⟨_,o,j,p,.of_steps (.one step_scope) d⟩
 |outgrown=>exact⟨_,o,j,p,.of_steps (.one step_scope) d⟩
theorem wp_skip_seq {r:Code}(h:r.wp P Qz0 a w):(Code.skip.seq r).wp P Qz0 a w:=wp_seq (wp_skip h)
theorem wp_scope_three {c k m n:Code}(f g j:Act->J->Prop)(μ0 μ1 μ2:Act->J->Nat) (u:findLabel c 0=some (Code.skip.seq k)) (t:findLabel c 2=some (Code.skip.seq m)) (s:findLabel c 1=some (Code.skip.seq n)) (first:(∀a w,f a w->k.wp P (jumps (fun|0,a,w=>f a w|1,a,w=>j a w|2,a,w=>g a w|_,_,_=>False) Qz0) a w)->c.wp P (jumps (fun|0,a,w=>f a w|1,a,w=>j a w|2,a,w=>g a w|_,_,_=>False) Qz0) a w) (r:∀a w,f a w->(∀a' w',g a' w'->μ1 a' w'<μ0 a w->m.wp P (jumps (fun | 0,b,v=>f b v/\μ0 b v<μ0 a w | 1,b,v=>j b v/\μ2 b v<μ0 a w | 2,b,v=>g b v/\μ1 b v<μ0 a w | _,_,_=>False) Qz0) a' w') -> k.wp P (jumps (fun | 0,b,v=>f b v/\μ0 b v<μ0 a w | 1,b,v=>j b v/\μ2 b v<μ0 a w | 2,b,v=>g b v/\μ1 b v<μ0 a w | _,_,_=>False) Qz0) a w) (p:∀a w,g a w->m.wp P (jumps (fun|0,b,v=>f b v/\μ0 b v<μ1 a w|1,b,v=>j b v/\μ2 b v<μ1 a w|2,b,v=>g b v/\μ1 b v<μ1 a w|_,_,_=>False) Qz0) a w) (q:∀a w,j a w->n.wp P (jumps (λ_ _ _=>False) Qz0) a w):(Code.scope c).wp P Qz0 a w:=by
 have o:∀a w,f a w->k.wp P (jumps (fun|0,b,v=>f b v/\μ0 b v<μ0 a w|1,b,v=>j b v/\μ2 b v<μ0 a w|2,b,v=>g b v/\μ1 b v<μ0 a w|_,_,_=>False) Qz0) a w:=by
  intro a w h;refine r a w h λa' w' h' hlt=>Code.wp_mono ?_ (p a' w' h');intro e b v d;cases e with
  |goto l =>
   match l with
   |0=>exact⟨d.1,Ef d.2 hlt⟩
   |1=>exact⟨d.1,Ef d.2 hlt⟩
   |2=>exact⟨d.1,Ef d.2 hlt⟩
   |_+3=>exact d
  |normal=>exact d
  |exit _=>exact d
  |ret=>exact d
  |panic _=>exact d
  |outgrown=>exact d
 refine wp_scope_many (fun|0,a,w=>f a w|1,a,w=>j a w|2,a,w=>g a w|_,_,_=>False) (fun|0,a,w=>μ0 a w|1,a,w=>μ2 a w|_,a,w=>μ1 a w) (first ?_) ?_
 . intro a w h;refine Code.wp_mono ?_ (o a w h);intro e b v d;cases e with
   |goto l =>
    match l with
    |0=>exact d.1
    |1=>exact d.1
    |2=>exact d.1
    |_+3=>exact d
   |normal=>exact d
   |exit _=>exact d
   |ret=>exact d
   |panic _=>exact d
   |outgrown=>exact d
 intro l a w h;match l with
 |0 =>
  refine⟨_,u,wp_skip_seq (Code.wp_mono ?_ (o a w h))⟩
  intro e b v d
  cases e with
  |goto l =>
   match l with
   |0=>exact d
   |1=>exact d
   |2=>exact d
   |_+3=>exact d.elim
  |normal=>exact d
  |exit _=>exact d
  |ret=>exact d
  |panic _=>exact d
  |outgrown=>exact d
 |2 =>
  refine⟨_,t,wp_skip_seq (Code.wp_mono ?_ (p a w h))⟩
  intro e b v d
  cases e with
  |goto l =>
   match l with
   |0=>exact d
   |1=>exact d
   |2=>exact d
   |_+3=>exact d.elim
  |normal=>exact d
  |exit _=>exact d
  |ret=>exact d
  |panic _=>exact d
  |outgrown=>exact d
 |1 =>
  refine⟨_,s,wp_skip_seq (Code.wp_mono ?_ (q a w h))⟩
  intro e b v d
  cases e with
  |goto l=>exact d.elim
  |normal=>exact d
  |exit _=>exact d
  |ret=>exact d
  |panic _=>exact d
  |outgrown=>exact d
 |_+3=>exact h.elim
def frU (b1 o1 cap:Nat)(bs:List Int)(p:Nat)(u4 u5 u6:Vu)(a:Act):Prop:=∃(u2 u8 u9 u10 u11 u12 u13 u14 u15 u16 u17 u18 u19 u20 u21 u22 u23 u24 u25 u26 u27 u28 u29 u30 u31 u32 u33 u34 u35 u36 u37 u38 u39 u40 u41 u42 u43 u44 u45 u46 u47 u48 u49 u50 u51 u52 u53:Vu),a={ tmps:=#[S (some ⟨b1,o1,none⟩) (N bs) cap,undef,u2,U O p,u4,u5,u6,U O (N bs),u8,u9,u10,u11,u12,u13,u14,u15,u16,u17,u18,u19,u20,u21,u22,u23,u24,u25,u26,u27,u28,u29,u30,u31,u32,u33,u34,u35,u36,u37,u38,u39,u40,u41,u42,u43,u44,u45,u46,u47,u48,u49,u50,u51,u52,u53],defers:=[] }
theorem implUtf8_row (m j:Nat)(cap:Nat)(bs:List Int)(w:J)(hl:N bs<=1099511627776)(bb:∀i,i<N bs->w.cell? ⟨m,j+i,none⟩=some (U .u8 (bs.getD i 0)))(hB:AllB bs):Ec Q 241 #[S (some ⟨m,j,none⟩) (N bs) cap] w λe w'=>e=Z (U O (uf 0 0 0 0 bs))/\w=w':=by
 obtain⟨R,hR⟩:∃R,R=uf 0 0 0 0 bs:=⟨_,rfl⟩;have HR:Hid (uf 0 0 0 0 (bs.drop 0)=R):=by rw[hR];rfl
 rw[<- hR];clear hR;have bc:Hid (∀i,i<N bs->w.cell? ⟨m,j+i,none⟩=some (U .u8 (bs.getD i 0))):=bb;clear bb;go_enter func241,ntmps241;go_wp2
 refine wp_scope_three
  (λb w'=>w=w'/\∃(p:Nat) (u4 D y:Vu),p<=N bs/\frU m j cap bs p u4 D y b/\Hid (uf 0 0 0 p (bs.drop p)=R))
  (λb w'=>w=w'/\∃(p l:Nat) (lo hi:Int),p<=N bs/\l<=2/\frU m j cap bs p (U O ((l:Int)+1)) (U .u8 lo) (U .u8 hi) b/\Hid (uf (l+1) lo hi p (bs.drop p)=R))
  (λb w'=>w=w'/\∃(p:Nat) (u4 D y:Vu),frU m j cap bs p u4 D y b/\Hid (R=p))
  (λb _=>2*(N bs-(intOf (b.tmps.getD 3 undef)).toNat)+1)
  (λb _=>2*(N bs-(intOf (b.tmps.getD 3 undef)).toNat)+1)
  (λb _=>2*(N bs-(intOf (b.tmps.getD 3 undef)).toNat)) rfl rfl rfl ?_ ?_ ?_ ?_
 . intro h0;go_wp2;(go_step3);simp only[Exit.then];rename_i hK;refine hK _ _ (h0 _ _ ?_);exact⟨rfl,0,_,_,_,Kw _,⟨_,_,_,_,_,_,_,_,_,_,_,_,_,_,_,_,_,_,_,_,_,_,_,_,_,_,_,_,_,_,_,_,_,_,_,_,_,_,_,_,_,_,_,_,_,_,_,rfl⟩,HR⟩
 . rintro b w' ⟨rfl,p,u4,D,y,hp,⟨u2,u8,u9,ba,a9,a8,a7,a6,a5,a4,a3,a2,a1,a0,az,ay,ax,aw,av,au,ar,aq,ap,ao,ak,aj,ai,ah,ag,af,ae,ad,ac,aa,Y,X,V,M,L,I,H,F,E,C,B,A,z,rfl⟩,f⟩ h1;by_cases a:p<N bs
   . have d1:w.cell? ⟨m,j+p,none⟩=some (U .u8 (bs.getD p 0)):=bc.o p a;(have bg:(p:Int)<(N bs:Int):=by omega);obtain⟨c,g⟩:∃c,c=bs.getD p 0:=⟨_,rfl⟩;rw[<- g]at d1;have HC:Hid (c=bs.getD p 0):=g;have hb:=hB p;rw[<- g]at hb;obtain⟨t,s⟩:=hb;have hn:=ldN_bd c;clear g;have r:((p:Int)==(N bs:Int))=false:=beq_eq_false_iff_ne.2 (by omega);have H1:=Hm h1;clear h1;by_cases k:ldN c<0
     . (have u:Hid (R=p):=by show _=_;rw[<- f.o,uf_bad a (by rw[<- HC.o];exact k)]);(go_wp2_with (go_at_call 273;refine(Gm _ _ t s).mono ?_;rintro e w' ⟨rfl,rfl⟩));(go_step3);refine⟨⟨rfl,p,_,_,_,⟨_,_,_,_,_,_,_,_,_,_,_,_,_,_,_,_,_,_,_,_,_,_,_,_,_,_,_,_,_,_,_,_,_,_,_,_,_,_,_,_,_,_,_,_,_,_,_,rfl⟩,u⟩,?_⟩;simp[intOf]
     (have d:Hid (uf (ldN c).toNat (Jj c) (Jk c) (p+1) (bs.drop (p+1))=R):=by have:=f.o;rw[uf_lead a (by rw[<- HC.o];exact k),<- HC.o]at this;exact this);by_cases hz:ldN c=0
     . have bf:(ldN c==0)=true:=beq_iff_eq.2 hz;have HZ:Hid (ldN c=0):=hz;clear hz;(go_wp2_with (go_at_call 273;refine(Gm _ _ t s).mono ?_;rintro e w' ⟨rfl,rfl⟩));(go_step3);refine⟨⟨rfl,p+1,_,_,_,by omega,⟨_,_,_,_,_,_,_,_,_,_,_,_,_,_,_,_,_,_,_,_,_,_,_,_,_,_,_,_,_,_,_,_,_,_,_,_,_,_,_,_,_,_,_,_,_,_,_,rfl⟩,?_⟩,?_⟩
       . have:=d.o;rw[HZ.o]at this;exact(uf_any0 _ _ _).trans this
       simp[intOf];omega
     have bf:(ldN c==0)=false:=beq_eq_false_iff_ne.2 hz;(go_wp2_with (go_at_call 273;refine(Gm _ _ t s).mono ?_;rintro e w' ⟨rfl,rfl⟩));(go_step3);simp only[Exit.then];rename_i hK;refine hK _ _ (H1.o _ _ ?_ ?_)
     . obtain⟨l,bl⟩:∃l,(ldN c).toNat=l+1:=⟨(ldN c).toNat-1,by omega⟩;have e:=d.o;rw[bl]at e;refine⟨rfl,p+1,l,Jj c,Jk c,by omega,by omega,?_,e⟩;rw[show(l:Int)+1=ldN c by omega];exact⟨_,_,_,_,_,_,_,_,_,_,_,_,_,_,_,_,_,_,_,_,_,_,_,_,_,_,_,_,_,_,_,_,_,_,_,_,_,_,_,_,_,_,_,_,_,_,_,rfl⟩
     simp[intOf];omega
   (have e:R=-1:=by rw[<- f.o,uf_end0 (by omega)]);subst e;have r:((p:Int)==(N bs:Int))=true:=beq_iff_eq.2 (by omega);go_wp2;simp only[jumps];go_ret;exact⟨rfl,rfl⟩
 . rintro b w' ⟨rfl,p,l,lo,hi,hp,bw,⟨u2,u8,u9,ba,a9,a8,a7,a6,a5,a4,a3,a2,a1,a0,az,ay,ax,aw,av,au,ar,aq,ap,ao,ak,aj,ai,ah,ag,af,ae,ad,ac,aa,Y,X,V,M,L,I,H,F,E,C,B,A,z,rfl⟩,f⟩;by_cases a:p<N bs
   . have d2:w.cell? ⟨m,j+p,none⟩=some (U .u8 (bs.getD p 0)):=bc.o p a;obtain⟨q,n⟩:∃q,q=bs.getD p 0:=⟨_,rfl⟩;rw[<- n]at d2;have v:Hid (q=bs.getD p 0):=n;clear n;(have bg:(p:Int)<(N bs:Int):=by omega);have r:((p:Int)==(N bs:Int))=false:=beq_eq_false_iff_ne.2 (by omega);by_cases bj:q<lo
     . (have u:Hid (R=p):=by show _=_;rw[<- f.o,uf_out a (by rw[<- v.o];exact .inl bj)]);go_wp2;(go_step3);refine⟨⟨rfl,p,_,_,_,⟨_,_,_,_,_,_,_,_,_,_,_,_,_,_,_,_,_,_,_,_,_,_,_,_,_,_,_,_,_,_,_,_,_,_,_,_,_,_,_,_,_,_,_,_,_,_,_,rfl⟩,u⟩,?_⟩;simp[intOf]
     by_cases bh:hi<q
     . (have u:Hid (R=p):=by show _=_;rw[<- f.o,uf_out a (by rw[<- v.o];exact .inr bh)]);go_wp2;(go_step3);refine⟨⟨rfl,p,_,_,_,⟨_,_,_,_,_,_,_,_,_,_,_,_,_,_,_,_,_,_,_,_,_,_,_,_,_,_,_,_,_,_,_,_,_,_,_,_,_,_,_,_,_,_,_,_,_,_,_,rfl⟩,u⟩,?_⟩;simp[intOf]
     (have d:Hid (uf l 128 191 (p+1) (bs.drop (p+1))=R):=by have:=f.o;rw[uf_next a (by rw[<- v.o];omega)]at this;exact this);cases l with
     |zero =>
      go_wp2
      go_step3
      refine⟨⟨rfl,p+1,_,_,_,by omega,⟨_,_,_,_,_,_,_,_,_,_,_,_,_,_,_,_,_,_,_,_,_,_,_,_,_,_,_,_,_,_,_,_,_,_,_,_,_,_,_,_,_,_,_,_,_,_,_,rfl⟩,?_⟩,?_⟩
      . exact(uf_any0 _ _ _).trans d.o
      . simp[intOf];omega
     |succ l =>
      go_wp2
      go_step3
      refine⟨⟨rfl,p+1,l,128,191,by omega,by omega,?_,d⟩,?_⟩
      . exact⟨_,_,_,_,_,_,_,_,_,_,_,_,_,_,_,_,_,_,_,_,_,_,_,_,_,_,_,_,_,_,_,_,_,_,_,_,_,_,_,_,_,_,_,_,_,_,_,rfl⟩
      . simp[intOf];omega
   (have u:Hid (R=p):=by show _=_;rw[<- f.o,uf_endl (by omega)]);have r:((p:Int)==(N bs:Int))=true:=beq_iff_eq.2 (by omega);go_wp2;(go_step3);refine⟨⟨rfl,p,_,_,_,⟨_,_,_,_,_,_,_,_,_,_,_,_,_,_,_,_,_,_,_,_,_,_,_,_,_,_,_,_,_,_,_,_,_,_,_,_,_,_,_,_,_,_,_,_,_,_,_,rfl⟩,u⟩,?_⟩;simp[intOf]
 rintro b w' ⟨rfl,p,u4,D,y,⟨u2,u8,u9,ba,a9,a8,a7,a6,a5,a4,a3,a2,a1,a0,az,ay,ax,aw,av,au,ar,aq,ap,ao,ak,aj,ai,ah,ag,af,ae,ad,ac,aa,Y,X,V,M,L,I,H,F,E,C,B,A,z,rfl⟩,f⟩;have e:=f.o;subst e;go_wp2;simp only[jumps];go_ret;exact⟨rfl,rfl⟩
open Go.RowKit Go.Sort
def Jn (l:Qd):Bool:=Qz l.min&&Qz l.max&&(l.has || l.max==0)
def kindB (k:Int):Bool:=decide (0<=k/\k<=3)
def grpB (g:Grp):Bool:=Qz g.n&&tyB g.ty
def stB (has:Bool)(start:Int):Bool:=Qz start&&(has || start==0)
def QZ (s:ByteArray):List Int:=s.data.toList.map λb=>(b.toNat:Int)
def Q3 (s:ByteArray):Bool:=decide (uf 0 0 0 0 (QZ s)=-1)
theorem uf_ge (l:Nat)(lo hi:Int)(p:Nat)(cs:List Int):uf l lo hi p cs=-1\/0<=uf l lo hi p cs:=by
 induction cs generalizing l lo hi p with
 |nil=>cases l<;>simp[uf]
 |cons c cs ih =>
  cases l with
  |zero =>
   simp only[uf];split
   · right;omega
   . exact ih _ _ _ _
  |succ l =>
   simp only[uf];split
   · right;omega
   . exact ih _ _ _ _
theorem ilim_c (l:Qd)(w:J):Ec Q 158 #[Ag #[U O l.min,U O l.max,G l.has]] w λe w'=>e=Z (G (Jn l))/\Bw w.heap.size w w':=by
 obtain⟨b,c,h⟩:=l;cases h
 all_goals
  go_enter func158,ntmps158
  go_wp2_with (go_at_call 156;refine(XV _ _).mono ?_;rintro e a ⟨rfl,rfl⟩)
  all_goals
   go_ret
   refine⟨?_,bFz.alloc lRz _⟩
   simp_all[Jn]
theorem slim_c (l:Qd)(w:J):Ec Q 185 #[Ag #[U O l.min,U O l.max,G l.has]] w λe w'=>e=Z (G (Jn l))/\Bw w.heap.size w w':=by
 obtain⟨b,c,h⟩:=l;cases h
 all_goals
  go_enter func185,ntmps185
  go_wp2_with (go_at_call 126;refine(Ga _ _).mono ?_;rintro e a ⟨rfl,rfl⟩)
  all_goals
   go_ret
   refine⟨?_,bFz.alloc lRz _⟩
   simp_all[Jn]
theorem igt_c (g:Qx)(w:J):Ec Q 203 #[Ag #[U O g.ty,G g.mu]] w λe w'=>e=Z (G (tyB g.ty))/\Bw w.heap.size w w':=by
 go_enter func203,ntmps203;go_wp2_with (go_at_call 202;refine(ity_c _ _).mono ?_;rintro e a ⟨rfl,rfl⟩)
 go_ret;exact⟨rfl,bFz.alloc lRz _⟩
theorem ikind_c (x:Int)(w:J):Ec Q 206 #[U O x] w λe w'=>e=Z (G (kindB x))/\w=w':=by
 go_enter func206,ntmps206;go_wp2
 all_goals
  go_ret
  refine⟨?_,rfl⟩
  simp[kindB, *]
  try omega
theorem igrp_c (g:Grp)(w:J):Ec Q 246 #[Ag #[U O g.n,U O g.ty]] w λe w'=>e=Z (G (grpB g))/\Bw w.heap.size w w':=by
 go_enter func246,ntmps246;go_wp2_with (first|(go_at_call 156;refine(XV _ _).mono ?_;rintro e a ⟨rfl,rfl⟩)|(go_at_call 202;refine(ity_c _ _).mono ?_;rintro e a ⟨rfl,rfl⟩))
 all_goals
  go_ret
  refine⟨?_,bFz.alloc lRz _⟩
  simp_all[grpB]
theorem istart_c (has:Bool)(x:Int)(w:J):Ec Q 163 #[G has,U O x] w λe w'=>e=Z (G (stB has x))/\w=w':=by
 cases has
 all_goals
  go_enter func163,ntmps163
  go_wp2_with (go_at_call 156;refine(XV _ _).mono ?_;rintro e a ⟨rfl,rfl⟩)
  all_goals
   go_ret
   refine⟨?_,rfl⟩
   simp_all[stB]
theorem bytes_len (s:ByteArray):(QZ s).length=s.size:=by simp[QZ]
theorem bytes_at (s:ByteArray)(c i:Nat)(hi:i<(QZ s).length):(bytesRow s c)[i]?=some (U .u8 ((QZ s).getD i 0)):=by
 have a:i<s.data.size:=by simpa[QZ]using hi
 unfold bytesRow;rw[Array.getElem?_append_left (by simpa using a)];have e:s.data[i]?=some s.data[i]:=Ld a;simp[QZ,Kx,e]
theorem bytes_all (s:ByteArray):AllB (QZ s):=by
 intro i;by_cases hi:i<N s.data.toList
 . (have a:i<s.data.size:=by simpa using hi);have e:s.data[i]?=some s.data[i]:=Ld a;(have:(QZ s).getD i 0=((s.data.toList[i]'hi).toNat:Int):=by simp[QZ,Kx,e]);rw[this];have:=(s.data.toList[i]'hi).toNat_lt;omega
 have:(QZ s).getD i 0=0:=by simp[QZ,Kx];rw[Array.getElem?_eq_none (by simpa using hi)];rfl
 rw[this];omega
theorem bytesRow_cells (s:ByteArray)(c:Nat)(w:J)(e:TypeId)(f:Nat × Nat):∀i,i<(QZ s).length->(w.drew.alloc (Fc (bytesRow s c) e f)).cell? ⟨w.heap.size,0+i,none⟩=some (U .u8 ((QZ s).getD i 0)):=by
 intro i hi;have h:(w.drew.alloc (Fc (bytesRow s c) e f)).heap[w.heap.size]?=some (Fc (bytesRow s c) e f):=heap_new w.drew _;rw[Tx];simp only[World.cell?,h];exact bytes_at s c i hi
theorem sname_ok (s:ByteArray)(w:J)(hn:s.size<=1048576):Ec Q 129 #[Xs s] w λe w'=>e=Z (G (Q3 s))/\Bw w.heap.size w w':=by
 have j:=λw=>run_bytes_of_string (P:=Q) w 9 160 5 s underlying9 underlying160 underlying5;have g:(QZ s).length<=1099511627776:=by rw[bytes_len];omega
 have b:=Hm (λc f=>specUtf8_any (some ⟨w.heap.size,0,none⟩) c (QZ s) (w.drew.alloc (Fc (bytesRow s c) 5 f)) g (.inr ⟨_,_,rfl,bytesRow_cells s c w 5 f⟩) (bytes_all s));rw[bytes_len]at b;generalize d:uf 0 0 0 0 (QZ s)=u at b;have a:Q3 s=(u==-1):=by simp only[Q3,d];by_cases h:u=-1<;>simp[h]
 rw[a];clear a d;go_enter func129,ntmps129;go_wp2_with fail
 refine(b.o _ _).mono ?_;rintro e l ⟨rfl,rfl⟩;go_wp2;go_ret;exact⟨rfl,⟨rfl,rfl,rfl,by simp,λk hk=>QN w.drew _ k hk⟩⟩
theorem JJ (s:ByteArray)(w:J)(hn:s.size<=1048576):Ec Q 204 #[Xs s] w λe w'=>e=Z (G (Q3 s))/\Bw w.heap.size w w':=by
 have l:=λw=>run_bytes_of_string (P:=Q) w 9 160 5 s underlying9 underlying160 underlying5;have j:(QZ s).length<=1099511627776:=by rw[bytes_len];omega
 have d:=Hm (λc f=>implUtf8_row w.heap.size 0 c (QZ s) (w.drew.alloc (Fc (bytesRow s c) 5 f)) j (bytesRow_cells s c w 5 f) (bytes_all s));rw[bytes_len]at d;have a:=uf_ge 0 0 0 0 (QZ s);generalize g:uf 0 0 0 0 (QZ s)=u at d a;have b:Q3 s=decide (u<0):=by simp only[Q3,g];rcases a with h|h<;>simp[h]<;>omega
 rw[b];clear b g a;go_enter func204,ntmps204;go_wp2_with fail
 refine(d.o _ _).mono ?_;rintro e m ⟨rfl,rfl⟩;go_wp2;go_ret;exact⟨rfl,⟨rfl,rfl,rfl,by simp,λk hk=>QN w.drew _ k hk⟩⟩
theorem JB {R:Type}(B:R->Bool)(xs:List R)(z:R)(h:∀j,j<N xs->B (xs.getD j z)=true):xs.all B=true:=by
 rw[List.all_eq_true];intro x a;obtain⟨i,hi,rfl⟩:=List.getElem_of_mem a;have:=h i hi;simpa[Kx,Kj hi]using this
theorem Jd {R:Type}(B:R->Bool)(xs:List R)(z:R)(k:Nat)(a:k<N xs)(h:B (xs.getD k z)=false):xs.all B=false:=by
 rw[List.all_eq_false];refine⟨xs[k],List.getElem_mem a,?_⟩;have:xs.getD k z=xs[k]:=by simp[Kx,Kj a]
 rw[this]at h;simp[h]
theorem allT_t (l:List Int)(h:∀i,i<N l->tyB (l.getD i 0)=true):l.all tyB=true:=JB tyB l 0 h
theorem allT_f (l:List Int)(i:Nat)(hi:i<N l)(h:tyB (l.getD i 0)=false):l.all tyB=false:=Jd tyB l 0 i hi h
theorem allAreT_c (a)(c:Nat)(l:List Int)(w)(hn:N l<=1099511627776)(s:Has w a l):Ec Q 155 #[S a (N l) c,.func (.func 202) #[] #[]] w λe w'=>e=Z (G (l.all tyB))/\w=w':=by
 have p:=Hm s;clear s;go_enter func155,ntmps155;go_wp2_with fail
 go_loop [9] (λi=>∃k:Nat,k<=N l/\i=U O k/\∀j,j<k->tyB (l.getD j 0)=true) (λi=>N l-(intOf i).toNat)
 case atStart=>exact⟨0,Kw _,rfl,λj h=>by omega⟩
 obtain⟨k,D,rfl,b⟩:=hrel;by_cases g:k<N l
 . (have A:(k:Int)<(N l:Int):=by omega);rcases p.o with v|⟨E,C,B,q⟩
   . subst v;simp at g
   have d:=q k g;subst B;have t:=Hm (ity_c (l.getD k 0));generalize n:l.getD k 0=y at *;generalize m:tyB y=z at *;cases z
   . have f:=Hm (allT_f l k g (by rw[n];exact m));clear b q n m p;(go_wp2_with (refine(t.o _).mono ?_;rintro e u ⟨rfl,rfl⟩));go_ret;exact⟨by rw[f.o];rfl,rfl⟩
   have r:Hid (∀j,j<k+1->tyB (l.getD j 0)=true):=λj hj=>by
    rcases(by omega:j<k\/j=k)with h|h
    . exact b j h
    subst h;rw[n];exact m
   clear b q n m p;(go_wp2_with (refine(t.o _).mono ?_;rintro e u ⟨rfl,rfl⟩));(go_round);(case rel=>exact⟨k+1,by omega,by go_num,r.o⟩);case measure=>simp[intOf];omega
 have e:k=N l:=by omega
 subst e;have f:=Hm (allT_t l b);clear b p;go_wp2;go_ret;exact⟨by rw[f.o];rfl,rfl⟩
def ftB (t:Qc):Bool:=t.ps.all tyB&&t.rs.all tyB&&decide (N t.rs<=1)
def QY (g:Qm):Bool:=tyB g.ty.ty&&QF g.ini
def Jr (x:Exp):Bool:=Q3 x.nm&&kindB x.kind&&Qz x.ix
def JD (e:Ele):Bool:=QF e.off&&e.fs.all Qz
def JL (d:Dat):Bool:=QF d.off
def QV (xs:List In):Prop:=∀i,0<=(xs.getD i I0).v
theorem Jw {f:FuncId}{args:Array Vu}(h:Ec P f args w λe w'=>e=Z v/\w=w'):Ec P f args w λe w'=>e=Z v/\Bw w.heap.size w w' :=
 h.mono λe w' ⟨a,b⟩=>⟨a,by subst b;exact bFz⟩
theorem clo (a:Option Ad)(c:Nat)(xs:List In)(w:J)(b:N xs<=1048576/\∀i,i<N xs->In.LB 1048576 (xs.getD i I0))(hv:QV xs)(d:In.Ls 0 w a xs):Ec Q 205 #[S a (N xs) c] w λe w'=>e=Z (G (QF xs))/\Bw w.heap.size w w' :=
 iclosed_c a c xs w b.1 b.2 hv d.lst
theorem sclo (a:Option Ad)(c:Nat)(xs:List In)(w:J)(b:N xs<=1048576/\∀i,i<N xs->In.LB 1048576 (xs.getD i I0))(hv:QV xs)(d:In.Ls 0 w a xs):Ec Q 127 #[S a (N xs) c] w λe w'=>e=Z (G (QF xs))/\Bw w.heap.size w w' :=
 sclosed_c a c xs w b.1 b.2 hv d.lst
theorem ift_c (x:Qc)(m:Option Ad)(c1:Nat)(l:Option Ad)(c2:Nat)(w:J)(u:Qc.Is 0 w x m l)(t:Qc.LB 1048576 x):Ec Q 152 #[Ag #[S m (N x.ps) c1,S l (N x.rs) c2]] w λe w'=>e=Z (G (ftB x))/\Bw w.heap.size w w':=by
 obtain⟨B,A⟩:=t;obtain⟨p,n⟩:=u;have z:=Hm p;have y:=Hm n;clear p n;go_enter func152,ntmps152;go_upto_region 1 with fail
 refine Qj (λW=>Bk W w.heap.size [S m (N x.ps) c1,S l (N x.rs) c2]/\Bw w.heap.size w W) ⟨Bk.new,bFz.alloc lRz _⟩ ?_;rintro W ⟨d,a⟩;have r:=d.2.1 0 _ rfl;have q:=d.2.1 1 _ rfl;have g:=Hm (Jw (allAreT_c m c1 x.ps W (by omega) (z.o.up (up_below a)).has));generalize j:x.ps.all tyB=t0 at g;cases t0
 . (go_wp2_with fail);refine g.o.mono ?_;rintro e s ⟨rfl,c⟩;have a:=a.trans (c.mono a.size);clear c d;go_wp2;go_ret;exact⟨by simp[ftB,j],a⟩
 go_wp2_with fail
 refine g.o.mono ?_;rintro e s ⟨rfl,c⟩;have d:=d.keep c;have a:=a.trans (c.mono a.size);clear c g;have r:=d.2.1 0 _ rfl;have q:=d.2.1 1 _ rfl;have f:=Hm (Jw (allAreT_c l c2 x.rs s (by omega) (y.o.up (up_below a)).has));generalize k:x.rs.all tyB=t1 at f;cases t1
 . (go_wp2_with fail);refine f.o.mono ?_;rintro e v ⟨rfl,b⟩;have a:=a.trans (b.mono a.size);clear b d;go_wp2;go_ret;exact⟨by simp[ftB,j,k],a⟩
 go_wp2_with fail
 refine f.o.mono ?_;rintro e v ⟨rfl,b⟩;have d:=d.keep b;have a:=a.trans (b.mono a.size);clear b f;have r:=d.2.1 0 _ rfl;have q:=d.2.1 1 _ rfl;clear d;go_wp2
 all_goals
  go_ret
  refine⟨?_,a⟩
  simp[ftB,j,k]
  try omega
theorem iglob_c (x:Qm)(k:Option Ad)(c1:Nat)(w:J)(n:Qm.Is 0 w x k)(u:Qm.LB 1048576 x)(hp:QV x.ini):Ec Q 160 #[Ag #[U O x.ty.ty,G x.ty.mu,S k (N x.ini) c1]] w λe w'=>e=Z (G (QY x))/\Bw w.heap.size w w':=by
 have t:=u;have m:=n;clear n;have v:=Hm m;clear m;go_enter func160,ntmps160;go_upto_region 1 with fail
 refine Qj (λW=>Bk W w.heap.size [U O x.ty.ty,G x.ty.mu,S k (N x.ini) c1]/\Bw w.heap.size w W) ⟨Bk.new,bFz.alloc lRz _⟩ ?_;rintro W ⟨c,b⟩;have s:=c.2.1 0 _ rfl;have r:=c.2.1 1 _ rfl;have q:=c.2.1 2 _ rfl;have d:=Hm (igt_c x.ty W);generalize f:tyB x.ty.ty=t0 at d;cases t0
 . (go_wp2_with fail);refine d.o.mono ?_;rintro e p ⟨rfl,a⟩;have b:=b.trans (a.mono b.size);clear a c;go_wp2;go_ret;exact⟨by simp[QY,f],b⟩
 go_wp2_with fail
 refine d.o.mono ?_;rintro e p ⟨rfl,a⟩;have c:=c.keep a;have b:=b.trans (a.mono b.size);clear a d;have s:=c.2.1 0 _ rfl;have r:=c.2.1 1 _ rfl;have q:=c.2.1 2 _ rfl;have j:=Hm (clo k c1 x.ini p t hp (v.o.up (up_below b)));generalize l:QF x.ini=t1 at j;go_wp2_with fail
 refine j.o.mono ?_;rintro e y ⟨rfl,g⟩;have b:=b.trans (g.mono b.size);clear g c;go_wp2
 all_goals
  go_ret
  refine⟨?_,b⟩
  simp[QY,f,l]
theorem iexp_c (x:Exp)(w:J)(y:Exp.Is 0 w x)(v:Exp.LB 1048576 x):Ec Q 162 #[Ag #[Xs x.nm,U O x.kind,U O x.ix]] w λe w'=>e=Z (G (Jr x))/\Bw w.heap.size w w':=by
 have u:x.nm.size<=1048576:=v;go_enter func162,ntmps162;go_upto_region 1 with fail
 refine Qj (λW=>Bk W w.heap.size [Xs x.nm,U O x.kind,U O x.ix]/\Bw w.heap.size w W) ⟨Bk.new,bFz.alloc lRz _⟩ ?_;rintro W ⟨b,a⟩;have r:=b.2.1 0 _ rfl;have q:=b.2.1 1 _ rfl;have p:=b.2.1 2 _ rfl;have g:=Hm (JJ x.nm W u);generalize j:Q3 x.nm=t0 at g;cases t0
 . (go_wp2_with fail);refine g.o.mono ?_;rintro e t ⟨rfl,d⟩;have a:=a.trans (d.mono a.size);clear d b;go_wp2;go_ret;exact⟨by simp[Jr,j],a⟩
 go_wp2_with fail
 refine g.o.mono ?_;rintro e t ⟨rfl,d⟩;have b:=b.keep d;have a:=a.trans (d.mono a.size);clear d g;have r:=b.2.1 0 _ rfl;have q:=b.2.1 1 _ rfl;have p:=b.2.1 2 _ rfl;have f:=Hm (Jw (ikind_c x.kind t));generalize k:kindB x.kind=t1 at f;cases t1
 . (go_wp2_with fail);refine f.o.mono ?_;rintro e s ⟨rfl,c⟩;have a:=a.trans (c.mono a.size);clear c b;go_wp2;go_ret;exact⟨by simp[Jr,j,k],a⟩
 go_wp2_with fail
 refine f.o.mono ?_;rintro e s ⟨rfl,c⟩;have b:=b.keep c;have a:=a.trans (c.mono a.size);clear c f;have r:=b.2.1 0 _ rfl;have q:=b.2.1 1 _ rfl;have p:=b.2.1 2 _ rfl;have m:=Hm (Jw (XV x.ix s));generalize n:Qz x.ix=t2 at m;go_wp2_with fail
 refine m.o.mono ?_;rintro e z ⟨rfl,l⟩;have a:=a.trans (l.mono a.size);clear l b;go_wp2
 all_goals
  go_ret
  refine⟨?_,a⟩
  simp[Jr,j,k,n]
theorem iele_c (x:Ele)(l:Option Ad)(c1:Nat)(k:Option Ad)(c2:Nat)(w:J)(v:Ele.Is 0 w x l k)(u:Ele.LB 1048576 x)(hp:QV x.off):Ec Q 165 #[Ag #[S l (N x.off) c1,S k (N x.fs) c2]] w λe w'=>e=Z (G (JD x))/\Bw w.heap.size w w':=by
 obtain⟨t,A⟩:=u;obtain⟨p,n⟩:=v;have z:=Hm p;have y:=Hm n;clear p n;go_enter func165,ntmps165;go_upto_region 1 with fail
 refine Qj (λW=>Bk W w.heap.size [S l (N x.off) c1,S k (N x.fs) c2]/\Bw w.heap.size w W) ⟨Bk.new,bFz.alloc lRz _⟩ ?_;rintro W ⟨d,b⟩;have s:=d.2.1 0 _ rfl;have r:=d.2.1 1 _ rfl;have c:=Hm (clo l c1 x.off W t hp (z.o.up (up_below b)));generalize f:QF x.off=t0 at c;cases t0
 . (go_wp2_with fail);refine c.o.mono ?_;rintro e q ⟨rfl,a⟩;have b:=b.trans (a.mono b.size);clear a d;go_wp2;go_ret;exact⟨by simp[JD,f],b⟩
 go_wp2_with fail
 refine c.o.mono ?_;rintro e q ⟨rfl,a⟩;have d:=d.keep a;have b:=b.trans (a.mono b.size);clear a c;have s:=d.2.1 0 _ rfl;have r:=d.2.1 1 _ rfl;have j:=Hm (Jw (allAre_c k c2 x.fs q (by omega) (y.o.up (up_below b)).has));generalize m:x.fs.all Qz=t1 at j;go_wp2_with fail
 refine j.o.mono ?_;rintro e B ⟨rfl,g⟩;have b:=b.trans (g.mono b.size);clear g d;go_wp2
 all_goals
  go_ret
  refine⟨?_,b⟩
  simp[JD,f,m]
theorem idat_c (x:Dat)(d:Option Ad)(c1:Nat)(g:Option Ad)(c2:Nat)(w:J)(p:Dat.Is 0 w x d g)(n:Dat.LB 1048576 x)(hp:QV x.off):Ec Q 169 #[Ag #[S d (N x.off) c1,S g (N x.bs) c2]] w λe w'=>e=Z (G (JL x))/\Bw w.heap.size w w':=by
 obtain⟨m,s⟩:=n;obtain⟨j,l⟩:=p;have q:=Hm j;clear j l;go_enter func169,ntmps169;go_upto_region 1 with fail
 refine Qj (λW=>Bk W w.heap.size [S d (N x.off) c1,S g (N x.bs) c2]/\Bw w.heap.size w W) ⟨Bk.new,bFz.alloc lRz _⟩ ?_;rintro W ⟨k,b⟩;have r:=k.2.1 0 _ rfl;have c:=Hm (clo d c1 x.off W m hp (q.o.up (up_below b)));generalize f:QF x.off=t0 at c;go_wp2_with fail
 refine c.o.mono ?_;rintro e t ⟨rfl,a⟩;have b:=b.trans (a.mono b.size);clear a k;go_wp2
 all_goals
  go_ret
  refine⟨?_,b⟩
  simp[JL,f]
def SrcC (w:J)(a0:Option Ad)(cs:List Vu):Prop:=(a0=none/\cs=[])\/∃ad,a0=some ad/\∀j u,cs[j]?=some u->w.cell? (ad.add j)=some u
theorem SrcC.on {W w1:J}{a:Option Ad}{cs:List Vu}(h:SrcC W a cs)(b:Bw W.heap.size W w1):SrcC w1 a cs:=by
 rcases h with h|⟨c,e,h⟩
 . exact .inl h
 refine .inr ⟨c,e,λj u hu=>?_⟩;have:=h j u hu;rw[b.cell (Kk W _ this)];exact this
theorem JS (base:Nat)(t ty e:TypeId)(i:TypeInfo)(size:Nat)(d:P.underlying t=some (.slice e))(hi:P.info? e=some i) (v:Vu) (n:Nat) (xs:List Vu) (a:w.ownsRow base e size v n xs) (c:Nat):(Builtin.append_ #[t,t] ty #[v,S none 0 c]).run P w=.ok v w:=by
 rcases a.2 with ⟨rfl,rfl⟩|⟨g,cap,f,rfl,_,_,b,_⟩
 . simp[Builtin.append_,run_underlying d,sizeOf,typeInfo,hi,Builtin.lenOf,Builtin.firstCells]
 simp[Builtin.append_,run_underlying d,sizeOf,typeInfo,hi,Builtin.lenOf,Builtin.firstCells,b,storeCells]
theorem JU {d:Array Oper}{o:Oper}{K:Act->J->Prop}{E:Prop}(g:o.guard=none)(s x:Operand)(t:TypeId) (j:o.op=.call { callee:=.builtin .append,args:=#[s,x],argTypes:=#[t,t] }) (base:Nat) (e:TypeId) (i:TypeInfo) (z:Vu) (size bytes:Nat) (ht:P.underlying t=some (.slice e)) (hi:P.info? e=some i) (hz:i.zero=some z) (hsize:i.size=size) (hby:i.bytes=bytes) (hzs:z.cells.size=size) (hsz:0<size) (v:Vu) (n:Nat) (xs:List Vu) (hs:a.eval s=v) (hown:w.ownsRow base e size v n xs) (a0:Option Ad) (m c:Nat) (news:List Vu) (hx:a.eval x=S a0 m c) (hl:N news=m*size) (hnews:SrcC w a0 news) (h1:∀u∈news,u.oneCell'=true) (h63:n+m<=maxLen) (hbytes:(n+m)*bytes<=140737488355328) (hbase:base<=w.heap.size) (h:∀v' w',w'.ownsRow base e size v' (n+m) (xs++news)->w.grownBy w' v.ownBlock->K (a.put o.dst v') w'):if Tj o (yielded d a.tmps)=true then Oper.wp P o a w K Qz0 else E:=by
 have k:Tj o (yielded d a.tmps)=true:=by simp[Tj,g]
 rw[if_pos k];rcases hnews with ⟨rfl,rfl⟩|⟨q,rfl,l⟩
 . have p:m=0:=by
    rcases Nat.mul_eq_zero.1 hl.symm with h|h
    . exact h
    omega
   subst p;have f:=JS (P:=P) (w:=w) base t o.type e i size ht hi v n xs hown c;have:=h v w (by simpa using hown) (World.grownBy.refl _ _);unfold Oper.wp;simp[execOp,j,resolve,invoke,builtin,hs,hx,f,Result.andThen];exact this
 exact wp_append_own w s x t j base e i z size bytes ht hi hz hsize hby hzs hsz v n xs hs hown q m c news hx hl l h1 h63 hbytes hbase λv' w' a b _=>h v' w' a b
theorem HI.src {B w a0 xs}(h:HI O B w a0 xs):SrcC w a0 (I xs):=by
 rcases h with h|⟨b,o,rfl,_,d⟩
 . subst h;cases a0 with
   |none=>exact .inl ⟨rfl,rfl⟩
   |some ad=>exact .inr ⟨ad,rfl,λj u hu=>by simp[I]at hu⟩
 refine .inr ⟨_,rfl,λj u hu=>?_⟩;have c:j<N xs:=by
  rcases Lc j (N xs)with h|h
  . exact h
  simp[I,Hq h]at hu
 have a:(⟨b,o,none⟩:Ad).add j=⟨b,o+j,none⟩:=by unfold Addr.add;split<;>simp_all
 rw[a,d j c];simp[I,c,Kx]at hu⊢;exact hu
theorem own_zero (W:J):((W.alloc (Fc #[] 2)).drew).ownsRow W.heap.size 2 1 (S (some ⟨W.heap.size,0,none⟩) 0 0) 0 []:=by
 refine⟨rfl,.inr ⟨W.heap.size,0,#[],rfl,lRz,?_,lRz,by decide,rfl,rfl⟩⟩;exact Lw
theorem one_I (xs:List Int):∀u∈I xs,u.oneCell'=true:=by
 intro u a;simp only[I,List.mem_map]at a;obtain⟨y,_,rfl⟩:=a;rfl
theorem own_ge {base:Nat}{e:TypeId}{size:Nat}{n:Nat}{xs:List Vu}(h:w.ownsRow base e size v n xs):∀k,v.ownBlock=some k->base<=k:=by
 intro k a;rcases h.2 with ⟨rfl,_⟩|⟨g,cap,b,rfl,c,_⟩
 . simp[Tg]at a
 simp[Tg]at a;omega
theorem own_two {b rs:List Int}(h:w.ownsRow B 2 1 v (0+N b+N rs) (([]++I b)++I rs)):∃a c,v=S a (b++rs).length c/\Has w a (b++rs):=by
 have e:([]++I b)++I rs=I (b++rs):=by simp[I]
 have d:0+N b+N rs=(b++rs).length:=by simp
 rw[e,d]at h;exact XQ h
theorem sft_c (x:Qc)(D:Option Ad)(c1:Nat)(A:Option Ad)(c2:Nat)(w:J)(hI:Qc.Is 0 w x D A)(hl:Qc.LB 1048576 x):Ec Q 183 #[Ag #[S D (N x.ps) c1,S A (N x.rs) c2]] w λe w'=>e=Z (G (ftB x))/\Bw w.heap.size w w':=by
 obtain⟨l0,l1⟩:=hl;obtain⟨r1,r2⟩:=hI;have R1:=Hm r1;have R2:=Hm r2;clear r1 r2;obtain⟨i0,hi,r,q,p⟩:=info_parts info2;go_enter func183,ntmps183;go_upto_region 1 with fail
 refine Qj (λW=>Bk W w.heap.size [S D (N x.ps) c1,S A (N x.rs) c2]/\Bw w.heap.size w W) ⟨Bk.new,bFz.alloc lRz _⟩ ?_;rintro W ⟨n,u⟩;have q0:=n.2.1 0 _ rfl;have q1:=n.2.1 1 _ rfl;have H:=Hm (own_zero W);have bd:Bk (W.alloc (Fc #[] 2)) w.heap.size [S D (N x.ps) c1,S A (N x.rs) c2]:=n.past;have s0:=bd.2.1 0 _ rfl;have s1:=bd.2.1 1 _ rfl;clear bd;have b0:Bw W.heap.size W ((W.alloc (Fc #[] 2)).drew):=((Below.refl _ W).alloc lRz _).drew;have N1:=Hm ((R1.o.up (up_below u)).src.on b0);have N2:=Hm ((R2.o.up (up_below u)).src);have B0:=Hm b0;have BB:=Hm n;have B:=Hm u;clear b0 n u R1 R2;go_cut [3]from 5 (λs V=>∃a c,s=S a (x.ps++x.rs).length c/\Has V a (x.ps++x.rs)/\Bk V w.heap.size [S D (N x.ps) c1,S A (N x.rs) c2]/\Bw w.heap.size w V)
 case first=>
  go_region_law (first
   | (
    refine JU rfl (.tmp 5) (.tmp 7) 24 rfl W.heap.size 2 i0 (U O 0) 1 8 underlying24 hi r q p rfl (by decide) (S (some ⟨W.heap.size,0,none⟩) 0 0) 0 [] (by simp[Tc,Hw]) H.o D (N x.ps) c1 (I x.ps) (by simp[Tc,Hw]) (by simp[I]) N1.o (one_I _) (by simp[maxLen];omega) (by omega) (by simp) ?_
    intro v1 w1 m F
    have C:=Hm (B0.o.grown F (by simp) (fun k hk=>by simp[Tg]at hk;omega));have t1:w1.cell? ⟨w.heap.size,1,none⟩=some (S A (N x.rs) c2):=(BB.o.keep C.o).2.1 1 _ rfl;have O1:=Hm m;clear m F)
   | (
    refine JU rfl (.tmp 8) (.tmp 10) 24 rfl W.heap.size 2 i0 (U O 0) 1 8 underlying24 hi r q p rfl (by decide) v1 (0+N x.ps) ([]++I x.ps) (by simp[Tc,Hw]) O1.o A (N x.rs) c2 (I x.rs) (by simp[Tc,Hw]) (by simp[I]) (N2.o.on C.o) (one_I _) (by simp[maxLen];omega) (by omega) C.o.size ?_
    intro v2 w2 g E
    have b2:=Hm (C.o.grown E C.o.size (own_ge O1.o));have O2:=Hm g;clear g E))
  all_goals
   go_wp2_with fail
   go_meet
   obtain⟨a,c,e,R⟩:=own_two O2.o
   exact⟨a,c,e,R,BB.o.keep b2.o,B.o.trans (b2.o.mono B.o.size)⟩
 obtain⟨a,c,rfl,R,n,u⟩:=hcut;have a6:(x.ps++x.rs).length<=2097152:=by simp;omega
 have HE:Hid (ftB x=((x.ps++x.rs).all tyB&&decide (N x.rs<=1))):=by show _=_;simp[ftB,List.all_append]
 clear H N1 N2 B0 BB B s0 s1 q0 q1 hi r q p;generalize x.ps++x.rs=l at *;have q1:=n.2.1 1 _ rfl;have B:=Hm u;have Y:=Hm R;clear n u R;go_wp2_with fail
 go_loop [4] (λi=>∃k:Nat,k<=N l/\i=U O k/\∀j,j<k->tyB (l.getD j 0)=true) (λi=>N l-(intOf i).toNat)
 case atStart=>exact⟨0,Kw _,rfl,λj h=>by omega⟩
 obtain⟨k,hk,rfl,f⟩:=hrel;by_cases t:k<N l
 . (have a8:(k:Int)<(N l:Int):=by omega);rcases Y.o with hx|⟨C,o1,ea,hc⟩
   . subst hx;simp at t
   have d:=hc k t;subst ea;have HK:=Hm (ty_c (l.getD k 0));generalize M:l.getD k 0=y at *;generalize L:tyB y=z at *;cases z
   . (have b:Hid (ftB x=false):=by show _=_;rw[HE.o,Jd tyB l 0 k t (by rw[M];exact L)];rfl);clear f hc M L Y HE;(go_wp2_with (refine(HK.o _).mono ?_;rintro e w1 ⟨rfl,rfl⟩));go_ret;exact⟨by rw[b.o];rfl,B.o⟩
   have af:Hid (∀j,j<k+1->tyB (l.getD j 0)=true):=λj hj=>by
    rcases(by omega:j<k\/j=k)with h|h
    . exact f j h
    subst h;rw[M];exact L
   clear f hc M L Y;(go_wp2_with (refine(HK.o _).mono ?_;rintro e w1 ⟨rfl,rfl⟩));(go_round);(case rel=>exact⟨k+1,by omega,by go_num,af.o⟩);case measure=>simp[intOf];omega
 have e:k=N l:=by omega
 subst e;have b:Hid (ftB x=decide (N x.rs<=1)):=by show _=_;rw[HE.o,JB tyB l 0 f,Bool.true_and]
 clear f Y HE;by_cases X:N x.rs<=1
 . (have v:(N x.rs:Int)<=1:=by omega);(have HF:Hid (ftB x=true):=by show _=_;rw[b.o];simp[X]);clear b X;go_wp2;go_ret;exact⟨by rw[HF.o];simp[v],B.o⟩
 have v:¬(N x.rs:Int)<=1:=by omega
 have HF:Hid (ftB x=false):=by show _=_;rw[b.o];simp[X]
 clear b X;go_wp2;go_ret;exact⟨by rw[HF.o];simp[v],B.o⟩
theorem eqLim (w:J)(a:Int)(b:Int)(h:Bool):(binOp .eql 175 (Ag #[U O a,U O b,G h]) (Ag #[U O 0,U O 0,G false])).run Q w=.ok (G (a==0&&(b==0&&h==false))) w:=by
 have j:(Q.fieldsOf 175).toList.map (λf=>(f.type,f.offset,decide (f.name= "_")))=[(2,0,false),(2,1,false),(4,2,false)]:=by kernel_rfl
 rw[run_eql_struct,show(10000:Nat)=9998+1+1 from rfl,run_equalIn_struct w (9998+1) _ _ _ (by kernel_rfl) (by kernel_rfl)];generalize(Q.fieldsOf 175).toList=fs at j;obtain⟨R,I,rfl,m,E⟩:=List.map_eq_cons_iff.1 j;obtain⟨M,H,rfl,l,D⟩:=List.map_eq_cons_iff.1 E;obtain⟨L,F,rfl,k,C⟩:=List.map_eq_cons_iff.1 D;obtain rfl:=List.map_eq_nil_iff.1 C;simp only[Prod.mk.injEq,decide_eq_false_iff_not]at m l k;obtain⟨p,s,v⟩:=m;obtain⟨o,r,u⟩:=l;obtain⟨n,q,t⟩:=k;simp only[Op.eqFields,ne_eq,v,u,t,not_false_eq_true,if_true,p,s,o,r,n,q,Sem.run_bind];have g:∀(x y z:Vu),(part 2 #[x,y,z] 0).run Q w=.ok x w:=λx y z=>by simp[part,isAgg,run_underlying underlying2]
 have d:∀(x y z:Vu),(part 2 #[x,y,z] 1).run Q w=.ok y w:=λx y z=>by simp[part,isAgg,run_underlying underlying2]
 have c:∀(x y z:Vu),(part 4 #[x,y,z] 2).run Q w=.ok z w:=λx y z=>by simp[part,isAgg,run_underlying underlying4]
 simp only[g,d,c,Hc,run_equalIn_int w 9998 2 O O _ _ underlying2,run_equalIn_bool' w 9998 4 _ _ underlying4];by_cases B:a=0<;>by_cases A:b=0<;>cases h<;>simp[Sem.run_bind,g,d,c,run_equalIn_int w 9998 2 O O _ _ underlying2,run_equalIn_bool' w 9998 4 _ _ underlying4,B,A]
theorem eqGty (w:J)(a:Int)(h:Bool):(binOp .eql 176 (Ag #[U O a,G h]) (Ag #[U O 0,G false])).run Q w=.ok (G (a==0&&h==false)) w:=by
 have d:(Q.fieldsOf 176).toList.map (λf=>(f.type,f.offset,decide (f.name= "_")))=[(2,0,false),(4,1,false)]:=by kernel_rfl
 rw[run_eql_struct,show(10000:Nat)=9998+1+1 from rfl,run_equalIn_struct w (9998+1) _ _ _ (by kernel_rfl) (by kernel_rfl)];generalize(Q.fieldsOf 176).toList=fs at d;obtain⟨z,u,rfl,j,s⟩:=List.map_eq_cons_iff.1 d;obtain⟨v,t,rfl,g,r⟩:=List.map_eq_cons_iff.1 s;obtain rfl:=List.map_eq_nil_iff.1 r;simp only[Prod.mk.injEq,decide_eq_false_iff_not]at j g;obtain⟨l,n,p⟩:=j;obtain⟨k,m,o⟩:=g;simp only[Op.eqFields,ne_eq,p,o,not_false_eq_true,if_true,l,n,k,m,Sem.run_bind];have c:∀(x y:Vu),(part 2 #[x,y] 0).run Q w=.ok x w:=λx y=>by simp[part,isAgg,run_underlying underlying2]
 have b:∀(x y:Vu),(part 4 #[x,y] 1).run Q w=.ok y w:=λx y=>by simp[part,isAgg,run_underlying underlying4]
 simp only[c,b,Hc,run_equalIn_int w 9998 2 O O _ _ underlying2,run_equalIn_bool' w 9998 4 _ _ underlying4];by_cases q:a=0<;>cases h<;>simp[Sem.run_bind,c,b,run_equalIn_int w 9998 2 O O _ _ underlying2,run_equalIn_bool' w 9998 4 _ _ underlying4,q]
end YtaccbbndmmhenaaGreat
namespace YtaccbbndmmhenaaGreat.Va
open Go.RowKit Go.Sort
variable {want t:Int}{w w0 V:J}{xs:List Int}{ks:List Qb}{cs:List Vu}{T n g c D p:Nat}{r:Qb}{v u sp:Vu}
structure Blk where
 op:Int
 gj:List Int
 results:List Int
 gk:Nat
 jq:Bool
variable {b:Blk}{bs:List Blk}
structure Ctx where
 types:List Qc
 jk:List Qc
 jx:List Qx
 gw:Nat
 jv:Nat
 jz:Nat
structure Fn where
 ps:List Int
 gq:List Grp
 jj:List Int
 cq:List Blk
variable {s s':Fn}
abbrev R:=Except Int
def top (s:Fn):Blk:=s.cq.getLastD ⟨0,[],[],0,false⟩
def pop (s:Fn)(want:Int):R (Int × Fn) :=
 if(N s.jj)<=(top s).gk then(if(top s).jq then .ok (want,s)else .error 6)else
  let t:=s.jj.getLastD 0
  let s':={ s with jj:=s.jj.dropLast }
  if t=0 then .ok (want,s')else if want≠0/\want≠t then .error 6 else .ok (t,s')
def Q7 (s:Fn)(want:Int):R Fn:=(pop s want).map (·.2)
def XN (s:Fn):List Int->R Fn
 |[]=>.ok s
 |t::ts=>(Q7 s t).bind λs'=>XN s' ts
def Xq (s:Fn)(ts:List Int):R Fn:=XN s ts.reverse
def push (s:Fn)(ts:List Int):Fn:={ s with jj:=s.jj++ts }
def QI (s:Fn)(op:Int)(rs:List Int):Fn:={ s with cq:=s.cq++[⟨op,if op=3 then []else rs,rs,N s.jj,false⟩] }
def die (s:Fn):Fn:={ s with jj:=s.jj.take (top s).gk,cq:=s.cq.dropLast++[{ top s with jq:=true }] }
def JC (s:Fn)(ts:List Int):R Fn:=(Xq s ts).map die
def Qh (a:Int):List Int:=if a=64 then []else [a]
def label (s:Fn)(n:Int):Blk:=s.cq.getD (N s.cq-1-n.toNat) ⟨0,[],[],0,false⟩
def Qw (s:Fn):R (Blk × Fn):=(Xq s (top s).results).bind λs'=>if(N s'.jj)≠(top s).gk then .error 6 else .ok (top s,{ s' with cq:=s'.cq.dropLast })
def Xj (s:Fn):Int:=N s.ps+(s.gq.map (·.n)).sum
def XU:List Grp->Int->Int
 |[],_=>0
 |g::gs,i=>if i<g.n then g.ty else XU gs (i-g.n)
def loc (s:Fn)(i:Int):Int:=if i<N s.ps then s.ps.getD i.toNat 0 else XU s.gq (i-N s.ps)
def Jm (op:Int):Int:=if op∈[44,45,48,49,58,60]then 0 else if op∈[46,47,50,51,59,61]then 1 else if op∈[41,43,55,57]then 3 else 2
def Qk (x:Ctx)(frm:Int->Int)(s:Fn)(y:In):Bool :=
 if frm y.op=5\/frm y.op=6 then decide (0<x.jz)else
 if y.op=12\/y.op=13 then decide (y.a<N s.cq)else
 if y.op=14 then y.l.all (λi=>decide (i<N s.cq))&&decide (y.a<N s.cq)else
 if y.op=16 then decide (y.a<N x.jk)else
 if y.op=17 then decide (0<x.jv)&&decide (y.a<N x.types)else
 if y.op=32\/y.op=33\/y.op=34 then decide (y.a<Xj s)else
 if y.op=35\/y.op=36 then decide (y.a<N x.jx)else true
def Q6 (x:Ctx)(i:Int):Qx:=x.jx.getD i.toNat Qx.z
def apply (s:Fn)(t:Qc):R Fn:=(Xq s t.ps).map (push · t.rs)
def QW (x:Ctx)(oty:Int->Qc)(s:Fn)(y:In):Qc :=
 if y.op=13 then⟨(label s y.a).gj++[127],(label s y.a).gj⟩else
 if y.op=16 then x.jk.getD y.a.toNat Qc.z else
 if y.op=17 then⟨(x.types.getD y.a.toNat Qc.z).ps++[127],(x.types.getD y.a.toNat Qc.z).rs⟩else
 if y.op=32 then⟨[],[loc s y.a]⟩else if y.op=33 then⟨[loc s y.a],[]⟩else if y.op=34 then⟨[loc s y.a],[loc s y.a]⟩else
 if y.op=35 then⟨[],[(Q6 x y.a).ty]⟩else if y.op=36 then⟨[(Q6 x y.a).ty],[]⟩else oty y.op
def JQ (x:Ctx)(oty:Int->Qc)(s:Fn)(y:In):R Fn :=
 if y.op=0 then JC s []else
 if y.op=2\/y.op=3 then .ok (QI s y.op (Qh y.a))else
 if y.op=4 then(Q7 s 127).map (QI · 4 (Qh y.a))else
 if y.op=5 then(Qw s).map λp=>QI p.2 5 p.1.results else
 if y.op=11 then(Qw s).bind λp=>if p.1.op=4/\p.1.results≠[]then .error 6 else .ok (push p.2 p.1.results)else
 if y.op=12 then JC s (label s y.a).gj else
 if y.op=14 then(Q7 s 127).bind λs'=>if y.l.all (λi=>decide ((label s' i).gj=(label s' y.a).gj))then JC s' (label s' y.a).gj else .error 6 else
 if y.op=15 then JC s (s.cq.headD ⟨0,[],[],0,false⟩).results else
 if y.op=26 then Q7 s 0 else
 if y.op=27 then(Q7 s 127).bind λs1=>(pop s1 0).bind λp=>(pop p.2 p.1).map λq=>push q.2 [q.1]else
 apply s (QW x oty s y)
def step (x:Ctx)(frm:Int->Int)(oty:Int->Qc)(s:Fn)(y:In):R Fn :=
 if Qk x frm s y=false then .error 2 else
 if frm y.op=5/\Jm y.op<y.a then .error 8 else
 if y.op=36/\(Q6 x y.a).mu=false then .error 9 else JQ x oty s y
def QL (x:Ctx)(frm:Int->Int)(oty:Int->Qc):Fn->Nat->List In->Except (Int × Nat) Fn
 |s,_,[]=>.ok s
 |s,k,y::ys=>match step x frm oty s y with
  |.error e=>.error (e,k)
  |.ok s'=>QL x frm oty s' (k+1) ys
def fn0 (t:Qc)(gq:List Grp):Fn:=⟨t.ps,gq,[],[⟨2,t.rs,t.rs,0,false⟩]⟩
theorem Xy (V:J)(g j:Nat)(u:Vu):V.grownBy (V.setCell ⟨g,j,none⟩ u) (some g) :=
 ⟨rfl,rfl,rfl,by simp,λi hi hne=>Below.heap_setCell _ _ _ _ (λe=>hne (by simp at e;rw[e]))⟩
structure Mo (D:Nat)(w0:J)(rs:List Qb)(V:J):Prop where
 own:Own D V rs
 b:Bw D w0 V
 le:D<=V.heap.size
abbrev box (t n g:Nat)(cs:List Vu):Qb:=⟨t,n,1,S (some ⟨g,0,none⟩) 1 1,cs⟩
section
variable {D:Nat}{w0 V W:J}{rs rs':List Qb}
theorem Mo.perm (h:Mo D w0 rs V)(p:rs.Perm rs'):Mo D w0 rs' V:=⟨h.own.perm p,h.b,h.le⟩
theorem Mo.keep (h:Mo D w0 rs V)(a:Bw V.heap.size V W):Mo D w0 rs W:=⟨h.own.keep a,h.b.trans (a.mono h.le),Kq h.le a.size⟩
theorem Mo.drewN (h:Mo D w0 rs V)(n:Nat):Mo D w0 rs (V.drewN n):=h.keep ⟨rfl,rfl,rfl,lRz,λ_ _=>rfl⟩
theorem Mo.row (h:Mo D w0 rs V)(hr:r∈rs):r.Ok D V:=h.own.all r hr
theorem Mo.tail (h:Mo D w0 (r::rs) V):Mo D w0 rs V:=⟨h.own.tail,h.b,h.le⟩
theorem Mo.right {ns:List Qb}(h:Mo D w0 (ns++rs) V):Mo D w0 rs V:=⟨h.own.right,h.b,h.le⟩
theorem Mo.set {sz:Nat}(h:Mo D w0 (⟨T,sz,n,S (some ⟨g,0,none⟩) n c,cs⟩::rs) V)(j:Nat)(u:Vu):Mo D w0 (⟨T,sz,n,S (some ⟨g,0,none⟩) n c,cs.set j u⟩::rs) (V.setCell ⟨g,j,none⟩ u):=by
 have f:V.ownsRow D T sz (S (some ⟨g,0,none⟩) n c) n cs:=h.own.head;have a:=(World.ownsRow.stored f j u).1;have d:=Xy V g j u;have k:=World.ownsRow.lt f g rfl;refine⟨h.own.push (r':=⟨T,sz,n,S (some ⟨g,0,none⟩) n c,cs.set j u⟩) d a (.inl rfl),h.b.setCell k.1 _,by simpa using h.le⟩
theorem Mo.cell {sz:Nat}(h:Mo D w0 rs V)(d:(⟨T,sz,n,v,cs⟩:Qb)∈rs)(hv:v=S (some ⟨g,0,none⟩) n c){j:Nat}(f:j<n*sz)(b:cs[j]?=some u):V.cell? ⟨g,j,none⟩=some u/\V.frozen? ⟨g,j,none⟩=false:=by
 subst hv;have a:V.ownsRow D T sz (S (some ⟨g,0,none⟩) n c) n cs:=h.own.all _ d;exact⟨(World.ownsRow.cellAt a j f).trans b,World.ownsRow.frozenAt a j⟩
theorem Mo.bx {t:Nat}(h:Mo D w0 rs V)(a:box t n g cs∈rs)(j:Nat)(b:j<n:=by omega)(hu:cs[j]?=some u:=by exact rfl):V.cell? ⟨g,j,none⟩=some u/\V.frozen? ⟨g,j,none⟩=false:=h.cell a rfl (by omega) hu
theorem Mo.b0 {t:Nat}(h:Mo D w0 (box t n g cs::rs) V)(j:Nat)(a:j<n:=by omega)(hu:cs[j]?=some u:=by exact rfl):V.cell? ⟨g,j,none⟩=some u/\V.frozen? ⟨g,j,none⟩=false:=h.bx (t:=t) (n:=n) (cs:=cs) (by simp) j a hu
theorem Mo.lt {sz:Nat}(h:Mo D w0 rs V)(a:(⟨T,sz,n,S (some ⟨g,0,none⟩) n c,cs⟩:Qb)∈rs):D<=g/\g<V.heap.size:=World.ownsRow.lt (h.own.all _ a) g rfl
theorem Mo.new {ns}(h:Mo D w0 rs V)(a:Bw V.heap.size V W)(hn:Own V.heap.size W ns):Mo D w0 (ns++rs) W:=by
 refine⟨(Own.new h.own (h.own.keep a) hn h.le).comm,h.b.trans (a.mono h.le),Kq h.le a.size⟩
theorem Mo.box {cur:Array Vu}(h:Mo D w0 rs V)(e n:Nat)(hn:cur.size=n):Mo D w0 (Va.box e n V.heap.size cur.toList::rs) (V.alloc (Fc cur e)):=by
 have a:Bw V.heap.size V (V.alloc (Fc cur e)):=bFz.alloc lRz _;refine h.new (ns:=[Va.box e n V.heap.size cur.toList]) a (Own.one ?_);subst hn;refine⟨by simp,.inr ⟨V.heap.size,1,cur,rfl,lRz,?_,lRz,by decide,by simp,?_⟩⟩
 . show(V.heap.push _)[V.heap.size]?=_;exact Lw
 show cur.toList.take (1*cur.size)=cur.toList;rw[List.take_of_length_le (by simp)]
theorem Mo.swap {r':Qb}(h:Mo D w0 (r::rs) V)(c:r'.Ok D V)(a:r'.v.ownBlock=r.v.ownBlock):Mo D w0 (r'::rs) V :=
 ⟨h.own.push (World.grownBy.refl _ _) c (.inl a),h.b,h.le⟩
theorem Mo.push {r':Qb}{V1}(h:Mo D w0 (r::rs) V)(f:Bw V.heap.size V V1)(d:V1.grownBy W r.v.ownBlock)(own:r'.Ok D W)(c:r'.v.ownBlock=r.v.ownBlock\/r'.v.ownBlock=some V1.heap.size):Mo D w0 (r'::rs) W:=by
 have a:=h.keep f;exact⟨a.own.push d own c,a.b.grown d a.le (λk hk=>(a.own.lt (Jy.2 ⟨r,by simp,hk⟩)).1),Kq a.le d.size⟩
end
theorem own_take {B e sz:Nat}{a:Option Ad}{l:List Vu}(h:w.ownsRow B e sz (S a n c) n l){m:Nat}(q:m<=n):w.ownsRow B e sz (S a m c) m (l.take (m*sz)):=by
 rcases h.2 with ⟨d,t⟩|⟨u,o,k,d,s,r,p,j,g,b⟩
 . subst t;(have:m=0:=by omega);subst this;refine⟨by simp,.inl ⟨d,rfl⟩⟩
 simp only[Value.slice.injEq,true_and]at d;obtain⟨rfl,rfl⟩:=d;have v:=h.1;have f:m*sz<=n*sz:=Nat.mul_le_mul_right _ q;refine⟨by simp;omega,.inr ⟨u,c,k,rfl,s,r,by omega,j,g,?_⟩⟩;rw[<- b,List.take_take,Nat.min_eq_left f]
def Ty (D:Nat)(w0:J)(ks:List Qb)(v:Vu)(xs:List Int):Prop:=(∃a c,v=S a (N xs) c/\(xs=[]\/∃b off,a=some ⟨b,off,none⟩/\b<D/\∀i,i<N xs->w0.cell? ⟨b,off+i,none⟩=some (U O (xs.getD i 0))))\/(⟨2,1,N xs,v,I xs⟩:Qb)∈ks
theorem Ty.sub {ks':List Qb}(h:Ty D w0 ks v xs)(a:∀r∈ks,r∈ks'):Ty D w0 ks' v xs:=h.imp id (a _)
theorem Ty.nil (D:Nat)(w0:J)(ks:List Qb)(a:Option Ad)(c:Nat):Ty D w0 ks (S a 0 c) []:=.inl ⟨a,c,rfl,.inl rfl⟩
theorem Ty.shape {rs:List Qb}(h:Ty D w0 ks v xs)(d:Mo D w0 rs V)(f:∀r∈ks,r∈rs):∃a c,v=S a (N xs) c/\Has V a xs:=by
 rcases h with ⟨a,c,rfl,h⟩|h
 . refine⟨a,c,rfl,?_⟩;rcases h with h|⟨b,off,rfl,j,g⟩
   . exact .inl h
   exact .inr ⟨b,off,rfl,λi hi=>(d.b.cell (p:=⟨b,off+i,none⟩) j).trans (g i hi)⟩
 exact XQ (d.row (f _ h))
theorem Has.src {w a0 xs}(h:Has w a0 xs):SrcC w a0 (I xs):=by
 have:HI O 0 w a0 xs:=by
  rcases h with h|⟨b,o,e,a⟩
  . exact .inl h
  exact .inr ⟨b,o,e,Kw _,a⟩
 exact this.src
def Fl (Rp:Blk->List Vu->Prop):List Blk->List Vu->Prop
 |[],cs=>cs=[]
 |b::bs,cs=>∃c1 c2,cs=c1++c2/\Rp b c1/\Fl Rp bs c2
section
variable {Rp Rq:Blk->List Vu->Prop}
theorem Fl.mono (hr:∀b c,Rp b c->Rq b c):∀{bs:List Blk} {cs:List Vu},Fl Rp bs cs->Fl Rq bs cs
 |[],_,h=>h
 |b::bs,_,⟨c1,c2,e,h1,h2⟩=>⟨c1,c2,e,hr _ _ h1,Fl.mono hr h2⟩
theorem Fl.app:∀{bs c:List Blk} {cs a:List Vu},Fl Rp bs cs->Fl Rp c a->Fl Rp (bs++c) (cs++a)
 |[],_,_,_,h,k=>by cases h;simpa using k
 |b::bs,_,_,_,⟨c1,c2,e,h1,h2⟩,k=>⟨c1,c2++_,by rw[e,Kv],h1,Fl.app h2 k⟩
theorem Fl.one {c:List Vu}(h:Rp b c):Fl Rp [b] c:=⟨c,[],by simp,h,rfl⟩
theorem Fl.split:∀{bs a:List Blk} {cs:List Vu},Fl Rp (bs++a) cs->∃c1 c2,cs=c1++c2/\Fl Rp bs c1/\Fl Rp a c2
 |[],_,cs,h=>⟨[],cs,rfl,rfl,h⟩
 |b::bs,_,_,⟨c1,c2,e,h1,h2⟩=>by
  obtain⟨c,j,g,f,d⟩:=Fl.split h2
  exact⟨c1++c,j,by rw[e,g,Kv],⟨c1,c,rfl,h1,f⟩,d⟩
theorem Fl.un {c:List Vu}(h:Fl Rp [b] c):Rp b c:=by
 obtain⟨g,f,e,d,a⟩:=h;cases a;rw[e];simpa using d
theorem Fl.len {z:Nat}(a:∀b c,Rp b c->N c=z):∀{bs:List Blk} {cs:List Vu},Fl Rp bs cs->N cs=N bs*z
 |[],_,h=>by cases h;simp
 |b::bs,_,⟨c1,c2,e,h1,h2⟩=>by rw[e];simp[a _ _ h1,Fl.len a h2,Nat.add_mul];omega
theorem Fl.at {z:Nat}(f:∀b c,Rp b c->N c=z)(h:Fl Rp bs cs){i:Nat}(d:bs[i]?=some b):∃c,Rp b c/\∀j u,c[j]?=some u->cs[i*z+j]?=some u:=by
 have hi:i<N bs:=(List.getElem?_eq_some_iff.1 d).1;have e:bs=bs.take i++(b::bs.drop (i+1)):=by
  conv=>lhs;rw[<- List.take_append_drop i bs]
  rw[Tw hi];rw[Kj hi]at d;cases d;rfl
 rw[e]at h;obtain⟨n,q,rfl,m,c,p,rfl,l,o⟩:=Fl.split h;refine⟨c,l,λj u hu=>?_⟩;have g:=Fl.len f m;have a:(bs.take i).length=i:=by simp;omega
 rw[a]at g;have k:j<N c:=(List.getElem?_eq_some_iff.1 hu).1;rw[Tb (by omega),show i*z+j-N n=j by omega,List.getElem?_append_left k];exact hu
end
theorem XP {P:Program}{f:Array Oper}{rest:List Oper}{o:Oper}{a:Act}{Qz0:Exit->Act->J->Prop}(j:o.guard=none)(s x:Operand)(t:TypeId) (k:o.op=.call { callee:=.builtin .append,args:=#[s,x],argTypes:=#[t,t] }) (base:Nat) (e:TypeId) (i:TypeInfo) (z:Vu) (size bytes:Nat) (ht:P.underlying t=some (.slice e)) (hi:P.info? e=some i) (hz:i.zero=some z) (hsize:i.size=size) (hby:i.bytes=bytes) (hzs:z.cells.size=size) (hsz:0<size) (v:Vu) (n:Nat) (xs:List Vu) (hs:a.eval s=v) (hown:w.ownsRow base e size v n xs) (a0:Option Ad) (m c:Nat) (news:List Vu) (hx:a.eval x=S a0 m c) (hl:N news=m*size) (hnews:SrcC w a0 news) (h1:∀u∈news,u.oneCell'=true) (h63:n+m<=maxLen) (hbytes:(n+m)*bytes<=140737488355328) (hbase:base<=w.heap.size) (h:∀v' w',w'.ownsRow base e size v' (n+m) (xs++news)->w.grownBy w' v.ownBlock->(v'.ownBlock=v.ownBlock\/v'.ownBlock=some w.heap.size)->wpList P f Qz0 rest (a.put o.dst v') w'):wpList P f Qz0 (o::rest) a w:=by
 rcases hnews with ⟨rfl,rfl⟩|⟨r,rfl,l⟩
 . have p:m=0:=by
    rcases Nat.mul_eq_zero.1 hl.symm with h|h
    . exact h
    omega
   subst p;have g:=JS (P:=P) (w:=w) base t o.type e i size ht hi v n xs hown c;have q:=h v w (by simpa using hown) (World.grownBy.refl _ _) (.inl rfl);refine wpList_plain j λK hK=>?_;unfold Oper.wp execOp;simp only[k,resolve,invoke,builtin,Sem.run_bind,Sem.run_pure,Hc,Rn,Hp,Lm,hs,hx,g];exact hK _ _ q
 exact wpList_append_own_at _ j s x t k base e i z size bytes ht hi hz hsize hby hzs hsz v n xs hs hown r m c news hx hl l h1 h63 hbytes hbase λv' w' a b _ d=>h v' w' a b d
theorem Qs {P:Program}{d:Array Oper}{o:Oper}{a:Act}{K:Act->J->Prop}{Qz0:Exit->Act->J->Prop}{E:Prop}(f:o.guard=none)(s x:Operand)(t:TypeId) (l:o.op=.call { callee:=.builtin .append,args:=#[s,x],argTypes:=#[t,t] }) (base:Nat) (e:TypeId) (i:TypeInfo) (z:Vu) (size bytes:Nat) (ht:P.underlying t=some (.slice e)) (hi:P.info? e=some i) (hz:i.zero=some z) (hsize:i.size=size) (hby:i.bytes=bytes) (hzs:z.cells.size=size) (hsz:0<size) (v:Vu) (n:Nat) (xs:List Vu) (hs:a.eval s=v) (hown:w.ownsRow base e size v n xs) (ad:Ad) (m c:Nat) (news:List Vu) (hx:a.eval x=S (some ad) m c) (hl:N news=m*size) (hn:∀j u,news[j]?=some u->w.cell? (ad.add j)=some u) (h1:∀u∈news,u.oneCell'=true) (h63:n+m<=maxLen) (hbytes:(n+m)*bytes<=140737488355328) (hbase:base<=w.heap.size) (h:∀b w',w'.ownsRow base e size b (n+m) (xs++news)->w.grownBy w' v.ownBlock->(b.ownBlock=v.ownBlock\/b.ownBlock=some w.heap.size)->K (a.put o.dst b) w'):if Tj o (yielded d a.tmps)=true then Oper.wp P o a w K Qz0 else E:=by
 have g:Tj o (yielded d a.tmps)=true:=by simp[Tj,f]
 rw[if_pos g];obtain⟨b,w',k,r,q,y,p⟩:=run_append_own_at (P:=P) w base t o.type e i z size bytes ht hi hz hsize hby hzs hsz v n xs hown ad m c news hl hn h1 h63 hbytes hbase;unfold Oper.wp execOp;simp only[l,resolve,invoke,builtin,Sem.run_bind,Sem.run_pure,Hc,Rn,Hp,Lm,hs,hx,k];exact h b w' r q p
theorem Jo (w:J)(cs:List Vu)(t:TypeId):∀j u,cs[j]?=some u->(w.alloc (Fc cs.toArray t)).cell? ((⟨w.heap.size,0,none⟩:Ad).add j)=some u:=by
 intro j u a;have k:Bk (w.alloc (Fc cs.toArray t)) w.heap.size cs:=Bk.new;rw[Addr.add_lit,Tx];exact k.2.1 j u a
structure Lo where
 pv:Vu
 gv:Vu
 ev:Vu
variable {l:Lo}
abbrev ib (sp:Vu)(l:Lo)(s b:Vu):List Vu:=[sp,l.pv,l.gv,l.ev,s,b]
def IRep (D:Nat)(w0:J)(ks:List Qb)(b:Blk)(cs:List Vu):Prop:=∃tv rv,cs=[tv,U O b.gk,U O b.op,rv,G b.jq]/\Ty D w0 ks tv b.gj/\Ty D w0 ks rv b.results
theorem irep_len (b:Blk)(c:List Vu)(h:IRep D w0 ks b c):N c=5:=by obtain⟨a,d,rfl,_⟩:=h;rfl
abbrev bxR (p:Nat)(sp:Vu)(l:Lo)(sv bv:Vu):Qb:=box 116 6 p (ib sp l sv bv)
abbrev stR (s:Fn)(sv:Vu):Qb:=⟨2,1,N s.jj,sv,I s.jj⟩
abbrev blR (n:Nat)(bv:Vu)(cs:List Vu):Qb:=⟨221,5,n,bv,cs⟩
def ISt (D:Nat)(w0:J)(p:Nat)(sp:Vu)(l:Lo)(ks:List Qb)(s:Fn)(V:J):Prop:=∃sv bv bcs,Mo D w0 (bxR p sp l sv bv::stR s sv::blR (N s.cq) bv bcs::ks) V/\Fl (IRep D w0 ks) s.cq bcs
section
variable {D:Nat}{w0:J}{p:Nat}{sp:Vu}{l:Lo}{ks:List Qb}{s:Fn}{V W:J}
theorem ISt.keep (h:ISt D w0 p sp l ks s V)(c:Bw V.heap.size V W):ISt D w0 p sp l ks s W:=by
 obtain⟨b,g,a,f,d⟩:=h;exact⟨b,g,a,f.keep c,d⟩
theorem ISt.mo (h:ISt D w0 p sp l ks s V):Mo D w0 ks V:=by
 obtain⟨c,f,b,a,d⟩:=h;exact a.tail.tail.tail
theorem ISt.new {ns}(h:ISt D w0 p sp l ks s V)(g:Bw V.heap.size V W)(hn:Own V.heap.size W ns):ISt D w0 p sp l (ns++ks) s W:=by
 obtain⟨f,m,d,k,j⟩:=h;refine⟨f,m,d,(k.new g hn).perm ?_,j.mono λb c ⟨tv,rv,e,a,b⟩=>⟨tv,rv,e,a.sub λr hr=>mR hr,b.sub λr hr=>mR hr⟩⟩;classical
 rw[Kn];intro a;simp[Th,List.count_append];omega
theorem Ty.st (t:Ty D w0 ks v xs)(h:ISt D w0 p sp l ks s V):∃a c,v=S a (N xs) c/\Has V a xs:=t.shape h.mo λr hr=>hr
theorem ISt.opn (h:ISt D w0 p sp l ks s V)(v:s.cq=bs++[b]):∃k sc g c d f j,Mo D w0 (bxR p sp l (S k (N s.jj) sc) (S (some ⟨g,0,none⟩) (N bs+1) c)::stR s (S k (N s.jj) sc)::blR (N bs+1) (S (some ⟨g,0,none⟩) (N bs+1) c) (d++[f,U O b.gk,U O b.op,j,G b.jq])::ks) V /\ (N bs)+1<=c/\Fl (IRep D w0 ks) bs d/\N d=N bs*5/\Ty D w0 ks f b.gj/\Ty D w0 ks j b.results:=by
 obtain⟨n,u,M,m,z⟩:=h;rw[v]at z;have H:N s.cq=N bs+1:=by rw[v];simp
 rw[H]at m;obtain⟨d,R,rfl,y,L⟩:=Fl.split z;obtain⟨f,j,rfl,C,B⟩:=Fl.un L;have F:V.ownsRow D 2 1 n (N s.jj) (I s.jj):=m.row (r:=stR s n) (by simp);have E:V.ownsRow D 221 5 u (N bs+1) (d++[f,U O b.gk,U O b.op,j,G b.jq]):=m.row (r:=blR _ u _) (by simp);obtain⟨k,sc,rfl⟩:∃a c,n=S a (N s.jj) c:=by
  rcases F.2 with ⟨e,A⟩|⟨g,cap,t,o,_⟩
  . rw[A];exact⟨_,_,e⟩
  exact⟨_,_,o⟩
 obtain⟨g,c,rfl,q⟩:∃g c,u=S (some ⟨g,0,none⟩) (N bs+1) c/\N bs+1<=c:=by
  rcases E.2 with ⟨_,A⟩|⟨g,cap,t,o,_,_,q,_⟩
  . omega
  exact⟨g,cap,o,q⟩
 exact⟨k,sc,g,c,d,f,j,m,q,y,Fl.len irep_len y,C,B⟩
end
theorem opn_cells {D w0 V}{b:Option Ad}{sc k:Nat}{c1:List Vu}{tv rv x1 x2 a:Vu}(h:Mo D w0 (bxR p sp l (S b (N s.jj) sc) (S (some ⟨g,0,none⟩) (k+1) c)::stR s (S b (N s.jj) sc)::blR (k+1) (S (some ⟨g,0,none⟩) (k+1) c) (c1++[tv,x1,x2,rv,a])::ks) V)(d:N c1=k*5):V.cell? ⟨p,0,none⟩=some sp/\V.cell? ⟨p,4,none⟩=some (S b (N s.jj) sc)/\V.cell? ⟨p,5,none⟩=some (S (some ⟨g,0,none⟩) (k+1) c)/\V.frozen? ⟨p,4,none⟩=false/\V.frozen? ⟨p,5,none⟩=false /\ V.cell? ⟨g,k*5,none⟩=some tv/\V.cell? ⟨g,k*5+1,none⟩=some x1/\V.cell? ⟨g,k*5+2,none⟩=some x2/\V.cell? ⟨g,k*5+3,none⟩=some rv/\V.cell? ⟨g,k*5+4,none⟩=some a/\V.frozen? ⟨g,k*5+4,none⟩=false:=by
 have B:=λ(j:Nat) (u:Vu) (hj:j<6) (hu:(ib sp l (S b (N s.jj) sc) (S (some ⟨g,0,none⟩) (k+1) c))[j]?=some u)=>h.bx (t:=116) (g:=p) (by simp) j hj hu;have E:=λ(j:Nat) (u:Vu) (hj:j<5) (hu:[tv,x1,x2,rv,a][j]?=some u)=>h.cell (T:=221) (sz:=5) (n:=k+1) (g:=g) (c:=c) (cs:=c1++[tv,x1,x2,rv,a]) (by simp) rfl (j:=k*5+j) (u:=u) (by omega) (by rw[Tb (by omega),show k*5+j-N c1=j by omega];exact hu);exact⟨(B 0 _ (by omega) rfl).1,(B 4 _ (by omega) rfl).1,(B 5 _ (by omega) rfl).1,(B 4 _ (by omega) rfl).2,(B 5 _ (by omega) rfl).2,(E 0 _ (by omega) rfl).1,(E 1 _ (by omega) rfl).1,(E 2 _ (by omega) rfl).1,(E 3 _ (by omega) rfl).1,(E 4 _ (by omega) rfl).1,(E 4 _ (by omega) rfl).2⟩
theorem ilast_c (p g k c:Nat)(w:J)(d:w.cell? ⟨p,5,none⟩=some (S (some ⟨g,0,none⟩) (k+1) c))(b:k<=1099511627776):Ec Q 265 #[Yp (some ⟨p,0,none⟩)] w λe w'=>e=Z (Yp (some ⟨g,k*5,none⟩))/\∃n,w'=w.drewN n:=by
 have a:IntKind.i64.wrap (((k+1:Nat):Int)-1)=k:=by rw[Kz];omega
 go_enter func265,ntmps265;go_wp2;go_quiet (fail)
 go_wp2;go_ret;exact⟨rfl,_,rfl⟩
section
variable (D:Nat) (w0:J) (p:Nat) (sp:Vu) (l:Lo) (ks:List Qb)
abbrev flt (f:Int):Vu:=If 203 (U O f)
def PopP (r:R (Int × Fn))(e:Ending)(w':J):Prop :=
 match r with
 |.error f=>e=Z (.tuple #[U O 0,flt f])/\Mo D w0 ks w'
 |.ok (t,s')=>e=Z (.tuple #[U O t,Nf])/\ISt D w0 p sp l ks s' w'
def FnP (r:R Fn)(e:Ending)(w':J):Prop :=
 match r with
 |.error f=>e=Z (flt f)/\Mo D w0 ks w'
 |.ok s'=>e=Z Nf/\ISt D w0 p sp l ks s' w'
end
section
variable {D:Nat}{w0:J}{p:Nat}{sp:Vu}{l:Lo}{ks:List Qb}{s:Fn}{V W:J}
theorem Xd (V:J)(n:Nat)(r:Option Nat):V.grownBy (V.drewN n) r:=⟨rfl,rfl,rfl,lRz,λ_ _ _=>rfl⟩
theorem perm3 {a b c:Qb}:(a::b::c::ks).Perm (b::a::c::ks):=List.Perm.swap _ _ _
theorem XK {a b c:Qb}:(a::b::c::ks).Perm (c::a::b::ks):=by
 classical
 rw[Kn];intro x;simp[Th];omega
theorem ISt.cut {a:Option Ad}{sc m:Nat}{bv:Vu}{bcs:List Vu}(h:Mo D w0 (bxR p sp l (S a (N s.jj) sc) bv::stR s (S a (N s.jj) sc)::blR (N s.cq) bv bcs::ks) V)(f:Fl (IRep D w0 ks) s.cq bcs)(c:m<=N s.jj):ISt D w0 p sp l ks { s with jj:=s.jj.take m } (V.setCell ⟨p,4,none⟩ (S a m sc)):=by
 have b:=(h.set 4 (S a m sc)).perm perm3;have o:V.ownsRow D 2 1 (S a (N s.jj) sc) (N s.jj) (I s.jj):=h.row (r:=stR s _) (by simp);have n:=b.row (r:=stR s (S a (N s.jj) sc)) (by simp);have k:=own_take n c;have d:(s.jj.take m).length=m:=by simp;omega
 have j:=b.swap (r':=⟨2,1,m,S a m sc,I (s.jj.take m)⟩) (by
  show(V.setCell ⟨p,4,none⟩ (S a m sc)).ownsRow D 2 1 (S a m sc) m (I (s.jj.take m))
  have e:(I s.jj).take (m*1)=I (s.jj.take m):=by simp[I,List.map_take]
  rw[<- e];exact k) (by cases a <;> rfl)
 have g:=j.perm perm3;refine⟨S a m sc,bv,bcs,?_,f⟩;simpa[stR,d]using g
end
theorem ipop_c (want:Int)(h:ISt D w0 p sp l ks s V)(X:s.cq≠[])(C:N s.cq<=1048577)(H:N s.jj<=1099511627776):Ec Q 233 #[Yp (some ⟨p,0,none⟩),U O want] V λe w'=>PopP D w0 p sp l ks (pop s want) e w'/\V.grownBy w' (some p):=by
 obtain⟨bs,b,f⟩:∃bs b,s.cq=bs++[b]:=⟨_,_,(Hy X).symm⟩;have d:top s=b:=by simp[top,f]
 obtain⟨sa,sc,g,c,c1,tv,rv,q,hc,E,hl,t1,t2⟩:=h.opn f;have ax:N bs<=1048577:=by rw[f]at C;simp at C;omega
 obtain⟨q0,q4,q5,f4,f5,e0,e1,e2,e3,e4,f6⟩:=opn_cells q hl;have y:=Hm (λw=>ilast_c p g (N bs) c w);have hH:=Hm h;have hw:IntKind.i64.wrap ((N s.jj:Int)-1)=(N s.jj:Int)-1:=by rw[Kz];omega
 by_cases v:N s.jj<=b.gk
 . (have d0:(N s.jj:Int)-1<(b.gk:Int):=by omega);cases hd:b.jq
   . (have R:pop s want=.error 6:=by simp[pop,d,v,hd]);rw[R];rw[hd]at e4;clear q E h;go_enter func233,ntmps233;(go_wp2_with fail);refine(y.o _ (by assumption) (by omega)).mono ?_;rintro e z ⟨rfl,n,rfl⟩;go_wp2;(go_ret2);exact⟨⟨rfl,hH.o.mo.drewN n⟩,Xd V n _⟩
   (have R:pop s want=.ok (want,s):=by simp[pop,d,v,hd]);rw[R];rw[hd]at e4;clear q E h;go_enter func233,ntmps233;(go_wp2_with fail);refine(y.o _ (by assumption) (by omega)).mono ?_;rintro e z ⟨rfl,n,rfl⟩;go_wp2;(go_ret2);exact⟨⟨rfl,hH.o.keep ⟨rfl,rfl,rfl,lRz,λ_ _=>rfl⟩⟩,Xd V n _⟩
 have d0:¬((N s.jj:Int)-1<(b.gk:Int)):=by omega
 have M:V.ownsRow D 2 1 (S sa (N s.jj) sc) (N s.jj) (I s.jj):=q.row (r:=stR s _) (by simp);obtain⟨u,L,Y⟩:∃u,sa=some ⟨u,0,none⟩/\N s.jj<=sc:=by
  rcases M.2 with ⟨_,h0⟩|⟨u,cap,az,hv,_,_,m,_⟩
  . omega
  cases hv;exact⟨u,rfl,m⟩
 subst L;obtain⟨xs,t,m⟩:∃xs t,s.jj=xs++[t]:=by
  have:s.jj≠[]:=λe=>by rw[e]at v;simp at v
  exact⟨_,_,(Hy this).symm⟩
 have hn:N s.jj=N xs+1:=by rw[m];simp
 have aa:V.cell? ⟨u,N xs,none⟩=some (U O t):=by rw[World.ownsRow.cellAt M (N xs) (by omega),m];simp[I]
 have F:Hid (∀n,ISt D w0 p sp l ks { s with jj:=s.jj.dropLast } (((V.drewN n)).setCell ⟨p,4,none⟩ (S (some ⟨u,0,none⟩) (N xs) sc))):=λn=>by
  have e:s.jj.dropLast=s.jj.take (N xs):=by rw[m];simp
  rw[e];have B:N s.cq=N bs+1:=by rw[f];simp
  refine ISt.cut (s:=s) (bv:=S (some ⟨g,0,none⟩) (N bs+1) c) (by rw[B];exact q.drewN n) ?_ (by omega);rw[f];exact E.app (Fl.one ⟨tv,rv,rfl,t1,t2⟩)
 have hg:s.jj.getLastD 0=t:=by rw[m];simp
 have a:pop s want=if t=0 then .ok (want,{ s with jj:=s.jj.dropLast })else if want≠0/\want≠t then .error 6 else .ok (t,{ s with jj:=s.jj.dropLast }):=by simp only[pop,d,v,if_false,hg]
 have ar:IntKind.i64.wrap (((N xs+1:Nat):Int)-1)=N xs:=by rw[Kz];omega
 have i3:(N xs:Int)<=(sc:Int):=by omega
 rw[hn]at q4 d0 H;have d1:¬((N xs:Int)<(b.gk:Int)):=by omega
 clear q E h M m hn hw v d0 Y;by_cases k:t=0
 . (have k1:(t==0)=true:=by simp[k]);rw[a,if_pos k];clear a k;go_enter func233,ntmps233;(go_wp2_with fail);refine(y.o _ (by assumption) (by omega)).mono ?_;rintro e z ⟨rfl,n,rfl⟩;go_wp2;(go_ret2);exact⟨⟨rfl,F.o n⟩,XH (Xd V n _) (Xy _ _ _ _)⟩
 have k1:(t==0)=false:=by simp[k]
 rw[a,if_neg k];by_cases j:want≠0/\want≠t
 . rw[if_pos j];(have k3:(want != 0)=true:=by simp[j.1]);(have k4:(want != t)=true:=by simp[j.2]);clear a k j;go_enter func233,ntmps233;(go_wp2_with fail);refine(y.o _ (by assumption) (by omega)).mono ?_;rintro e z ⟨rfl,n,rfl⟩;go_wp2;(go_ret2);exact⟨⟨rfl,(F.o n).mo⟩,XH (Xd V n _) (Xy _ _ _ _)⟩
 rw[if_neg j];by_cases A:want=0
 . (have k3:(want != 0)=false:=by simp[A]);clear a k j A;go_enter func233,ntmps233;(go_wp2_with fail);refine(y.o _ (by assumption) (by omega)).mono ?_;rintro e z ⟨rfl,n,rfl⟩;go_wp2;(go_ret2);exact⟨⟨rfl,F.o n⟩,XH (Xd V n _) (Xy _ _ _ _)⟩
 have k3:(want != 0)=true:=by simp[A]
 have k4:(want != t)=false:=by
  by_cases e:want=t
  . simp[e]
  exact absurd ⟨A,e⟩ j
 clear a k j A;go_enter func233,ntmps233;go_wp2_with fail
 refine(y.o _ (by assumption) (by omega)).mono ?_;rintro e z ⟨rfl,n,rfl⟩;go_wp2;go_ret2
 exact⟨⟨rfl,F.o n⟩,XH (Xd V n _) (Xy _ _ _ _)⟩
structure Inv (s:Fn):Prop where
 tk:∀b∈s.cq,b.gj=if b.op=3 then []else b.results
 so:(s.cq.map (·.gk)).Pairwise (·<=·)
 ht:s.cq≠[]->(top s).gk<=N s.jj
theorem top_snoc (h:s.cq=bs++[b]):top s=b:=by simp[top,h]
theorem JN (h:s.cq≠[]):∃bs,s.cq=bs++[top s]:=by
 refine⟨s.cq.dropLast,?_⟩;have:=Hy h;rw[top,List.getLastD_eq_getLast?,List.getLast?_eq_some_getLast h];exact this.symm
theorem Inv.all (h:Inv s):∀b∈s.cq,b.gk<=N s.jj:=by
 intro b a;have c:s.cq≠[]:=λe=>by rw[e]at a;cases a
 obtain⟨bs,e⟩:=JN c;have f:=h.ht c;have d:=h.so;rw[e,Tf,List.pairwise_append]at d;rw[e]at a;rcases List.mem_append.1 a with a|a
 . have:=d.2.2 b.gk (List.mem_map_of_mem a) (top s).gk (by simp);omega
 simp at a;subst a;exact f
theorem Jp (h:pop s want=.ok (t,s')):s'.cq=s.cq/\s'.ps=s.ps/\s'.gq=s.gq/\(s'=s\/((top s).gk<N s.jj/\s'.jj=s.jj.dropLast)):=by
 unfold pop at h;split at h
 . split at h
   . cases h;exact⟨rfl,rfl,rfl,.inl rfl⟩
   cases h
 dsimp only at h;split at h
 . cases h;exact⟨rfl,rfl,rfl,.inr ⟨by omega,rfl⟩⟩
 split at h
 . cases h
 cases h;exact⟨rfl,rfl,rfl,.inr ⟨by omega,rfl⟩⟩
theorem top_eq (h:s'.cq=s.cq):top s'=top s:=by simp[top,h]
theorem X2 (h:pop s want=.ok (t,s'))(i:Inv s):Inv s':=by
 obtain⟨e,_,_,b⟩:=Jp h;refine⟨by rw[e];exact i.tk,by rw[e];exact i.so,λhne=>?_⟩;rw[top_eq e];rcases b with rfl|⟨c,a⟩
 . exact i.ht hne
 rw[a];simp;omega
theorem JV (h:pop s want=.ok (t,s')):N s'.jj<=N s.jj:=by
 obtain⟨_,_,_,rfl|⟨_,e⟩⟩:=Jp h
 . omega
 rw[e];simp
theorem pop1_of (h:Q7 s want=.ok s'):∃t,pop s want=.ok (t,s'):=by
 unfold Q7 at h;cases hp:pop s want with
 |error f=>rw[hp]at h;cases h
 |ok r=>rw[hp]at h;cases h;exact⟨r.1,rfl⟩
theorem popR_spec:∀{b:List Int} {s s':Fn},XN s b=.ok s'->Inv s->s'.cq=s.cq/\s'.ps=s.ps/\s'.gq=s.gq/\N s'.jj<=N s.jj/\Inv s'
 |[],s,s',h,i=>by cases h;exact⟨rfl,rfl,rfl,lRz,i⟩
 |t::b,s,s',h,i=>by
  rw[XN]at h
  cases hp:Q7 s t with
  |error f=>rw[hp]at h;cases h
  |ok s1 =>
   rw[hp]at h;obtain⟨u,a⟩:=pop1_of hp;obtain⟨m,l,k,o⟩:=Jp a;obtain⟨j,g,d,n,c⟩:=popR_spec h (X2 a i)
   have:=JV a
   exact⟨j.trans m,g.trans l,d.trans k,by omega,c⟩
theorem Jt {a:List Int}(h:Xq s a=.ok s')(i:Inv s):s'.cq=s.cq/\s'.ps=s.ps/\s'.gq=s.gq/\N s'.jj<=N s.jj/\Inv s':=popR_spec h i
section
variable {D:Nat}{w0:J}{p:Nat}{sp:Vu}{l:Lo}{ks:List Qb}{s:Fn}{V W V1:J}
theorem ISt.pushed {a:Option Ad}{sc:Nat}{bv v':Vu}{bcs:List Vu}(h:Mo D w0 (bxR p sp l (S a (N s.jj) sc) bv::stR s (S a (N s.jj) sc)::blR (N s.cq) bv bcs::ks) V)(g:Fl (IRep D w0 ks) s.cq bcs)(j:Bw V.heap.size V V1) (b:W.ownsRow D 2 1 v' (N s.jj+N xs) (I s.jj++I xs)) (f:V1.grownBy W (Tv a (N s.jj) sc).ownBlock) (c:v'.ownBlock=(Tv a (N s.jj) sc).ownBlock\/v'.ownBlock=some V1.heap.size):ISt D w0 p sp l ks (push s xs) (W.setCell ⟨p,4,none⟩ v')/\W.cell? ⟨p,4,none⟩=some (S a (N s.jj) sc)/\W.frozen? ⟨p,4,none⟩=false:=by
 have n:=(h.perm perm3).push (r':=⟨2,1,N s.jj+N xs,v',I s.jj++I xs⟩) j f b c;have d:=n.perm (List.Perm.swap _ _ _);have m:=d.set 4 v';have k:=d.b0 4;refine⟨⟨v',bv,bcs,?_,g⟩,k⟩;have e:stR (push s xs) v'=⟨2,1,N s.jj+N xs,v',I s.jj++I xs⟩:=by simp[stR,push]
 rw[e];exact m
theorem ISt.opnS (h:ISt D w0 p sp l ks s V):∃d sc f b,Mo D w0 (bxR p sp l (S d (N s.jj) sc) f::stR s (S d (N s.jj) sc)::blR (N s.cq) f b::ks) V/\Fl (IRep D w0 ks) s.cq b/\V.cell? ⟨p,4,none⟩=some (S d (N s.jj) sc)/\V.cell? ⟨p,5,none⟩=some f/\V.frozen? ⟨p,4,none⟩=false/\V.frozen? ⟨p,5,none⟩=false:=by
 obtain⟨k,f,b,j,t⟩:=h;have o:V.ownsRow D 2 1 k (N s.jj) (I s.jj):=j.row (r:=stR s k) (by simp);obtain⟨d,sc,rfl⟩:∃a c,k=S a (N s.jj) c:=by
  rcases o.2 with ⟨e,u⟩|⟨g,cap,v,q,_⟩
  . rw[u];exact⟨_,_,e⟩
  exact⟨_,_,q⟩
 have n:=j.b0 4;have m:=j.b0 5;exact⟨d,sc,f,b,j,t,n.1,m.1,n.2,m.2⟩
end
theorem info221:(Q.info? 221).map (λi=>(i.zero,i.size,i.bytes))=some (some (Ag #[S none 0 0,U O 0,U O 0,S none 0 0,G false]),5,72):=by kernel_rfl
theorem ipush_c (a)(c:Nat)(xs)(h:ISt D w0 p sp l ks s V)(t:Has V a xs)(B:N xs<=1048577)(C:N s.jj<=2199023255552):Ec Q 267 #[Yp (some ⟨p,0,none⟩),S a (N xs) c] V λe w'=>e=Z (.tuple #[])/\ISt D w0 p sp l ks (push s xs) w':=by
 obtain⟨A,hi,m,k,j⟩:=info_parts info2;obtain⟨z,sc,bv,E,g,v,X,R,f4,Y⟩:=h.opnS;have u:V.ownsRow D 2 1 (S z (N s.jj) sc) (N s.jj) (I s.jj):=g.row (r:=stR s _) (by simp);have L:=Hm (λW v'=>ISt.pushed (W:=W) (v':=v') (xs:=xs) g v bFz);have n:=g.le;have F:=Hm u;have H:=Hm (λW (hb:Bw V.heap.size V W)=>SrcC.on (Has.src t) hb);clear g v h u t;go_enter func267,ntmps267;go_wp2_with (at_builtin;refine XP rfl _ _ 24 rfl D 2 A (U O 0) 1 8 underlying24 hi m k j rfl (by decide) _ _ _ rfl F.o a (N xs) c (I xs) rfl (by simp) (H.o _ bFz) (one_I xs) (by unfold maxLen;omega) (by omega) n ?_;intro v' y b d f;have q:=Hm (L.o y v' b d f);have d4:=q.o.2.1;have df:=q.o.2.2;obtain⟨va,M,rfl⟩:=QH b;clear b d f)
 go_end0;exact⟨rfl,q.o.1⟩
theorem isn1_c (x:Int)(w:J):Ec Q 281 #[U O x] w λe w'=>e=Z (G false)/\w=w':=by
 go_enter func281,ntmps281;go_wp2;go_ret;exact⟨by simp,rfl⟩
theorem isn2_c (x:Int)(w:J):Ec Q 284 #[U O x] w λe w'=>e=Z (G false)/\w=w':=by
 go_enter func284,ntmps284;go_wp2;go_ret;exact⟨by simp,rfl⟩
theorem less_c (x y:Int)(w:J):Ec Q 280 #[U O x,U O y] w λe w'=>e=Z (G (decide (x<y)))/\w=w':=by
 go_enter func280,ntmps280;go_wp2_with (go_at_call 284;refine(isn2_c _ _).mono ?_;rintro e a ⟨rfl,rfl⟩)
 go_ret;exact⟨by simp,rfl⟩
def BsP (xs:List Int)(t:Int)(w:J)(e:Ending)(w':J):Prop:=∃(i:Nat) (b:Bool),e=Z (.tuple #[U O i,G b])/\i<=N xs/\(∀k,k<i->xs.getD k 0<t)/\(∀k,i<=k->k<N xs->t<=xs.getD k 0)/\∃m,w'=w.drewN m
theorem bs_c (a)(c:Nat)(xs:List Int)(t:Int)(w)(hl:N xs<=1099511627776)(R:Has w a xs)(M:∀i j,i<=j->j<N xs->xs.getD i 0<=xs.getD j 0):Ec Q 277 #[S a (N xs) c,U O t] w (BsP xs t w):=by
 have v:=Hm R;have X:=Hm M;have Y:=Hm less_c;have HN:=Hm isn1_c;clear R M;go_enter func277,ntmps277;go_wp2;go_loopw [7,8] (λi j wr=>∃(i' j':Nat),i=U O i'/\j=U O j'/\i'<=j'/\j'<=N xs/\(∀k,k<i'->xs.getD k 0<t)/\(∀k,j'<=k->k<N xs->t<=xs.getD k 0)/\∃m,wr=w.drewN m) (λi j _=>(intOf j).toNat-(intOf i).toNat)
 case atStart=>exact⟨0,N xs,rfl,rfl,Kw _,lRz,λk h=>by omega,λk D C=>by omega,0,rfl⟩
 obtain⟨i,j,rfl,rfl,s,z,D,C,m,rfl⟩:=hrel;have I:=Hm D;have H:=Hm C;clear D C;by_cases aa:i<j
 . (have p:(i:Int)<(j:Int):=by omega);(have g:i<=(i+j) / 2/\(i+j) / 2<j:=by omega);rcases v.o with B|⟨F,A,E,u⟩
   . subst B;simp at z;omega
   subst E;have d:(w.drewN m).cell? ⟨F,A+(i+j) / 2,none⟩=some (U O (xs.getD ((i+j) / 2) 0)):=u ((i+j) / 2) (by omega);obtain⟨y,n⟩:∃y,y=xs.getD ((i+j) / 2) 0:=⟨_,rfl⟩;rw[<- n]at d;have V:=Hm n;have b:=Hm g;clear n g v u;by_cases f:y<t
   . (have hd:decide (y<t)=true:=by simp[f]);have l:=Hm f;clear f;(go_wp2_with (go_at_call 280;refine(Y.o _ _ _).mono ?_;rw[hd];rintro e L ⟨rfl,rfl⟩));go_roundw
     case rel=>
      refine⟨(i+j) / 2+1,j,?_,rfl,by have:=b.o;omega,z,λk hk=>?_,H.o,m,rfl⟩
      . first|rfl|(congr 1;omega)
      have h5:=X.o k ((i+j) / 2) (by omega) (by have:=b.o;omega);have:=l.o;rw[V.o]at this;omega
     case measure=>have:=b.o;simp[intOf];omega
   (have hd:decide (y<t)=false:=by simp;omega);have l:=Hm f;clear f;(go_wp2_with (go_at_call 280;refine(Y.o _ _ _).mono ?_;rw[hd];rintro e L ⟨rfl,rfl⟩));go_roundw
   case rel=>
    refine⟨i,(i+j) / 2,rfl,?_,by have:=b.o;omega,by have:=b.o;omega,I.o,λk hk hk2=>?_,m,rfl⟩
    . first|rfl|(congr 1;omega)
    have h5:=X.o ((i+j) / 2) k (by omega) hk2;have:=l.o;rw[V.o]at this;omega
   case measure=>have:=b.o;simp[intOf];omega
 obtain rfl:i=j:=by omega
 have p:¬((i:Int)<(i:Int)):=by omega
 by_cases r:i<N xs
 . (have q:(i:Int)<(N xs:Int):=by omega);rcases v.o with B|⟨F,A,E,u⟩
   . subst B;simp at r
   subst E;have d:(w.drewN m).cell? ⟨F,A+i,none⟩=some (U O (xs.getD i 0)):=u i r;obtain⟨y,n⟩:∃y,y=xs.getD i 0:=⟨_,rfl⟩;rw[<- n]at d;clear n v u s;go_wp2_with (go_at_call 281;refine(HN.o _ _).mono ?_;rintro e L ⟨rfl,rfl⟩)
   all_goals
    go_ret2
    exact⟨i,_,rfl,z,I.o,H.o,m,rfl⟩
 have q:¬((i:Int)<(N xs:Int)):=by omega
 clear v s;go_wp2;go_ret2
 exact⟨i,_,rfl,z,I.o,H.o,m,rfl⟩
