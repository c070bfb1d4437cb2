import Derived.Test.YtejkdbnngphgaaaGreatDoorGal
import Derived.Test.YtejkdbnngphgaaaGreatDoorGao
import Derived.Test.YtejkdbnngphgaaaGreatDoorGam
set_option linter.all false
set_option maxHeartbeats 400000000
set_option maxRecDepth 100000
namespace Go.Proofs
open Value renaming int->U,slice->S,bool->G,pointer->Yp,string->Xs
open IntKind renaming i64->O,u64->Ou
open Ending renaming returned->Z
open Obj renaming cells->Fc
open Go renaming World->J,Calls->Ec,Value->Vu,Addr->Ad
open Go.RowKit renaming Below->Bw
open Tryz renaming prog->Q
open Tryz
open Nat renaming le_trans->Kf,add_zero->Hc,zero_add->Kk
open List renaming getD_cons_zero->Tg,getD->Ty,take_length->Ik,length_cons->Kj,length->N
open World renaming ownsRow->Lq,block_lt_of_cell?->Kh
namespace YtejkdbnngphgaaaGreatDoor.Yz
open Go.RowKit Go.Sort
variable {bd:Bool}{w w1:J}{p:Nat}
class PK where
 k:List Vu
 hi:Nat
variable [PK]
structure Pb (w:J)(p:Nat)(bd:Bool):Prop where
 own:w.ownsRow 0 51 20 (S (some ⟨p,0,none⟩) 1 1) 1 (PK.k.set 19 (G bd))
 hp:p<PK.hi
 hs:PK.hi<=w.heap.size
theorem Pb.c (h:Pb w p bd):w.cell? ⟨p,19,none⟩=some (G bd):=by
 have a:=h.own.1;simp at a;exact(World.ownsRow.cellAt h.own 19 (by decide)).trans (List.getElem?_set_self (by omega))
theorem Pb.f (h:Pb w p bd):w.frozen? ⟨p,19,none⟩=false:=World.ownsRow.frozenAt h.own 19
theorem Pb.lt (h:Pb w p bd):p<w.heap.size:=Nat.lt_of_lt_of_le h.hp h.hs
theorem Pb.lt2 (h:Pb w p bd):PK.hi<=w.heap.size/\p<PK.hi:=⟨h.hs,h.hp⟩
theorem Pb.blk (h:Pb w p bd)(b:w1.heap[p]?=w.heap[p]?)(a:w.heap.size<=w1.heap.size):Pb w1 p bd :=
 ⟨Qb.Ok.cq (r:=⟨51,20,1,S (some ⟨p,0,none⟩) 1 1,PK.k.set 19 (G bd)⟩) h.own (λk e=>by cases e;exact b),h.hp,Kf h.hs a⟩
theorem Pb.keep (h:Pb w p bd)(a:Bw w.heap.size w w1):Pb w1 p bd:=h.blk (a.block p h.lt) a.size
theorem Pb.grown {r:Option Nat}(h:Pb w p bd)(a:w.grownBy w1 r)(hr:r≠some p):Pb w1 p bd:=h.blk (a.block p h.lt (λe=>hr e.symm)) a.size
theorem QG (p:Nat)(bd:Bool)(w:J)(h:Pb w p bd):Ec Q 20 #[Yp (some ⟨p,0,none⟩)] w λe w'=>e=Z (.tuple #[])/\Pb w' p true/\w.grownBy w' (some p):=by
 have g:=h.c;have d:=h.f;have a:=Hm h;clear h;go_enter func20,ntmps20;go_wp2;go_end0;have b:=World.ownsRow.stored a.o.own 19 (G true);rw[List.set_set]at b;exact⟨rfl,⟨b.1,a.o.hp,by simpa using a.o.hs⟩,b.2⟩
def Wv (w:J)(a:Option Ad)(p:Nat)(ws:List Wd):Prop:=ws=[]\/∃b o,a=some ⟨b,o,none⟩/\(b<PK.hi/\b≠p)/\∀i,i<N ws->w.cell? ⟨b,o+i,none⟩=some (Xs (Sz0 (ws.getD i [])))
theorem Wv.grown {a:Option Ad}{ws:List Wd}(h:Wv w a p ws)(d:w.grownBy w1 (some p))(hp:PK.hi<=w.heap.size/\p<PK.hi):Wv w1 a p ws:=by
 rcases h with h|⟨b,o,e,c,hc⟩
 . exact .inl h
 exact .inr ⟨b,o,e,c,λi hi=>(World.cell?_of_block (d.block b (by omega) (by simp;omega))).trans (hc i hi)⟩
theorem Wv.keep {a:Option Ad}{ws:List Wd}(h:Wv w a p ws)(d:Bw w.heap.size w w1)(hp:PK.hi<=w.heap.size/\p<PK.hi):Wv w1 a p ws:=by
 rcases h with h|⟨b,o,e,c,hc⟩
 . exact .inl h
 exact .inr ⟨b,o,e,c,λi hi=>(d.cell (p:=⟨b,o+i,none⟩) (show b<w.heap.size by omega)).trans (hc i hi)⟩
theorem sru_c (p:Nat)(a:Option Ad)(c:Nat)(ws:List Wd)(bd:Bool)(w:J)(h:Pb w p bd)(j:Wv w a p ws)(hl:∀x∈ws,N x<=1099511627776):Ec Q 69 #[Yp (some ⟨p,0,none⟩),S a (N ws) c] w λe w'=>∃(x:Int) (l:Bool),e=Z (U O x)/\Pb w' p l/\w.grownBy w' (some p)/\(l=false->bd=false/\∃s,ws=[s]/\Nm 0 4294967295 s x)/\(bd=false->(∃s v,ws=[s]/\Nm 0 4294967295 s v)->l=false):=by
 have n:=Hm (QG p bd w h);by_cases k:N ws=1
 . obtain⟨s,rfl⟩:=List.length_eq_one_iff.1 k;rcases j with j|⟨b,o,rfl,r,hc⟩
   . cases j
   have c0:=hc 0 (by simp);simp only[Hc,Tg]at c0;have K:=Hm (JM s w (hl s (by simp)));have u:=Hm h;clear h hc hl k;cases hok:okN 0 4294967295 s with
   |true =>
    rw[hok]at K
    go_enter func69,ntmps69
    go_wp2_with fail
    refine K.o.mono ?_
    rintro e w1 ⟨rfl,x,rfl,hx⟩;have t:=Hm hx;clear hx
    go_wp2
    go_ret
    exact⟨x,bd,rfl,u.o,World.grownBy.refl _ _,λe=>⟨e,s,rfl,hok,t.o trivial⟩,λe _=>e⟩
   |false =>
    rw[hok]at K;have m:=Hm hok;clear hok
    go_enter func69,ntmps69
    go_wp2_with fail
    refine K.o.mono ?_
    rintro e w1 ⟨rfl,x,rfl,-⟩
    go_wp2_with fail
    refine n.o.mono ?_
    rintro e q ⟨rfl,d,f⟩;have g:=Hm (And.intro d f);clear d f
    go_wp2
    go_ret
    exact⟨x,true,rfl,g.o.1,g.o.2,λe=>absurd e (by decide),λ_ ⟨s2,v,e,hn⟩=>by cases e;exact absurd hn.1 (by rw[m.o];decide)⟩
 have z:¬(N ws:Int)=1:=by omega
 have y:=Hm k;clear k h j hl;go_enter func69,ntmps69;go_wp2_with fail
 refine n.o.mono ?_;rintro e q ⟨rfl,d,f⟩;have g:=Hm (And.intro d f);clear d f;go_wp2;go_ret;exact⟨0,true,rfl,g.o.1,g.o.2,λe=>absurd e (by decide),λ_ ⟨s2,v,e,hn⟩=>absurd (by rw[e];rfl) y.o⟩
def RnP (p:Nat)(ws:List Wd)(bd:Bool)(w:J)(e:Ending)(w':J):Prop:=∃(v:Vu) (vs:List Int) (b2:Bool),e=Z v/\w'.ownsRow w.heap.size 2 1 v (N vs) (I vs)/\N vs=N ws/\Pb w' p b2/\w.grownBy w' (some p)/\(b2=false->bd=false/\Nms ws vs)/\(bd=false->(∀s∈ws,okN 0 4294967295 s=true)->b2=false)
theorem srn_c (p:Nat)(a:Option Ad)(c:Nat)(ws:List Wd)(bd:Bool)(w:J)(h:Pb w p bd)(hW:Wv w a p ws)(hl:∀x∈ws,N x<=1099511627776)(hn:N ws<=1099511627776):Ec Q 73 #[Yp (some ⟨p,0,none⟩),S a (N ws) c] w (RnP p ws bd w):=by
 obtain⟨i0,hi,V,R,M⟩:=info_parts info2;have hp:=h.lt2;have HB:=Hm h;have HW:=Hm hW;clear h hW;go_enter func73,ntmps73;go_upto_region 3 with fail
 go_loopw [5,6] (λv i wr=>∃(k:Nat) (f:List Int) (A:Bool),k<=N ws/\i=U O (k:Int)/\wr.ownsRow w.heap.size 2 1 v (N f) (I f)/\Pb wr p A/\w.grownBy wr (some p)/\Hid (N f=k/\(A=false->bd=false/\Nms (ws.take k) f)/\(bd=false->(∀s∈ws.take k,okN 0 4294967295 s=true)->A=false))) (λ_ i _=>N ws-(intOf i).toNat)
 case atStart=>refine⟨0,[],bd,Nat.zero_le _,rfl,?_,HB.o.keep (bFz.alloc lRz _),Qu (bFz.alloc lRz _),⟨rfl,λe=>⟨e,trivial⟩,λe _=>e⟩⟩;exact World.ownsRow_made w #[] 0 lRz (by unfold maxLen;omega) rfl
 obtain⟨k,f,A,hk,rfl,l,X,hg,q⟩:=hrel;have ao:N f<=1099511627776:=by have:=q.o.1;omega
 have F:=Hm l;have HP:=Hm X;have u:=Hm hg;have hs:=hg.size;obtain⟨va,vc,rfl⟩:=QL l;clear l X hg;by_cases n:k<N ws
 . (have ae:(k:Int)<(N ws:Int):=by omega);rcases HW.o.grown u.o hp with e|⟨b,o,rfl,aw,hc⟩
   . subst e;simp at n
   have ck:=hc k n;(have r:ws.getD k []∈ws:=by simp[Ty,n]);(have aa:ws.take (k+1)=ws.take k++[ws.getD k []]:=by rw[List.take_succ];simp[Ty,n]);have HT:=Hm aa;have K:=Hm (JM (ws.getD k []) wr (hl _ r));(have w5:IntKind.i64.wrap ((k:Int)+1)=(k:Int)+1:=by rw[IntKind.wrap_i64];omega);clear hc r aa;generalize ws.getD k []=s at *;cases hok:okN 0 4294967295 s with
   |true =>
    rw[hok]at K;have C:=Hm hok;clear hok
    go_wp2_with fail
    refine K.o.mono ?_
    rintro e w1 ⟨rfl,x,rfl,hx⟩;have HX:=Hm (hx trivial);clear hx K
    go_wp2_with (at_builtin;refine wpList_append_own _ rfl _ _ 25 rfl w.heap.size 2 i0 (U O 0) 1 8 underlying25 hi V R M rfl (by decide) _ _ _ rfl (F.o.alloc _) ⟨wr.heap.size,0,none⟩ 1 1 [U O x] rfl rfl (cell_one_new _ _ _) (oneI _) (by unfold maxLen;omega) (by omega) (by simp;omega) ?_;intro v3 L g d y;have D:Hid (L.ownsRow w.heap.size 2 1 v3 (f++[x]).length (I (f++[x]))):=(by show Lq _ _ _ _ _ _ _;simpa[I]using g);have B:=Hm (((HP.o.keep (bFz.alloc lRz _))).grown d (λe=>by have:=(F.o.lt p e).1;omega));have H:=Hm (show w.grownBy L (some p)from⟨d.os.trans u.o.os,d.tape.trans u.o.tape,d.output.trans u.o.output,Kf hs (Kf (by simp) d.size),λj hj hne=>(d.block j (by simp;omega) (λe=>by have:=(F.o.lt j e.symm).1;omega)).trans ((Jy wr _ j (by omega)).trans (u.o.block j hj hne))⟩);clear g d y)
    go_roundw
    case rel=>exact⟨k+1,f++[x],A,by omega,by go_num,D.o,B.o,H.o,⟨by simp[q.o.1],λe=>⟨(q.o.2.1 e).1,by rw[HT.o];exact nms_snoc ⟨C.o,HX.o⟩ _ _ (q.o.2.1 e).2⟩,λe hf=>q.o.2.2 e (λt ht=>hf t (by rw[HT.o];simp[ht]))⟩⟩
    case measure=>simp[intOf];omega
   |false =>
    rw[hok]at K;have C:=Hm hok;have KB:=Hm (QG p A wr HP.o);clear hok
    go_wp2_with fail
    refine K.o.mono ?_
    rintro e w1 ⟨rfl,x,rfl,-⟩;clear K
    go_wp2_with fail
    refine KB.o.mono ?_
    rintro e w2 ⟨rfl,Y,z⟩;have ah:=Hm Y;have m:=Hm (Ql u.o z);have E:=Hm (ownE_grown' F.o z (λj hj e=>by have:=(F.o.lt j hj).1;cases e;omega));have ad:=m.o.size;clear Y z KB F HP u
    go_wp2_with (at_builtin;refine wpList_append_own _ rfl _ _ 25 rfl w.heap.size 2 i0 (U O 0) 1 8 underlying25 hi V R M rfl (by decide) _ _ _ rfl (E.o.alloc _) ⟨w2.heap.size,0,none⟩ 1 1 [U O x] rfl rfl (cell_one_new _ _ _) (oneI _) (by unfold maxLen;omega) (by omega) (by simp;omega) ?_;intro v3 L g d y;have D:Hid (L.ownsRow w.heap.size 2 1 v3 (f++[x]).length (I (f++[x]))):=(by show Lq _ _ _ _ _ _ _;simpa[I]using g);have B:=Hm (((ah.o.keep (bFz.alloc lRz _))).grown d (λe=>by have:=(E.o.lt p e).1;omega));have H:=Hm (show w.grownBy L (some p)from⟨d.os.trans m.o.os,d.tape.trans m.o.tape,d.output.trans m.o.output,Kf ad (Kf (by simp) d.size),λj hj hne=>(d.block j (by simp;omega) (λe=>by have:=(E.o.lt j e.symm).1;omega)).trans ((Jy w2 _ j (by omega)).trans (m.o.block j hj hne))⟩);clear g d y)
    go_roundw
    case rel=>exact⟨k+1,f++[x],true,by omega,by go_num,D.o,B.o,H.o,⟨by simp[q.o.1],λe=>absurd e (by decide),λe hf=>absurd (hf s (by rw[HT.o];simp)) (by rw[C.o];decide)⟩⟩
    case measure=>simp[intOf];omega
 have e:k=N ws:=by omega
 subst e;have ae:¬(N ws:Int)<(N ws:Int):=by omega
 go_wp2;go_ret;refine⟨_,f,A,rfl,F.o,q.o.1,HP.o,u.o,?_,?_⟩
 . have:=q.o.2.1;rwa [Ik]at this
 have:=q.o.2.2;rwa [Ik]at this
end YtejkdbnngphgaaaGreatDoor.Yz
namespace YtejkdbnngphgaaaGreatDoor.Yz
open Go.RowKit Go.Sort
variable {bd:Bool}{w V:J}{r:List Wd}{p X:Nat}{a b d e u:Vu}
variable [PK]
structure Sx (w:J)(p X:Nat)(ra:Option Ad)(r:List Wd)(bd:Bool)(a b c d e:Vu)(V:J):Prop where
 x:C5 V X 0 a b c d e
 z:C5 V w.heap.size 0 (U O 0) (U O 0) (U O 0) (U Ou 0) (S none 0 0)
 pb:Pb V p bd
 g:w.grownBy V (some p)
 wv:Wv V ra p r
 lt:PK.hi<=w.heap.size/\p<PK.hi
 hX:w.heap.size<X
theorem Sx.call {j:Option Ad}{f:Bool}{c:Vu}{V':J}(h:Sx w p X j r bd a b c d e V)(hg:V.grownBy V' (some p))(hp:Pb V' p f):Sx w p X j r f a b c d e V' :=
 have:=h.lt
 have:=h.hX
 ⟨c5_grown h.x hg (by omega),c5_grown h.z hg (by omega),hp,Ql h.g hg,h.wv.grown hg h.pb.lt2,h.lt,h.hX⟩
theorem Wv.far {a:Option Ad}{o:Nat}{v:Vu}{ws:List Wd}(h:Wv w a p ws)(d:PK.hi<=X):Wv (w.setCell ⟨X,o,none⟩ v) a p ws:=by
 rcases h with h|⟨b,q,e,c,hc⟩
 . exact .inl h
 exact .inr ⟨b,q,e,c,λi hi=>by rw[World.cell?_setCell_other _ _ _ _ (λe=>by have f:X=b:=congrArg Addr.block e;omega)];exact hc i hi⟩
theorem Pb.far {o:Nat}{v:Vu}(h:Pb w p bd)(a:p<X):Pb (w.setCell ⟨X,o,none⟩ v) p bd :=
 h.blk (Below.heap_setCell _ _ _ _ (λe=>by simp at e;omega)) (by simp)
theorem Sx.set1 {f:Option Ad}{c:Vu}(h:Sx w p X f r bd a b c d e V):Sx w p X f r bd a u c d e (V.setCell ⟨X,1,none⟩ u) :=
 have k:=h.lt;have j:=h.hX
 ⟨c5_set1 h.x,c5_far h.z (by omega),h.pb.far (by omega),JI h.g (by omega) _ _,h.wv.far (by omega),h.lt,h.hX⟩
theorem Sx.set2 {f:Option Ad}{c:Vu}(h:Sx w p X f r bd a b c d e V):Sx w p X f r bd a b u d e (V.setCell ⟨X,2,none⟩ u) :=
 have k:=h.lt;have j:=h.hX
 ⟨c5_set2 h.x,c5_far h.z (by omega),h.pb.far (by omega),JI h.g (by omega) _ _,h.wv.far (by omega),h.lt,h.hX⟩
theorem Sx.set3 {f:Option Ad}{c:Vu}(h:Sx w p X f r bd a b c d e V):Sx w p X f r bd a b c u e (V.setCell ⟨X,3,none⟩ u) :=
 have k:=h.lt;have j:=h.hX
 ⟨c5_set3 h.x,c5_far h.z (by omega),h.pb.far (by omega),JI h.g (by omega) _ _,h.wv.far (by omega),h.lt,h.hX⟩
theorem Sx.set4 {f:Option Ad}{c:Vu}(h:Sx w p X f r bd a b c d e V):Sx w p X f r bd a b c d u (V.setCell ⟨X,4,none⟩ u) :=
 have k:=h.lt;have j:=h.hX
 ⟨c5_set4 h.x,c5_far h.z (by omega),h.pb.far (by omega),JI h.g (by omega) _ _,h.wv.far (by omega),h.lt,h.hX⟩
theorem Sx.fin {B:Option Ad}{c:Vu}(h:Sx w p X B r bd a b c d e V)(m l k j f:Vu):C5 (((((V.setCell ⟨w.heap.size,0,none⟩ m).setCell ⟨w.heap.size,1,none⟩ l).setCell ⟨w.heap.size,2,none⟩ k).setCell ⟨w.heap.size,3,none⟩ j).setCell ⟨w.heap.size,4,none⟩ f) w.heap.size 0 m l k j f/\Pb (((((V.setCell ⟨w.heap.size,0,none⟩ m).setCell ⟨w.heap.size,1,none⟩ l).setCell ⟨w.heap.size,2,none⟩ k).setCell ⟨w.heap.size,3,none⟩ j).setCell ⟨w.heap.size,4,none⟩ f) p bd/\w.grownBy (((((V.setCell ⟨w.heap.size,0,none⟩ m).setCell ⟨w.heap.size,1,none⟩ l).setCell ⟨w.heap.size,2,none⟩ k).setCell ⟨w.heap.size,3,none⟩ j).setCell ⟨w.heap.size,4,none⟩ f) (some p):=by
 have n:p<w.heap.size:=by have:=h.lt;omega
 obtain⟨⟨y,u,t,s,q⟩,A⟩:=h.z;simp only[Kk]at y u t s q;have R:=h.pb.far (o:=0) (v:=m) n;have M:=R.far (o:=1) (v:=l) n;have L:=M.far (o:=2) (v:=k) n;have I:=L.far (o:=3) (v:=j) n;have H:=I.far (o:=4) (v:=f) n;have F:=JI h.g lRz 0 m;have g1:=JI F lRz 1 l;have E:=JI g1 lRz 2 k;have D:=JI E lRz 3 j;have C:=JI D lRz 4 f;refine⟨⟨⟨?_,?_,?_,?_,?_⟩,λi=>by simp only[World.frozen?_setCell];exact A i⟩,H,C⟩
 . exact Qi (Qi (Qi (Qi (QW y)))) (by decide)
 . exact Qi (Qi (Qi (QW (Qi u)))) (by decide)
 . exact Qi (Qi (QW (Qi (Qi t)))) (by decide)
 . exact Qi (QW (Qi (Qi (Qi s)))) (by decide)
 exact QW (Qi (Qi (Qi (Qi q))))
def Hz (n:Nat)(w:J)(a:Option Ad)(c:Nat)(xs:List Int):Prop:=w.ownsRow n 2 1 (S a (N xs) c) (N xs) (I xs)
def SiP (f op:Int)(r:List Wd)(w:J)(p:Nat)(e:Ending)(w':J):Prop:=∃(x:In) (la:Option Ad) (lc:Nat) (bd:Bool),e=Z (inV x la lc)/\x.op=op/\Hz w.heap.size w' la lc x.l/\Pb w' p bd/\w.grownBy w' (some p)/\(bd=false->0<=f/\Arg f r x)/\(0<=f->(∃y,Arg f r y)->bd=false)
theorem Xg {b o c:Nat}{s:Wd}(f:b<PK.hi/\b≠p)(hc:∀i,i<(s::r).length->w.cell? ⟨b,o+i,none⟩=some (Xs (Sz0 ((s::r).getD i []))))(d:N r+1<=c):Wv w (if c=1 then some ⟨b,o,none⟩else some ⟨b,o+1,none⟩) p r:=by
 by_cases a:r=[]
 . exact .inl a
 have:0<N r:=List.length_pos_iff.2 a;rw[if_neg (by omega)];refine .inr ⟨b,o+1,rfl,f,λi hi=>?_⟩;have:=hc (i+1) (by simp;omega);rw[show o+1+i=o+(i+1) by omega,this];simp
theorem QQ {n:Nat}(w:J):Hz n w none 0 []:=⟨rfl,.inl ⟨rfl,rfl⟩⟩
theorem sri_m1 (p b o c:Nat)(s:Wd)(r:List Wd)(w:J)(h:Pb w p false)(hb:b<PK.hi/\b≠p)(hc:∀i,i<(s::r).length->w.cell? ⟨b,o+i,none⟩=some (Xs (Sz0 ((s::r).getD i []))))(d:(s::r).length<=c)(hl:∀x∈s::r,N x<=1099511627776)(a3:N r<=1099511627776)(hf:QD (Qe (Qt s))=(-1)):Ec Q 23 #[Yp (some ⟨p,0,none⟩),S (some ⟨b,o,none⟩) (s::r).length c] w (SiP (-1) (Qt s) r w p):=by
 have E:=hc 0 (by simp);simp only[Hc,Tg]at E;obtain⟨W,A⟩:∃W,W=w.alloc (Fc #[U O 0,U O 0,U O 0,U Ou 0,S none 0 0] 70):=⟨_,rfl⟩;have k:Bw w.heap.size w W:=by rw[A];exact bFz.alloc lRz _
 have j:Hid (W.heap.size=w.heap.size+1):=by show _=_;rw[A];simp
 have n:C5 W w.heap.size 0 (U O 0) (U O 0) (U O 0) (U Ou 0) (S none 0 0):=by rw[A];exact C5.new
 have X:W.cell? ⟨b,o,none⟩=some (Xs (Sz0 s)):=(k.cell (p:=⟨b,o,none⟩) (Kh w _ E)).trans E;have KC:=Hm (Xi (Sz0 s) W);rw[QB]at KC;have HW:=Hm A;simp only[Kj]at d⊢;have B:=Hm (Xg hb hc d);have R:∀x∈r,N x<=1099511627776:=λx hx=>hl x (by simp[hx]);have C:=Hm h;have g:=h.lt2;have KF:=Hm (λUz0=>Xh (Qt s) Uz0);rw[hf]at KF;clear E A hc hl R h hf;generalize Qt s=op at *;go_enter func23,ntmps23;go_upto_region 1 with fail
 rw[<- HW.o];go_wp2_with fail
 refine KC.o.mono ?_;rintro e w1 ⟨rfl,f⟩;go_upto_region 3 with fail
 generalize(if c=1 then(some ⟨b,o,none⟩:Option Ad)else some ⟨b,o+1,none⟩)=ra at *;generalize c-1=rc at *;have t:w.heap.size<w1.heap.size:=by have:=f.size;have:=j.o;omega
 have a:Bw w.heap.size w w1:=k.trans (f.mono (by have:=j.o;omega));have q:C5 w1 w.heap.size 0 (U O 0) (U O 0) (U O 0) (U Ou 0) (S none 0 0):=n.keep f;refine Qh (λUz0=>Sx w p w1.heap.size ra r false (U O op) (U O 0) (U O 0) (U Ou 0) (S none 0 0) Uz0) ⟨C5.new,q.past,C.o.keep (a.alloc a.size _),Qu (a.alloc a.size _),B.o.keep (a.alloc a.size _) g,g,t⟩ ?_;rintro Uz0 l;have Y:=Hm l;have D:=l.x.1.1;clear l B C k j n X KC HW d f a q t;go_wp2_with fail
 refine(KF.o _).mono ?_;rintro e w2 ⟨rfl,rfl⟩;clear KF D;have KB:=Hm (QG p _ _ Y.o.pb);go_wp2_with fail
 refine KB.o.mono ?_;rintro e w5 ⟨rfl,u,y⟩;have S5:=Hm (Y.o.call y u);clear u y KB Y;obtain⟨⟨D,x1,x2,x3,x4⟩,-⟩:=S5.o.x;obtain⟨⟨z0,z1,z2,z3,z4⟩,m⟩:=S5.o.z;simp only[Kk]at D x1 x2 x3 x4 z0 z1 z2 z3 z4;have M:=m 0;have L:=m 1;have I:=m 2;have H:=m 3;have F:=m 4;clear m;go_wp2;refine Qx (λV=>C5 V w.heap.size 0 (U O op) (U O 0) (U O 0) (U Ou 0) (S none 0 0)/\Pb V p true/\w.grownBy V (some p)) (S5.o.fin _ _ _ _ _) ?_;rintro V ⟨⟨⟨t0,t1,t2,t3,t4⟩,-⟩,tU,gU⟩;simp only[Kk]at t0 t1 t2 t3 t4;have HU:=Hm (And.intro tU gU);clear tU gU D x1 x2 x3 x4 z0 z1 z2 z3 z4 M L I H F;exact bodyPost_ret (v:=inV ⟨op,0,0,0,[]⟩ none 0) (by simp[results,results23,go_sem,t0,t1,t2,t3,t4]) rfl ⟨⟨op,0,0,0,[]⟩,none,0,true,rfl,rfl,QQ _,HU.o.1,HU.o.2,λh=>absurd h (by decide),λh=>absurd h (by decide)⟩
theorem sriA:(∀(p b o c:Nat) (s:Wd) (r:List Wd) (w:J) (h:Pb w p false) (hb:b<PK.hi/\b≠p) (hc:∀i,i<(s::r).length->w.cell? ⟨b,o+i,none⟩=some (Xs (Sz0 ((s::r).getD i [])))) (a:(s::r).length<=c) (hl:∀x∈s::r,N x<=1099511627776) (aj:N r<=1099511627776) (hf:QD (Qe (Qt s))=0),Ec Q 23 #[Yp (some ⟨p,0,none⟩),S (some ⟨b,o,none⟩) (s::r).length c] w (SiP 0 (Qt s) r w p))/\(∀(p b o c:Nat) (s:Wd) (r:List Wd) (w:J) (h:Pb w p false) (hb:b<PK.hi/\b≠p) (hc:∀i,i<(s::r).length->w.cell? ⟨b,o+i,none⟩=some (Xs (Sz0 ((s::r).getD i [])))) (a:(s::r).length<=c) (hl:∀x∈s::r,N x<=1099511627776) (aj:N r<=1099511627776) (hf:QD (Qe (Qt s))=6),Ec Q 23 #[Yp (some ⟨p,0,none⟩),S (some ⟨b,o,none⟩) (s::r).length c] w (SiP 6 (Qt s) r w p)):=by
 refine⟨?c0,?c1⟩;case' c0=>have j:=0
 case' c1=>have g:=0
 all_goals
  intro p b o c s r w h hb hc a hl aj hf
  have cx:=hc 0 (by simp)
  simp only[Hc,Tg]at cx
  obtain⟨W,hW⟩:∃W,W=w.alloc (Fc #[U O 0,U O 0,U O 0,U Ou 0,S none 0 0] 70):=⟨_,rfl⟩;have H:Bw w.heap.size w W:=by rw[hW];exact bFz.alloc lRz _
  have F:Hid (W.heap.size=w.heap.size+1):=by show _=_;rw[hW];simp
  have ag:C5 W w.heap.size 0 (U O 0) (U O 0) (U O 0) (U Ou 0) (S none 0 0):=by rw[hW];exact C5.new
  have a1:W.cell? ⟨b,o,none⟩=some (Xs (Sz0 s)):=(H.cell (p:=⟨b,o,none⟩) (Kh w _ cx)).trans cx;have KC:=Hm (Xi (Sz0 s) W);rw[QB]at KC;have HW:=Hm hW
  simp only[Kj]at a⊢
  have av:=Hm (Xg hb hc a);have ao:∀x∈r,N x<=1099511627776:=λx hx=>hl x (by simp[hx]);have HL:=Hm ao;have ax:=Hm h;have q:=h.lt2;have KF:=Hm (λUz0=>Xh (Qt s) Uz0);rw[hf]at KF;clear cx hW hc hl ao h hf;generalize Qt s=op at *
  go_enter func23,ntmps23
  go_upto_region 1 with fail
  rw[<- HW.o]
  go_wp2_with fail
  refine KC.o.mono ?_
  rintro e w1 ⟨rfl,n⟩
  go_upto_region 3 with fail
  generalize(if c=1 then(some ⟨b,o,none⟩:Option Ad)else some ⟨b,o+1,none⟩)=ra at *;generalize c-1=rc at *;have ai:w.heap.size<w1.heap.size:=by have:=n.size;have:=F.o;omega
  have d:Bw w.heap.size w w1:=H.trans (n.mono (by have:=F.o;omega));have ah:C5 w1 w.heap.size 0 (U O 0) (U O 0) (U O 0) (U Ou 0) (S none 0 0):=ag.keep n
  refine Qh (λUz0=>Sx w p w1.heap.size ra r false (U O op) (U O 0) (U O 0) (U Ou 0) (S none 0 0) Uz0) ⟨C5.new,ah.past,ax.o.keep (d.alloc d.size _),Qu (d.alloc d.size _),av.o.keep (d.alloc d.size _) q,q,ai⟩ ?_
  rintro Uz0 I;have L:=Hm I;have E:=I.x.1.1;clear I av ax H F ag a1 KC HW a n d ah ai
  go_wp2_with fail
  refine(KF.o _).mono ?_
  rintro e w2 ⟨rfl,rfl⟩;clear KF E
  cases r with
  |nil =>
   obtain⟨⟨E,x1,x2,x3,x4⟩,-⟩:=L.o.x;obtain⟨⟨z0,Y,X,R,M⟩,f⟩:=L.o.z
   simp only[Kk]at E x1 x2 x3 x4 z0 Y X R M
   have D:=f 0;have C:=f 1;have B:=f 2;have A:=f 3;have u:=f 4;clear f
   go_wp2
   refine Qx (λV=>C5 V w.heap.size 0 (U O op) (U O 0) (U O 0) (U Ou 0) (S none 0 0)/\Pb V p false/\w.grownBy V (some p)) (L.o.fin _ _ _ _ _) ?_
   rintro V ⟨⟨⟨j,g,m,l,k⟩,-⟩,tU,gU⟩
   simp only[Kk]at j g m l k
   have HU:=Hm (And.intro tU gU);clear tU gU E x1 x2 x3 x4 z0 Y X R M D C B A u
   exact bodyPost_ret (v:=inV ⟨op,0,0,0,[]⟩ none 0) (by simp[results,results23,go_sem,j,g,m,l,k]) rfl ⟨⟨op,0,0,0,[]⟩,none,0,false,rfl,rfl,QQ _,HU.o.1,HU.o.2,λ_=>⟨by decide,by simp[Arg]⟩,λ_ _=>rfl⟩
  |cons t r =>
   have a7:(0:Int)<(N r:Int)+1:=by omega
   simp only[Kj]
   have KB:=Hm (QG p _ _ L.o.pb)
   go_wp2_with fail
   refine KB.o.mono ?_
   rintro e w5 ⟨rfl,ak,aq⟩;have S5:=Hm (L.o.call aq ak);clear ak aq KB L;obtain⟨⟨E,x1,x2,x3,x4⟩,-⟩:=S5.o.x;obtain⟨⟨z0,Y,X,R,M⟩,f⟩:=S5.o.z
   simp only[Kk]at E x1 x2 x3 x4 z0 Y X R M
   have D:=f 0;have C:=f 1;have B:=f 2;have A:=f 3;have u:=f 4;clear f
   go_wp2
   refine Qx (λV=>C5 V w.heap.size 0 (U O op) (U O 0) (U O 0) (U Ou 0) (S none 0 0)/\Pb V p true/\w.grownBy V (some p)) (S5.o.fin _ _ _ _ _) ?_
   rintro V ⟨⟨⟨j,g,m,l,k⟩,-⟩,tU,gU⟩
   simp only[Kk]at j g m l k
   have HU:=Hm (And.intro tU gU);clear tU gU E x1 x2 x3 x4 z0 Y X R M D C B A u
   exact bodyPost_ret (v:=inV ⟨op,0,0,0,[]⟩ none 0) (by simp[results,results23,go_sem,j,g,m,l,k]) rfl ⟨⟨op,0,0,0,[]⟩,none,0,true,rfl,rfl,QQ _,HU.o.1,HU.o.2,λh=>absurd h (by decide),λ_ ⟨y,hy⟩=>by simp[Arg]at hy⟩
def sri_0:=sriA.1
def sri_6:=sriA.2
theorem sriB:(∀(p b o c:Nat) (s:Wd) (r:List Wd) (w:J) (h:Pb w p false) (hb:b<PK.hi/\b≠p) (hc:∀i,i<(s::r).length->w.cell? ⟨b,o+i,none⟩=some (Xs (Sz0 ((s::r).getD i [])))) (a:(s::r).length<=c) (hl:∀x∈s::r,N x<=1099511627776) (M:N r<=1099511627776) (hf:QD (Qe (Qt s))=2),Ec Q 23 #[Yp (some ⟨p,0,none⟩),S (some ⟨b,o,none⟩) (s::r).length c] w (SiP 2 (Qt s) r w p))/\(∀(p b o c:Nat) (s:Wd) (r:List Wd) (w:J) (h:Pb w p false) (hb:b<PK.hi/\b≠p) (hc:∀i,i<(s::r).length->w.cell? ⟨b,o+i,none⟩=some (Xs (Sz0 ((s::r).getD i [])))) (a:(s::r).length<=c) (hl:∀x∈s::r,N x<=1099511627776) (M:N r<=1099511627776) (hf:QD (Qe (Qt s))=4),Ec Q 23 #[Yp (some ⟨p,0,none⟩),S (some ⟨b,o,none⟩) (s::r).length c] w (SiP 4 (Qt s) r w p)):=by
 refine⟨?c0,?c1⟩;case' c0=>have f:=0
 case' c1=>have g:=0
 all_goals
  intro p b o c s r w h hb hc a hl M hf
  have cx:=hc 0 (by simp)
  simp only[Hc,Tg]at cx
  obtain⟨W,hW⟩:∃W,W=w.alloc (Fc #[U O 0,U O 0,U O 0,U Ou 0,S none 0 0] 70):=⟨_,rfl⟩;have A:Bw w.heap.size w W:=by rw[hW];exact bFz.alloc lRz _
  have t:Hid (W.heap.size=w.heap.size+1):=by show _=_;rw[hW];simp
  have H:C5 W w.heap.size 0 (U O 0) (U O 0) (U O 0) (U Ou 0) (S none 0 0):=by rw[hW];exact C5.new
  have az:W.cell? ⟨b,o,none⟩=some (Xs (Sz0 s)):=(A.cell (p:=⟨b,o,none⟩) (Kh w _ cx)).trans cx;have KC:=Hm (Xi (Sz0 s) W);rw[QB]at KC;have HW:=Hm hW
  simp only[Kj]at a⊢
  have ac:=Hm (Xg hb hc a);have X:∀x∈r,N x<=1099511627776:=λx hx=>hl x (by simp[hx]);have HL:=Hm X;have ad:=Hm h;have k:=h.lt2;have KF:=Hm (λUz0=>Xh (Qt s) Uz0);rw[hf]at KF;clear cx hW hc hl X h hf;generalize Qt s=op at *
  go_enter func23,ntmps23
  go_upto_region 1 with fail
  rw[<- HW.o]
  go_wp2_with fail
  refine KC.o.mono ?_
  rintro e w1 ⟨rfl,j⟩
  go_upto_region 3 with fail
  generalize(if c=1 then(some ⟨b,o,none⟩:Option Ad)else some ⟨b,o+1,none⟩)=ra at *;generalize c-1=rc at *;have L:w.heap.size<w1.heap.size:=by have:=j.size;have:=t.o;omega
  have d:Bw w.heap.size w w1:=A.trans (j.mono (by have:=t.o;omega));have I:C5 w1 w.heap.size 0 (U O 0) (U O 0) (U O 0) (U Ou 0) (S none 0 0):=H.keep j
  refine Qh (λUz0=>Sx w p w1.heap.size ra r false (U O op) (U O 0) (U O 0) (U Ou 0) (S none 0 0) Uz0) ⟨C5.new,I.past,ad.o.keep (d.alloc d.size _),Qu (d.alloc d.size _),ac.o.keep (d.alloc d.size _) k,k,L⟩ ?_
  rintro Uz0 C;have SU:=Hm C;have x0:=C.x.1.1;clear C ac ad A t H az KC HW a j d I L
  go_wp2_with fail
  refine(KF.o _).mono ?_
  rintro e w2 ⟨rfl,rfl⟩;clear KF x0;have KR:=Hm (sru_c p ra rc r false _ SU.o.pb SU.o.wv HL.o)
  go_wp2_with fail
  refine KR.o.mono ?_
  rintro e w3 ⟨v,b2,rfl,R,Y,A1,A2⟩;have S3:=Hm (SU.o.call Y R);have HA:=Hm (And.intro A1 A2);have F:=S3.o.x.1.2.1;have E:=S3.o.x.2 1
  simp only[Kk]at F E
  clear R Y A1 A2 KR SU
  go_upto_region 46 with fail
  refine Qh (λV=>Sx w p w1.heap.size ra r b2 (U O op) (U O v) (U O 0) (U Ou 0) (S none 0 0) V) S3.o.set1 ?_
  rintro V4 ab;have SV:=Hm ab;clear ab F E S3;obtain⟨⟨x0,F,x2,x3,x4⟩,-⟩:=SV.o.x;obtain⟨⟨z0,z1,z2,z3,z4⟩,D⟩:=SV.o.z
  simp only[Kk]at x0 F x2 x3 x4 z0 z1 z2 z3 z4
  have aw:=D 0;have av:=D 1;have au:=D 2;have ar:=D 3;have aq:=D 4;clear D
  go_wp2
  refine Qx (λV=>C5 V w.heap.size 0 (U O op) (U O v) (U O 0) (U Ou 0) (S none 0 0)/\Pb V p b2/\w.grownBy V (some p)) (SV.o.fin _ _ _ _ _) ?_
  rintro V ⟨⟨⟨f,g,n,m,l⟩,-⟩,tU,gU⟩
  simp only[Kk]at f g n m l
  have HU:=Hm (And.intro tU gU);clear tU gU x0 F x2 x3 x4 z0 z1 z2 z3 z4 aw av au ar aq
  first|(replace f:=f;exact bodyPost_ret (v:=inV ⟨op,v,0,0,[]⟩ none 0) (by simp[results,results23,go_sem,f,g,n,m,l]) rfl ⟨⟨op,v,0,0,[]⟩,none,0,b2,rfl,rfl,QQ _,HU.o.1,HU.o.2,λh=>⟨by decide,by rw[arg_2];obtain⟨_,q,B,u⟩:=HA.o.1 h;exact⟨q,v,B,u,rfl⟩⟩,λ_ ⟨y,hy⟩=>by rw[arg_2]at hy;obtain⟨q,v2,B,u,-⟩:=hy;exact HA.o.2 trivial ⟨q,v2,B,u⟩⟩)|(exact bodyPost_ret (v:=inV ⟨op,v,0,0,[]⟩ none 0) (by simp[results,results23,go_sem,f,g,n,m,l]) rfl ⟨⟨op,v,0,0,[]⟩,none,0,b2,rfl,rfl,QQ _,HU.o.1,HU.o.2,λh=>⟨by decide,by rw[arg_4];obtain⟨_,q,B,u⟩:=HA.o.1 h;exact⟨q,v,B,u,rfl⟩⟩,λ_ ⟨y,hy⟩=>by rw[arg_4]at hy;obtain⟨q,v2,B,u,-⟩:=hy;exact HA.o.2 trivial ⟨q,v2,B,u⟩⟩)
def sri_2:=sriB.1
def sri_4:=sriB.2
