import Derived.Test.YtaccbbndmmhenaaGreatGaj
import Derived.Test.YtaccbbndmmhenaaGreatGak
set_option linter.all false
set_option maxHeartbeats 400000000
set_option maxRecDepth 100000
namespace Go.Proofs
open Value renaming int->U,slice->S,bool->G,agg->Ag
open IntKind renaming i64->O
open Ending renaming returned->Z
open Go renaming World->J,Calls->Ec,Addr->Ad
open Go.RowKit renaming Below->Bw
open Tryz renaming prog->Q
open Tryz
open Bool renaming true_and->Tk
open List renaming length->N
namespace YtaccbbndmmhenaaGreat
open Go.RowKit Go.Sort
def wfB (x:Mod):Bool:=x.types.all ftB&&(x.cj.all QP&&(x.jk.all Qz&&(x.cw.all Jn&&(x.jz.all Jn&&(x.ck.all QY&&(x.cv.all Jr&&(stB x.gz x.start&&(x.fq.all JD&&(x.fj.all Jl&&(x.fx.all JL&&(decide (N x.fj=N x.jk)&&(JF x x.fw 0))))))))))))
def Mod.Pos (x:Mod):Prop:=(∀i,i<N x.ck->QV (x.ck.getD i Qm.z).ini)/\(∀i,i<N x.fq->QV (x.fq.getD i Ele.z).off)/\(∀i,i<N x.fj->QV (x.fj.getD i Cod.z).body)/\(∀i,i<N x.fx->QV (x.fx.getD i Dat.z).off)
theorem Gd {x:Mod}(L:Mod.LB 1048576 x):x.Ln:=⟨L.1.1,L.2.1.1,L.2.2.1,L.2.2.2.1.1,L.2.2.2.2.1.1,L.2.2.2.2.2.1.1,L.2.2.2.2.2.2.1.1,L.2.2.2.2.2.2.2.1.1,L.2.2.2.2.2.2.2.2.1.1,L.2.2.2.2.2.2.2.2.2.1.1,L.2.2.2.2.2.2.2.2.2.2.1⟩
theorem iwf_c (x:Mod)(a1:Option Ad)(c1:Nat)(a2:Option Ad)(c2:Nat)(a3:Option Ad)(c3:Nat)(a4:Option Ad)(c4:Nat)(a5:Option Ad)(c5:Nat)(a6:Option Ad)(c6:Nat)(a7:Option Ad)(c7:Nat)(a8:Option Ad)(c8:Nat)(a9:Option Ad)(c9:Nat)(I:Option Ad)(av:Nat)(aw:Option Ad)(ay:Nat)(w:J)(hI:Mod.Is 0 w x a1 a2 a3 a4 a5 a6 a7 a8 a9 I aw)(hl:Mod.LB 1048576 x)(hp:x.Pos):Ec Q 100 #[Ag #[S a1 (N x.types) c1,S a2 (N x.cj) c2,S a3 (N x.jk) c3,S a4 (N x.cw) c4,S a5 (N x.jz) c5,S a6 (N x.ck) c6,S a7 (N x.cv) c7,G x.gz,U O x.start,S a8 (N x.fq) c8,S a9 (N x.fj) c9,S I (N x.fx) av,S aw (N x.fw) ay]] w λe w'=>e=Z (G (wfB x))/\Bw w.heap.size w w':=by
 have ⟨l1,l2,l3,l4,l5,l6,l7,l8,l9,l10,l11⟩:=Gd hl;obtain⟨r1,r2,r3,r4,r5,r6,r7,r8,r9,a0,az⟩:=hI;have R1:=Hm r1;have R2:=Hm r2;have R3:=Hm r3;have R4:=Hm r4;have R5:=Hm r5;have R6:=Hm r6;have R7:=Hm r7;have R8:=Hm r8;have R9:=Hm r9;have b1:=Hm a0;have bz:=Hm az;clear r1 r2 r3 r4 r5 r6 r7 r8 r9 a0 az;have H:=Hm hl;have F:=Hm hp;clear hl hp;go_enter func100,ntmps100;go_upto_region 1 with fail
 refine Qj (λW=>Bk W w.heap.size [S a1 (N x.types) c1,S a2 (N x.cj) c2,S a3 (N x.jk) c3,S a4 (N x.cw) c4,S a5 (N x.jz) c5,S a6 (N x.ck) c6,S a7 (N x.cv) c7,G x.gz,U O x.start,S a8 (N x.fq) c8,S a9 (N x.fj) c9,S I (N x.fx) av,S aw (N x.fw) ay]/\Bw w.heap.size w W) ⟨Bk.new,bFz.alloc lRz _⟩ ?_;rintro W0 ⟨a,c⟩;have y:=a.2.1 0 _ rfl;have v:=a.2.1 1 _ rfl;have u:=a.2.1 2 _ rfl;have t:=a.2.1 3 _ rfl;have s:=a.2.1 4 _ rfl;have r:=a.2.1 5 _ rfl;have q:=a.2.1 6 _ rfl;have p:=a.2.1 7 _ rfl;have n:=a.2.1 8 _ rfl;have m:=a.2.1 9 _ rfl;have g:=a.2.1 10 _ rfl;have f:=a.2.1 11 _ rfl;have d:=a.2.1 12 _ rfl;have L:=H.o;have P:=F.o;have af:=Hm (aaFType_c a1 c1 x.types W0 L.1 (R1.o.up (up_below c)));clear L P;generalize au:x.types.all ftB=t0 at af;cases t0
 . (have A:Hid (wfB x=false):=by show _=_;rw[wfB,au];rfl);clear au ;(go_wp2_with fail);refine af.o.mono ?_;rintro e E ⟨rfl,b⟩;have c:=c.trans (b.mono c.size);clear b a af y v u t s r q p n m g f d;go_wp2;go_ret;exact⟨by rw[A.o];rfl,c⟩
 have k:Hid (wfB x=(x.cj.all QP&&(x.jk.all Qz&&(x.cw.all Jn&&(x.jz.all Jn&&(x.ck.all QY&&(x.cv.all Jr&&(stB x.gz x.start&&(x.fq.all JD&&(x.fj.all Jl&&(x.fx.all JL&&(decide (N x.fj=N x.jk)&&(JF x x.fw 0))))))))))))):=by show _=_;rw[wfB,au,Tk]
 clear au ;go_wp2_with fail
 refine af.o.mono ?_;rintro e W1 ⟨rfl,b⟩;have z:=a.keep b;have j:=c.trans (b.mono c.size);clear b af a c y v u t s r q p n m g f d;have a:=z;have c:=j;have l:=k;clear z j k;have y:=a.2.1 0 _ rfl;have v:=a.2.1 1 _ rfl;have u:=a.2.1 2 _ rfl;have t:=a.2.1 3 _ rfl;have s:=a.2.1 4 _ rfl;have r:=a.2.1 5 _ rfl;have q:=a.2.1 6 _ rfl;have p:=a.2.1 7 _ rfl;have n:=a.2.1 8 _ rfl;have m:=a.2.1 9 _ rfl;have g:=a.2.1 10 _ rfl;have f:=a.2.1 11 _ rfl;have d:=a.2.1 12 _ rfl;have L:=H.o;have P:=F.o;have ae:=Hm (aaImp_c a2 c2 x.cj W1 L.2.1 (R2.o.up (up_below c)));clear L P;generalize ar:x.cj.all QP=t1 at ae;cases t1
 . (have A:Hid (wfB x=false):=by show _=_;rw[l.o,ar];rfl);clear ar l;(go_wp2_with fail);refine ae.o.mono ?_;rintro e E ⟨rfl,b⟩;have c:=c.trans (b.mono c.size);clear b a ae y v u t s r q p n m g f d;go_wp2;go_ret;exact⟨by rw[A.o];rfl,c⟩
 have k:Hid (wfB x=(x.jk.all Qz&&(x.cw.all Jn&&(x.jz.all Jn&&(x.ck.all QY&&(x.cv.all Jr&&(stB x.gz x.start&&(x.fq.all JD&&(x.fj.all Jl&&(x.fx.all JL&&(decide (N x.fj=N x.jk)&&(JF x x.fw 0)))))))))))):=by show _=_;rw[l.o,ar,Tk]
 clear ar l;go_wp2_with fail
 refine ae.o.mono ?_;rintro e W2 ⟨rfl,b⟩;have z:=a.keep b;have j:=c.trans (b.mono c.size);clear b ae a c y v u t s r q p n m g f d;have a:=z;have c:=j;have l:=k;clear z j k;have y:=a.2.1 0 _ rfl;have v:=a.2.1 1 _ rfl;have u:=a.2.1 2 _ rfl;have t:=a.2.1 3 _ rfl;have s:=a.2.1 4 _ rfl;have r:=a.2.1 5 _ rfl;have q:=a.2.1 6 _ rfl;have p:=a.2.1 7 _ rfl;have n:=a.2.1 8 _ rfl;have m:=a.2.1 9 _ rfl;have g:=a.2.1 10 _ rfl;have f:=a.2.1 11 _ rfl;have d:=a.2.1 12 _ rfl;have L:=H.o;have P:=F.o;have ac:=Hm (Jw (allAre_c a3 c3 x.jk W2 (by have:=L.2.2.1;omega) (R3.o.up (up_below c)).has));clear L P;generalize aq:x.jk.all Qz=t2 at ac;cases t2
 . (have A:Hid (wfB x=false):=by show _=_;rw[l.o,aq];rfl);clear aq l;(go_wp2_with fail);refine ac.o.mono ?_;rintro e E ⟨rfl,b⟩;have c:=c.trans (b.mono c.size);clear b a ac y v u t s r q p n m g f d;go_wp2;go_ret;exact⟨by rw[A.o];rfl,c⟩
 have k:Hid (wfB x=(x.cw.all Jn&&(x.jz.all Jn&&(x.ck.all QY&&(x.cv.all Jr&&(stB x.gz x.start&&(x.fq.all JD&&(x.fj.all Jl&&(x.fx.all JL&&(decide (N x.fj=N x.jk)&&(JF x x.fw 0))))))))))):=by show _=_;rw[l.o,aq,Tk]
 clear aq l;go_wp2_with fail
 refine ac.o.mono ?_;rintro e W3 ⟨rfl,b⟩;have z:=a.keep b;have j:=c.trans (b.mono c.size);clear b ac a c y v u t s r q p n m g f d;have a:=z;have c:=j;have l:=k;clear z j k;have y:=a.2.1 0 _ rfl;have v:=a.2.1 1 _ rfl;have u:=a.2.1 2 _ rfl;have t:=a.2.1 3 _ rfl;have s:=a.2.1 4 _ rfl;have r:=a.2.1 5 _ rfl;have q:=a.2.1 6 _ rfl;have p:=a.2.1 7 _ rfl;have n:=a.2.1 8 _ rfl;have m:=a.2.1 9 _ rfl;have g:=a.2.1 10 _ rfl;have f:=a.2.1 11 _ rfl;have d:=a.2.1 12 _ rfl;have L:=H.o;have P:=F.o;have ab:=Hm (aaLimits_c a4 c4 x.cw W3 L.2.2.2.1 (R4.o.up (up_below c)));clear L P;generalize ap:x.cw.all Jn=t3 at ab;cases t3
 . (have A:Hid (wfB x=false):=by show _=_;rw[l.o,ap];rfl);clear ap l;(go_wp2_with fail);refine ab.o.mono ?_;rintro e E ⟨rfl,b⟩;have c:=c.trans (b.mono c.size);clear b a ab y v u t s r q p n m g f d;go_wp2;go_ret;exact⟨by rw[A.o];rfl,c⟩
 have k:Hid (wfB x=(x.jz.all Jn&&(x.ck.all QY&&(x.cv.all Jr&&(stB x.gz x.start&&(x.fq.all JD&&(x.fj.all Jl&&(x.fx.all JL&&(decide (N x.fj=N x.jk)&&(JF x x.fw 0)))))))))):=by show _=_;rw[l.o,ap,Tk]
 clear ap l;go_wp2_with fail
 refine ab.o.mono ?_;rintro e W4 ⟨rfl,b⟩;have z:=a.keep b;have j:=c.trans (b.mono c.size);clear b ab a c y v u t s r q p n m g f d;have a:=z;have c:=j;have l:=k;clear z j k;have y:=a.2.1 0 _ rfl;have v:=a.2.1 1 _ rfl;have u:=a.2.1 2 _ rfl;have t:=a.2.1 3 _ rfl;have s:=a.2.1 4 _ rfl;have r:=a.2.1 5 _ rfl;have q:=a.2.1 6 _ rfl;have p:=a.2.1 7 _ rfl;have n:=a.2.1 8 _ rfl;have m:=a.2.1 9 _ rfl;have g:=a.2.1 10 _ rfl;have f:=a.2.1 11 _ rfl;have d:=a.2.1 12 _ rfl;have L:=H.o;have P:=F.o;have aa:=Hm (aaLimits_c a5 c5 x.jz W4 L.2.2.2.2.1 (R5.o.up (up_below c)));clear L P;generalize ao:x.jz.all Jn=t4 at aa;cases t4
 . (have A:Hid (wfB x=false):=by show _=_;rw[l.o,ao];rfl);clear ao l;(go_wp2_with fail);refine aa.o.mono ?_;rintro e E ⟨rfl,b⟩;have c:=c.trans (b.mono c.size);clear b a aa y v u t s r q p n m g f d;go_wp2;go_ret;exact⟨by rw[A.o];rfl,c⟩
 have k:Hid (wfB x=(x.ck.all QY&&(x.cv.all Jr&&(stB x.gz x.start&&(x.fq.all JD&&(x.fj.all Jl&&(x.fx.all JL&&(decide (N x.fj=N x.jk)&&(JF x x.fw 0))))))))):=by show _=_;rw[l.o,ao,Tk]
 clear ao l;go_wp2_with fail
 refine aa.o.mono ?_;rintro e W5 ⟨rfl,b⟩;have z:=a.keep b;have j:=c.trans (b.mono c.size);clear b aa a c y v u t s r q p n m g f d;have a:=z;have c:=j;have l:=k;clear z j k;have y:=a.2.1 0 _ rfl;have v:=a.2.1 1 _ rfl;have u:=a.2.1 2 _ rfl;have t:=a.2.1 3 _ rfl;have s:=a.2.1 4 _ rfl;have r:=a.2.1 5 _ rfl;have q:=a.2.1 6 _ rfl;have p:=a.2.1 7 _ rfl;have n:=a.2.1 8 _ rfl;have m:=a.2.1 9 _ rfl;have g:=a.2.1 10 _ rfl;have f:=a.2.1 11 _ rfl;have d:=a.2.1 12 _ rfl;have L:=H.o;have P:=F.o;have Y:=Hm (aaGlob_c a6 c6 x.ck W5 L.2.2.2.2.2.1 (R6.o.up (up_below c)) P.1);clear L P;generalize ak:x.ck.all QY=t5 at Y;cases t5
 . (have A:Hid (wfB x=false):=by show _=_;rw[l.o,ak];rfl);clear ak l;(go_wp2_with fail);refine Y.o.mono ?_;rintro e E ⟨rfl,b⟩;have c:=c.trans (b.mono c.size);clear b a Y y v u t s r q p n m g f d;go_wp2;go_ret;exact⟨by rw[A.o];rfl,c⟩
 have k:Hid (wfB x=(x.cv.all Jr&&(stB x.gz x.start&&(x.fq.all JD&&(x.fj.all Jl&&(x.fx.all JL&&(decide (N x.fj=N x.jk)&&(JF x x.fw 0)))))))):=by show _=_;rw[l.o,ak,Tk]
 clear ak l;go_wp2_with fail
 refine Y.o.mono ?_;rintro e W6 ⟨rfl,b⟩;have z:=a.keep b;have j:=c.trans (b.mono c.size);clear b Y a c y v u t s r q p n m g f d;have a:=z;have c:=j;have l:=k;clear z j k;have y:=a.2.1 0 _ rfl;have v:=a.2.1 1 _ rfl;have u:=a.2.1 2 _ rfl;have t:=a.2.1 3 _ rfl;have s:=a.2.1 4 _ rfl;have r:=a.2.1 5 _ rfl;have q:=a.2.1 6 _ rfl;have p:=a.2.1 7 _ rfl;have n:=a.2.1 8 _ rfl;have m:=a.2.1 9 _ rfl;have g:=a.2.1 10 _ rfl;have f:=a.2.1 11 _ rfl;have d:=a.2.1 12 _ rfl;have L:=H.o;have P:=F.o;have X:=Hm (aaExp_c a7 c7 x.cv W6 L.2.2.2.2.2.2.1 (R7.o.up (up_below c)));clear L P;generalize aj:x.cv.all Jr=t6 at X;cases t6
 . (have A:Hid (wfB x=false):=by show _=_;rw[l.o,aj];rfl);clear aj l;(go_wp2_with fail);refine X.o.mono ?_;rintro e E ⟨rfl,b⟩;have c:=c.trans (b.mono c.size);clear b a X y v u t s r q p n m g f d;go_wp2;go_ret;exact⟨by rw[A.o];rfl,c⟩
 have k:Hid (wfB x=(stB x.gz x.start&&(x.fq.all JD&&(x.fj.all Jl&&(x.fx.all JL&&(decide (N x.fj=N x.jk)&&(JF x x.fw 0))))))):=by show _=_;rw[l.o,aj,Tk]
 clear aj l;go_wp2_with fail
 refine X.o.mono ?_;rintro e W7 ⟨rfl,b⟩;have z:=a.keep b;have j:=c.trans (b.mono c.size);clear b X a c y v u t s r q p n m g f d;have a:=z;have c:=j;have l:=k;clear z j k;have y:=a.2.1 0 _ rfl;have v:=a.2.1 1 _ rfl;have u:=a.2.1 2 _ rfl;have t:=a.2.1 3 _ rfl;have s:=a.2.1 4 _ rfl;have r:=a.2.1 5 _ rfl;have q:=a.2.1 6 _ rfl;have p:=a.2.1 7 _ rfl;have n:=a.2.1 8 _ rfl;have m:=a.2.1 9 _ rfl;have g:=a.2.1 10 _ rfl;have f:=a.2.1 11 _ rfl;have d:=a.2.1 12 _ rfl;have L:=H.o;have P:=F.o;have V:=Hm (Jw (istart_c x.gz x.start W7));clear L P;generalize ai:stB x.gz x.start=t7 at V;cases t7
 . (have A:Hid (wfB x=false):=by show _=_;rw[l.o,ai];rfl);clear ai l;(go_wp2_with fail);refine V.o.mono ?_;rintro e E ⟨rfl,b⟩;have c:=c.trans (b.mono c.size);clear b a V y v u t s r q p n m g f d;go_wp2;go_ret;exact⟨by rw[A.o];rfl,c⟩
 have k:Hid (wfB x=(x.fq.all JD&&(x.fj.all Jl&&(x.fx.all JL&&(decide (N x.fj=N x.jk)&&(JF x x.fw 0)))))):=by show _=_;rw[l.o,ai,Tk]
 clear ai l;go_wp2_with fail
 refine V.o.mono ?_;rintro e W8 ⟨rfl,b⟩;have z:=a.keep b;have j:=c.trans (b.mono c.size);clear b V a c y v u t s r q p n m g f d;have a:=z;have c:=j;have l:=k;clear z j k;have y:=a.2.1 0 _ rfl;have v:=a.2.1 1 _ rfl;have u:=a.2.1 2 _ rfl;have t:=a.2.1 3 _ rfl;have s:=a.2.1 4 _ rfl;have r:=a.2.1 5 _ rfl;have q:=a.2.1 6 _ rfl;have p:=a.2.1 7 _ rfl;have n:=a.2.1 8 _ rfl;have m:=a.2.1 9 _ rfl;have g:=a.2.1 10 _ rfl;have f:=a.2.1 11 _ rfl;have d:=a.2.1 12 _ rfl;have L:=H.o;have P:=F.o;have R:=Hm (aaEle_c a8 c8 x.fq W8 L.2.2.2.2.2.2.2.1 (R8.o.up (up_below c)) P.2.1);clear L P;generalize ah:x.fq.all JD=t8 at R;cases t8
 . (have A:Hid (wfB x=false):=by show _=_;rw[l.o,ah];rfl);clear ah l;(go_wp2_with fail);refine R.o.mono ?_;rintro e E ⟨rfl,b⟩;have c:=c.trans (b.mono c.size);clear b a R y v u t s r q p n m g f d;go_wp2;go_ret;exact⟨by rw[A.o];rfl,c⟩
 have k:Hid (wfB x=(x.fj.all Jl&&(x.fx.all JL&&(decide (N x.fj=N x.jk)&&(JF x x.fw 0))))):=by show _=_;rw[l.o,ah,Tk]
 clear ah l;go_wp2_with fail
 refine R.o.mono ?_;rintro e E ⟨rfl,b⟩;have z:=a.keep b;have j:=c.trans (b.mono c.size);clear b R a c y v u t s r q p n m g f d;have a:=z;have c:=j;have l:=k;clear z j k;have y:=a.2.1 0 _ rfl;have v:=a.2.1 1 _ rfl;have u:=a.2.1 2 _ rfl;have t:=a.2.1 3 _ rfl;have s:=a.2.1 4 _ rfl;have r:=a.2.1 5 _ rfl;have q:=a.2.1 6 _ rfl;have p:=a.2.1 7 _ rfl;have n:=a.2.1 8 _ rfl;have m:=a.2.1 9 _ rfl;have g:=a.2.1 10 _ rfl;have f:=a.2.1 11 _ rfl;have d:=a.2.1 12 _ rfl;have L:=H.o;have P:=F.o;have M:=Hm (aaCod_c a9 c9 x.fj E L.2.2.2.2.2.2.2.2.1 (R9.o.up (up_below c)) P.2.2.1);clear L P;generalize ag:x.fj.all Jl=t9 at M;cases t9
 . (have A:Hid (wfB x=false):=by show _=_;rw[l.o,ag];rfl);clear ag l;(go_wp2_with fail);refine M.o.mono ?_;rintro e E ⟨rfl,b⟩;have c:=c.trans (b.mono c.size);clear b a M y v u t s r q p n m g f d;go_wp2;go_ret;exact⟨by rw[A.o];rfl,c⟩
 have k:Hid (wfB x=(x.fx.all JL&&(decide (N x.fj=N x.jk)&&(JF x x.fw 0)))):=by show _=_;rw[l.o,ag,Tk]
 clear ag l;go_wp2_with fail
 refine M.o.mono ?_;rintro e bw ⟨rfl,b⟩;have z:=a.keep b;have j:=c.trans (b.mono c.size);clear b M a c y v u t s r q p n m g f d;have a:=z;have c:=j;have l:=k;clear z j k;have y:=a.2.1 0 _ rfl;have v:=a.2.1 1 _ rfl;have u:=a.2.1 2 _ rfl;have t:=a.2.1 3 _ rfl;have s:=a.2.1 4 _ rfl;have r:=a.2.1 5 _ rfl;have q:=a.2.1 6 _ rfl;have p:=a.2.1 7 _ rfl;have n:=a.2.1 8 _ rfl;have m:=a.2.1 9 _ rfl;have g:=a.2.1 10 _ rfl;have f:=a.2.1 11 _ rfl;have d:=a.2.1 12 _ rfl;have L:=H.o;have P:=F.o;have C:=Hm (aaDat_c I av x.fx bw L.2.2.2.2.2.2.2.2.2.1 (b1.o.up (up_below c)) P.2.2.2);clear L P;generalize D:x.fx.all JL=t10 at C;cases t10
 . (have A:Hid (wfB x=false):=by show _=_;rw[l.o,D];rfl);clear D l;(go_wp2_with fail);refine C.o.mono ?_;rintro e E ⟨rfl,b⟩;have c:=c.trans (b.mono c.size);clear b a C y v u t s r q p n m g f d;go_wp2;go_ret;exact⟨by rw[A.o];rfl,c⟩
 have k:Hid (wfB x=(decide (N x.fj=N x.jk)&&(JF x x.fw 0))):=by show _=_;rw[l.o,D,Tk]
 clear D l;go_wp2_with fail
 refine C.o.mono ?_;rintro e bv ⟨rfl,b⟩;have z:=a.keep b;have j:=c.trans (b.mono c.size);clear b C a c y v u t s r q p n m g f d;have a:=z;have c:=j;have l:=k;clear z j k;have y:=a.2.1 0 _ rfl;have v:=a.2.1 1 _ rfl;have u:=a.2.1 2 _ rfl;have t:=a.2.1 3 _ rfl;have s:=a.2.1 4 _ rfl;have r:=a.2.1 5 _ rfl;have q:=a.2.1 6 _ rfl;have p:=a.2.1 7 _ rfl;have n:=a.2.1 8 _ rfl;have m:=a.2.1 9 _ rfl;have g:=a.2.1 10 _ rfl;have f:=a.2.1 11 _ rfl;have d:=a.2.1 12 _ rfl;by_cases B:N x.fj=N x.jk
 case neg=>
  have bo:Hid (wfB x=false):=by show _=_;rw[l.o];simp[B]
  have hn:¬((N x.fj:Int)=(N x.jk:Int)):=by omega
  have bt:((N x.fj:Int)==(N x.jk:Int))=false:=by simpa using hn
  clear B a;go_wp2;go_ret;exact⟨by rw[bo.o];rfl,c⟩
 have l:Hid (wfB x=(JF x x.fw 0)):=by show _=_;rw[l.o];simp[B]
 have bt:((N x.fj:Int)==(N x.jk:Int))=true:=by simp[B]
 clear B;have L:=H.o;have P:=F.o;have ad:=Hm (icus_c x a1 c1 a2 c2 a3 c3 a4 c4 a5 c5 a6 c6 a7 c7 a8 c8 a9 c9 I av aw ay bv (bz.o.up (up_below c)) (Gd L) L.2.2.2.2.2.2.2.2.2.2.2);clear L P;generalize ax:JF x x.fw 0=t12 at ad;have A:Hid (wfB x=t12):=by show _=_;rw[l.o,ax]
 clear ax l;go_wp2_with fail
 with_reducible refine ad.o.mono ?_
 rintro e E ⟨rfl,b⟩;have c:=c.trans (b.mono c.size);clear b a ad y v u t s r q p n m g f d;go_wp2;go_ret;exact⟨by rw[A.o];rfl,c⟩
