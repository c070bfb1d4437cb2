import Derived.Lib.AppendIntMem
import Derived.Lib.AtoiErrMem
import Derived.Test.YtejkdbnngphgaaaGreatDoorGad
import Derived.Lib.Bytealg
import Derived.Lib.IndexLaws
set_option linter.all false
set_option maxHeartbeats 400000000
set_option maxRecDepth 100000
namespace Go.Proofs
open Value renaming int->U,slice->S,pointer->Yp,string->Xs,nilIface->Nf
open IntKind renaming i64->O,u64->Ou
open Ending renaming returned->Z
open Obj renaming cells->Fc
open Go renaming World->J,Calls->Ec,Value->Vu
open Go.RowKit renaming Below->Bw
open Tryz renaming prog->Q
open Tryz
open List renaming length->N
namespace YtejkdbnngphgaaaGreatDoor
open Go.RowKit
theorem opMemory_c (p:Nat)(w:J)(h1:40<=p)(a:p<69):Ec Q 206 #[U O p] w λe w'=>e=Z (JN (Qe p))/\Bw w.heap.size w w':=by
 generalize hr:Qe p=r;have b:R53[p]?=some r:=by rw[<- hr];exact R53_at p h1 a
 go_enter func206,ntmps206;go_wp2_with fail
 rw[idxT underlying263 R53 (p:=p) (r:=r) (hr:=b) (hp:=a)];case hv=>kernel_rfl
 simp only[Result.andThen_ok];go_wp2;exact bodyPost_ret (v:=JN r) (by simp[results,results206,go_sem]) rfl ⟨rfl,by repeat (first|exact bFz|refine Below.setCell ?_ (by first|(simp;done)|(simp;omega)) _|refine Below.alloc ?_ (by first|(simp;done)|(simp;omega)) _|apply Below.drew)⟩
end YtejkdbnngphgaaaGreatDoor
namespace YtejkdbnngphgaaaGreatDoor.Yz
open Go.RowKit Go.Sort
variable {w:J}{s:Wd}
def IsErr (ev:Vu):Prop:=ev=Nf\/∃te pe,ev=.iface te pe
structure Vs (q:Nat)(w:J):Prop where
 tz:w.cell? ⟨7,15,none⟩=some (U .u8 4)
 tab:Lib.TabBelow Q q w "internal/strconv.uint64pow10" Ou Lib.pow10Tab
 e1:∃ev,w.cell? ⟨1,0,none⟩=some ev/\IsErr ev
 e2:∃ev,w.cell? ⟨2,0,none⟩=some ev/\IsErr ev
 ge:8<=q
theorem Vs.keep {q:Nat}{w':J}(h:Vs q w)(a:Bw q w w'):Vs q w':=by
 have ge:=h.ge;obtain⟨c,j,f⟩:=h.e1;obtain⟨b,g,d⟩:=h.e2;exact⟨(a.cell (p:=⟨7,15,none⟩) (by show 7<q;omega)).trans h.tz,λw2 h2=>h.tab w2 (a.trans h2),⟨c,(a.cell (p:=⟨1,0,none⟩) (by show 1<q;omega)).trans j,f⟩,⟨b,(a.cell (p:=⟨2,0,none⟩) (by show 2<q;omega)).trans g,d⟩,ge⟩
theorem Vs.up {q a:Nat}(h:Vs q w)(b:q<=a):Vs a w:=⟨h.tz,λw2 h2=>h.tab w2 (h2.mono b),h.e1,h.e2,Nat.le_trans h.ge b⟩
theorem num_c (q:Nat)(x:Int)(w:J)(d:-9223372036854775808<=x)(h1:x<=9223372036854775807)(b:Vs q w):Ec Q 173 #[U O x] w λe w'=>e=Z (Xs (Sz0 (Lib.itoa x)))/\Bw w.heap.size w w':=by
 have K:=Hm (strconv_FormatInt_10 x d h1 w b.tab.here);clear b;go_enter func173,ntmps173;go_wp2_with fail
 refine K.o.mono ?_;rintro e c ⟨rfl,k,os,a⟩;have f:Hid (Bw w.heap.size w c):=by show Bw _ _ _;rw[a];exact Lib.below_grow _ _ lRz k os
 clear a K;go_wp2;go_ret;exact⟨rfl,f.o⟩
def okP (s:Wd):Option Int:=match Lib.parseIntB 64 s with|.ok v=>some v|_=>none
theorem okP_bd {v:Int}(h:okP s=some v):-9223372036854775808<=v/\v<=9223372036854775807:=by
 unfold okP at h;split at h
 . rename_i u a;cases h;unfold Lib.parseIntB at a;split at a
   . cases a
   simp only at a;split at a
   . cases a
   . cases a
   split at a
   . cases a
   split at a
   . cases a
   rename_i d c;simp only[Lib.NumEnd.ok.injEq]at a;subst a;split<;>rename_i b<;>simp[b]at d c<;>omega
 cases h
theorem pint_c (q:Nat)(s:Wd)(w:J)(hl:N s<=1099511627776)(j:Vs q w):Ec Q 172 #[Xs (Sz0 s),U O 10,U O 64] w λe b=>∃x a,e=Z (.tuple #[U O x,a])/\Bw w.heap.size w b/\((okP s=some x/\a=Nf)\/(okP s=none/\∃t p,a=.iface t p)):=by
 have m:(Sz0 s).size=N s:=QJ s;have d:(Sz0 s).data.toList=s:=QB s;cases hp:Lib.parseIntB 64 s
 case ok v =>
  refine(strconv_ParseInt_10_at64_ok (Sz0 s) (by omega) v (by rw[d];exact hp) w).mono ?_
  rintro e b ⟨rfl,l⟩
  refine⟨v,_,rfl,?_,.inl ⟨by simp[okP,hp],rfl⟩⟩
  rcases l with rfl|⟨t,rfl⟩
  . exact bFz
  . exact Lib.bytesWorld_below _ _ _
 case range=>obtain⟨a,g,c⟩:=j.e2;refine(strconv_ParseInt_10_at64_range (Sz0 s) (by omega) (by rw[d];exact hp) a w g c).mono ?_;rintro e b ⟨k,rfl,_,_,f⟩;exact⟨_,_,rfl,f,.inr ⟨by simp[okP,hp],_,_,rfl⟩⟩
 next =>
  obtain⟨a,g,c⟩:=j.e1
  refine(strconv_ParseInt_10_at64_syntax (Sz0 s) (by omega) (by rw[d];exact hp) a w g c).mono ?_
  rintro e b ⟨k,rfl,_,_,f⟩
  exact⟨_,_,rfl,f,.inr ⟨by simp[okP,hp],_,_,rfl⟩⟩
def okN (lo hi:Int)(s:Wd):Bool:=match okP s with|some v=>decide (lo<=v)&&(decide (v<=hi)&&decide (Lib.itoa v=s))|none=>false
theorem Xt (a b:Wd):((Sz0 a).toList==(Sz0 b).toList)=decide (a=b):=by
 rw[ByteArray.toList_eq,ByteArray.toList_eq,QB,QB];by_cases h:a=b
 . subst h;simp
 simp[h]
theorem number_c (q:Nat)(ws:List Wd)(bad:Bool)(lo hi:Int)(w:J)(h:Tw w q ws bad)(hl:∀x∈ws,N x<=1099511627776)(M:Vs q w):Ec Q 113 #[Yp (some ⟨q,0,none⟩),U O lo,U O hi] w λe w'=>∃x:Int,e=Z (U O x)/\Tw w' q ws.tail ((bad || ws.isEmpty) || !okN lo hi (ws.headD []))/\w.grownBy w' (some q)/\(okN lo hi (ws.headD [])=true->okP (ws.headD [])=some x):=by
 have Y:=Hm (next_g q ws bad w h);have F:(ws.headD []).length<=1099511627776:=by
  cases ws with
  |nil=>simp
  |cons x r=>exact hl x (by simp)
 have HV:=Hm M;have hq:=h.lt;clear h M hl;generalize ws.headD []=s at *;generalize ws.tail=r at *;generalize(bad || ws.isEmpty)=z at *;go_enter func113,ntmps113;go_wp2_with fail
 refine Y.o.mono ?_;rintro e w1 ⟨rfl,D,b1⟩;have X:=Hm D;have B1:=Hm b1;have I:=Hm (HV.o.keep (Jt b1 hq));have ag:=D.lt;clear D b1 Y HV;go_wp2_with fail
 refine(pint_c q s w1 F I.o).mono ?_;rintro e A ⟨x,ev,rfl,B,hx⟩;have u:=Hm (X.o.keep B);have v:=Hm (Ql B1.o (Qu B));have R:=Hm (I.o.keep (B.mono (by omega)));clear B X B1 I;rcases hx with ⟨hx,rfl⟩|⟨hx,t,p,rfl⟩
 . obtain⟨x0,x1⟩:=okP_bd hx;have C:=Hm (num_c q x A x0 x1 R.o);(have a:okN lo hi s=(decide (lo<=x)&&(decide (x<=hi)&&decide (Lib.itoa x=s))):=by simp[okN,hx]);have HX:=Hm hx;have b:=Hm a;clear hx a;by_cases m:lo<=x
   . by_cases n:x<=hi
     . (go_wp2_with fail);refine C.o.mono ?_;rintro e L ⟨rfl,H⟩;have V:=Hm (u.o.keep H);have B3:=Hm (Ql v.o (Qu H));clear H u v R C;by_cases l:Lib.itoa x=s
       . (have a:okN lo hi s=true:=by rw[b.o];simp[m,n,l]);have g:=Hm a;have f:=Hm (JZ q r z true L V.o);have HE:=Hm l;(have E:((Sz0 (Lib.itoa x)).toList==(Sz0 s).toList)=true:=by rw[Xt];simp[HE.o]);clear a l;(go_wp2_with fail);refine f.o.mono ?_;rintro e y ⟨rfl,c,d⟩;have j:=Hm c;have k:=Hm (Ql B3.o d);clear c d f;go_wp2;go_ret;exact⟨x,rfl,by rw[g.o];exact j.o,k.o,λ_=>HX.o⟩
       (have a:okN lo hi s=false:=by rw[b.o];simp[l]);have g:=Hm a;have f:=Hm (JZ q r z false L V.o);(have E:((Sz0 (Lib.itoa x)).toList==(Sz0 s).toList)=false:=by rw[Xt];simp[l]);clear a l;(go_wp2_with fail);refine f.o.mono ?_;rintro e y ⟨rfl,c,d⟩;have j:=Hm c;have k:=Hm (Ql B3.o d);clear c d f;go_wp2;go_ret;exact⟨x,rfl,by rw[g.o];exact j.o,k.o,λh=>by rw[g.o]at h;cases h⟩
     (have a:okN lo hi s=false:=by rw[b.o];simp[n]);have g:=Hm a;have f:=Hm (JZ q r z false A u.o);clear a C;(go_wp2_with fail);refine f.o.mono ?_;rintro e y ⟨rfl,c,d⟩;have j:=Hm c;have k:=Hm (Ql v.o d);clear c d f;go_wp2;go_ret;exact⟨x,rfl,by rw[g.o];exact j.o,k.o,λh=>by rw[g.o]at h;cases h⟩
   (have a:okN lo hi s=false:=by rw[b.o];simp[m]);have g:=Hm a;have f:=Hm (JZ q r z false A u.o);clear a C;(go_wp2_with fail);refine f.o.mono ?_;rintro e y ⟨rfl,c,d⟩;have j:=Hm c;have k:=Hm (Ql v.o d);clear c d f;go_wp2;go_ret;exact⟨x,rfl,by rw[g.o];exact j.o,k.o,λh=>by rw[g.o]at h;cases h⟩
 have a:okN lo hi s=false:=by simp[okN,hx]
 have f:=Hm (JZ q r z false A u.o);have b:=Hm a;clear hx a;go_wp2_with fail
 refine f.o.mono ?_;rintro e y ⟨rfl,c,d⟩;have j:=Hm c;have k:=Hm (Ql v.o d);clear c d f;go_wp2;go_ret;exact⟨x,rfl,by rw[b.o];exact j.o,k.o,λh=>by rw[b.o]at h;cases h⟩
theorem u32_c (q:Nat)(ws:List Wd)(bad:Bool)(w:J)(h:Tw w q ws bad)(hl:∀x∈ws,N x<=1099511627776)(c:Vs q w):Ec Q 90 #[Yp (some ⟨q,0,none⟩)] w λe w'=>∃x:Int,e=Z (U O x)/\Tw w' q ws.tail ((bad || ws.isEmpty) || !okN 0 4294967295 (ws.headD []))/\w.grownBy w' (some q)/\(okN 0 4294967295 (ws.headD [])=true->okP (ws.headD [])=some x):=by
 have K:=Hm (number_c q ws bad 0 4294967295 w h hl c);clear h hl c;go_enter func90,ntmps90;go_wp2_with fail
 refine K.o.mono ?_;rintro e d ⟨x,rfl,t,b,hx⟩;have a:=Hm (And.intro t (And.intro b hx));clear t b hx K;go_wp2;go_ret;exact⟨x,rfl,a.o.1,a.o.2.1,a.o.2.2⟩
def tyW (i:Nat):Wd:=if i=0 then [105,51,50]else if i=1 then [105,54,52]else if i=2 then [102,51,50]else [102,54,52]
def tyN (s:Wd):Int:=if s=tyW 0 then 127 else if s=tyW 1 then 126 else if s=tyW 2 then 125 else if s=tyW 3 then 124 else 0
theorem types_c (w:J):Ec Q 171 #[] w λe w'=>e=Z (S (some ⟨w.heap.size,0,none⟩) 4 4)/\w'=w.alloc (Fc #[Xs ⟨#[105,51,50]⟩,U O 127,Xs ⟨#[105,54,52]⟩,U O 126,Xs ⟨#[102,51,50]⟩,U O 125,Xs ⟨#[102,54,52]⟩,U O 124] 243):=by
 go_enter func171,ntmps171;go_wp2;go_ret;exact⟨rfl,rfl⟩
def TyT (w:J)(g:Nat):Prop:=∀i,i<4->w.cell? ⟨g,i*2,none⟩=some (Xs (Sz0 (tyW i)))/\w.cell? ⟨g,i*2+1,none⟩=some (U O (127-(i:Int)))
theorem tyt_new (w:J):TyT (w.alloc (Fc #[Xs ⟨#[105,51,50]⟩,U O 127,Xs ⟨#[105,54,52]⟩,U O 126,Xs ⟨#[102,51,50]⟩,U O 125,Xs ⟨#[102,54,52]⟩,U O 124] 243)) w.heap.size:=by
 intro i a;match i,a with
 |0,_=>exact⟨Qn rfl rfl,Qn rfl rfl⟩
 |1,_=>exact⟨Qn rfl rfl,Qn rfl rfl⟩
 |2,_=>exact⟨Qn rfl rfl,Qn rfl rfl⟩
 |3,_=>exact⟨Qn rfl rfl,Qn rfl rfl⟩
theorem TyT.keep {w':J}{g:Nat}(h:TyT w g)(a:w'.heap[g]?=w.heap[g]?):TyT w' g:=λi hi=>⟨(World.cell?_of_block a).trans (h i hi).1,(World.cell?_of_block a).trans (h i hi).2⟩
theorem tyN_at {k:Nat}(a:k<4)(h:∀i,i<k->s≠tyW i)(e:s=tyW k):tyN s=127-(k:Int):=by
 match k,a with
 |0,_=>simp[tyN,e]
 |1,_=>simp only[tyN];rw[if_neg (h 0 (by omega)),if_pos e];rfl
 |2,_=>simp only[tyN];rw[if_neg (h 0 (by omega)),if_neg (h 1 (by omega)),if_pos e];rfl
 |3,_=>simp only[tyN];rw[if_neg (h 0 (by omega)),if_neg (h 1 (by omega)),if_neg (h 2 (by omega)),if_pos e];rfl
theorem tyN_no (h:∀i,i<4->s≠tyW i):tyN s=0:=by
 simp only[tyN];rw[if_neg (h 0 (by omega)),if_neg (h 1 (by omega)),if_neg (h 2 (by omega)),if_neg (h 3 (by omega))]
theorem one_c (q g:Nat)(ws:List Wd)(bad:Bool)(w:J)(h:Tw w q ws bad)(y:TyT w g)(hg:q<g):Ec Q 158 #[Yp (some ⟨q,0,none⟩),S (some ⟨g,0,none⟩) 4 4] w λe w'=>e=Z (U O (tyN (ws.headD [])))/\Tw w' q ws.tail ((bad || ws.isEmpty) || tyN (ws.headD [])==0)/\w.grownBy w' (some q):=by
 have F:=Hm (next_g q ws bad w h);have l:g<w.heap.size:=World.block_lt_of_cell? w _ (y 0 (by omega)).1;have H:=Hm y;clear h y;generalize ws.headD []=s at *;generalize ws.tail=r at *;generalize(bad || ws.isEmpty)=z at *;go_enter func158,ntmps158;go_wp2_with fail
 refine F.o.mono ?_;rintro e t ⟨rfl,E,g1⟩;have B:=Hm E;have D:=Hm g1;have d:=Hm (H.o.keep (g1.block g l (by simp;omega)));have b:g<t.heap.size:=Nat.lt_of_lt_of_le l g1.size;clear E g1 F H;go_wp2;go_loopw [12] (λi wr=>∃k:Nat,k<=4/\i=U O k/\(∀i,i<k->s≠tyW i)/\Bw t.heap.size t wr) (λi _=>4-(intOf i).toNat)
 case atStart=>exact⟨0,by omega,rfl,λi hi=>by omega,bFz⟩
 obtain⟨k,Y,rfl,a,c⟩:=hrel;have n:=Hm (B.o.keep c);have I:=Hm (Ql D.o (Qu c));have X:=Hm c;have C:=Hm a;have v:=c.size;by_cases j:k<4
 . (have M:(k:Int)<4:=by omega);obtain⟨c0,A⟩:=d.o k j;have c0:=(c.cell (p:=⟨g,k*2,none⟩) b).trans c0;have A:=(c.cell (p:=⟨g,k*2+1,none⟩) b).trans A;clear c a B D d;by_cases f:s=tyW k
   . (have u:((Sz0 (tyW k)).toList==(Sz0 s).toList)=true:=by rw[Xt];simp[f]);have m:=Hm (tyN_at j C.o f);(have L:(tyN s==0)=false:=by rw[m.o];simp;omega);clear f;go_wp2;go_ret;refine⟨by rw[m.o];rfl,by rw[L];simpa using n.o.keep (bFz.alloc lRz _),Ql I.o (Qu (bFz.alloc lRz _))⟩
   (have u:((Sz0 (tyW k)).toList==(Sz0 s).toList)=false:=by rw[Xt];simp[Ne.symm f]);have V:=Hm f;clear f;go_wp2;go_roundw
   case rel=>exact⟨k+1,by omega,by go_num,fun i hi=>by
    rcases(by omega:i<k\/i=k)with h|h
    . exact C.o i h
    . subst h;exact V.o,X.o.alloc v _⟩
   case measure=>simp[intOf];omega
 have e:k=4:=by omega
 subst e;have m:=Hm (tyN_no C.o);have A:=n.o.c1;have f1:=n.o.fz 1;have R:=Hm (n.o.flag true);clear c a B D d;go_wp2;go_ret;exact⟨by rw[m.o];rfl,by rw[m.o];simpa using R.o,Ql I.o (JE _ _ _ _)⟩
theorem vty_c (q:Nat)(ws:List Wd)(bad:Bool)(w:J)(h:Tw w q ws bad):Ec Q 112 #[Yp (some ⟨q,0,none⟩)] w λe w'=>e=Z (U O (tyN (ws.headD [])))/\Tw w' q ws.tail ((bad || ws.isEmpty) || tyN (ws.headD [])==0)/\w.grownBy w' (some q):=by
 have m:=h.lt;obtain⟨W,b⟩:∃W,W=w.alloc (Fc #[Xs ⟨#[105,51,50]⟩,U O 127,Xs ⟨#[105,54,52]⟩,U O 126,Xs ⟨#[102,51,50]⟩,U O 125,Xs ⟨#[102,54,52]⟩,U O 124] 243):=⟨_,rfl⟩;have c:Bw w.heap.size w W:=by rw[b];exact bFz.alloc lRz _
 have K:=Hm (one_c q w.heap.size ws bad W (h.keep c) (by rw[b];exact tyt_new w) m);have g:=Hm (types_c w);have k:=Hm c;have j:=Hm b;clear h c b;generalize ws.headD []=s at *;go_enter func112,ntmps112;go_wp2_with fail
 refine g.o.mono ?_;rintro e l ⟨rfl,a⟩;obtain rfl:l=W:=a.trans j.o.symm;clear a j g;go_wp2_with fail
 refine K.o.mono ?_;rintro e r ⟨rfl,d,f⟩;have n:=Hm d;have p:=Hm (Ql (Qu k.o) f);clear d f K k;go_wp2;go_ret;exact⟨rfl,n.o,p.o⟩
