import Derived.Test.YtaccbbndmmhenaaGreatGay
import Derived.Test.YtaccbbndmmhenaaGreatGaz
import Derived.Test.YtaccbbndmmhenaaGreatRows
import Derived.ShutString
import Derived.ChangeOld
set_option linter.all false
set_option maxHeartbeats 400000000
set_option maxRecDepth 100000
namespace Go.Proofs
open Value renaming int->U,slice->S,bool->G,agg->Ag
open IntKind renaming i64->O
open Ending renaming returned->Z
open Obj renaming cells->Fc
open Go renaming World->J,Calls->Ec,Value->Vu,Addr->Ad
open Tryz renaming prog->Q
open Tryz
open Nat renaming zero_le->Kw
open List renaming length->N
namespace YtaccbbndmmhenaaGreat.Va
open Go.RowKit Go.Sort
theorem Jv {D w0 V rs}{t q:Nat}{md:Mod}{A:MdA}(h:Mo D w0 rs V)(a:box t 13 q (mdC md A).toList∈rs)(j:Nat){u:Vu}(b:j<13:=by omega)(hu:(mdC md A).toList[j]?=some u:=by exact rfl):V.cell? ⟨q,j,none⟩=some u:=(h.bx a j b hu).1
theorem box36 {D w0 V rs}{q:Nat}{x0 x1 x2:Vu}(h:Mo D w0 rs V)(a:box 36 3 q [x0,x1,x2]∈rs):V.cell? ⟨q,0,none⟩=some x0/\V.cell? ⟨q,1,none⟩=some x1/\V.cell? ⟨q,2,none⟩=some x2:=⟨(h.bx a 0).1,(h.bx a 1).1,(h.bx a 2).1⟩
theorem Mo.has {D w0 V rs}{b:List Int}{a:Option Ad}{c:Nat}(h:Mo D w0 rs V)(d:(⟨2,1,N b,S a (N b) c,I b⟩:Qb)∈rs):Has V a b:=by
 obtain⟨j,g,e,f⟩:=row_has (show V.ownsRow D 2 1 (S a (N b) c) (N b) (I b)from h.row d);cases e;exact f
theorem CLs.cap {B:Nat}{W:J}{a:Option Ad}{xs:List Cod}(h:Go.Proofs.YtaccbbndmmhenaaGreat.NF.Va.CLs B W a xs):CapB W a xs:=h.cp.imp id λ⟨g,off,e,_,k⟩=>⟨g,off,e,k⟩
theorem Mo.hasM {D n:Nat}{w0 V rs}{a:Option Ad}{c:Nat}(h:Mo D w0 rs V)(d:(⟨2,1,n,S a n c,I (Ju 1 n)⟩:Qb)∈rs):Has V a (Ju 1 n):=by
 have b:V.ownsRow D 2 1 (S a n c) (Ju 1 n).length (I (Ju 1 n)):=by rw[marks_len];exact h.row d
 obtain⟨j,g,e,f⟩:=row_has b;rw[marks_len]at e;cases e;exact f
theorem lawSt (md:Mod)(A:MdA)(ci po:Int)(w:J)(hI:Mod.Is 0 w md A.a1 A.a2 A.a3 A.a4 A.a5 A.a6 A.a7 A.a8 A.a9 A.a10 A.a11)(hl:Mod.LB 9223372036854775807 md)(hp:md.Pos):Ec Q 3 #[mdV md A,U O ci,U O po] w λe w'=>e=Z (G true)/\Below w.heap.size w w':=by
 obtain⟨q,hq⟩:∃q,q=w.heap.size:=⟨_,rfl⟩;obtain⟨W,hW⟩:∃W,W=w.alloc (Fc (mdC md A) 33):=⟨_,rfl⟩;have ej:Mo w.heap.size w [] w:=⟨Own.nil _ _,bFz,lRz⟩;obtain⟨bL,df⟩:∃bL:Qb,bL=box 33 13 q (mdC md A).toList:=⟨_,rfl⟩;have bn:Mo w.heap.size w [bL] W:=by rw[hW,df,hq];exact ej.box (cur:=mdC md A) 33 13 rfl
 have CB:Hid (∀{rs:List Qb} {W':J},bL∈rs->Mo w.heap.size w rs W'->W'.cell? ⟨q,0,none⟩=some (S A.a1 (N md.types) A.c1)/\W'.cell? ⟨q,1,none⟩=some (S A.a2 (N md.cj) A.c2)/\W'.cell? ⟨q,2,none⟩=some (S A.a3 (N md.jk) A.c3)/\W'.cell? ⟨q,3,none⟩=some (S A.a4 (N md.cw) A.c4)/\W'.cell? ⟨q,4,none⟩=some (S A.a5 (N md.jz) A.c5)/\W'.cell? ⟨q,5,none⟩=some (S A.a6 (N md.ck) A.c6)/\W'.cell? ⟨q,6,none⟩=some (S A.a7 (N md.cv) A.c7)/\W'.cell? ⟨q,7,none⟩=some (G md.gz)/\W'.cell? ⟨q,8,none⟩=some (U O md.start)/\W'.cell? ⟨q,9,none⟩=some (S A.a8 (N md.fq) A.c8)/\W'.cell? ⟨q,10,none⟩=some (S A.a9 (N md.fj) A.c9)/\W'.cell? ⟨q,11,none⟩=some (S A.a10 (N md.fx) A.c10)/\W'.cell? ⟨q,12,none⟩=some (S A.a11 (N md.fw) A.c11)):=fun {rs W'} h hh=>by rw[df]at h;exact⟨Jv hh h 0,Jv hh h 1,Jv hh h 2,Jv hh h 3,Jv hh h 4,Jv hh h 5,Jv hh h 6,Jv hh h 7,Jv hh h 8,Jv hh h 9,Jv hh h 10,Jv hh h 11,Jv hh h 12⟩
 have ay:Hid (∀W',Below w.heap.size w W'->Mod.Is 0 W' md A.a1 A.a2 A.a3 A.a4 A.a5 A.a6 A.a7 A.a8 A.a9 A.a10 A.a11):=λW' hb=>hI.up (up_below hb);have e1:=Hm (qzMod_c md A.a1 A.c1 A.a2 A.c2 A.a3 A.c3 A.a4 A.c4 A.a5 A.c5 A.a6 A.c6 A.a7 A.c7 A.a8 A.c8 A.a9 A.c9 A.a10 A.c10 A.a11 A.c11 1048576 W (by omega) (by omega) (ay.o W bn.b) hl);have e9:=Hm bn;have HP:=Hm hp;obtain⟨m0,m1,m2,m3,m4,m5,m6,m7,m8,m9,M,H,F⟩:=CB.o (by simp) bn;clear ej bn hI hl hp df;go_enter func3,ntmps3;go_upto_region 1 with fail
 rw[<- hW,<- hq];clear hW hq;go_wp2_with fail
 refine e1.o.mono ?_;rintro e w1 ⟨r,rfl,em,hr⟩;have ae:=e9.o.keep em;clear m0 m1 m2 m3 m4 m5 m6 m7 m8 m9 M H F;clear e1 e9 em;rcases hr with rfl|⟨r0,r1,hL⟩
 . have HB:=Hm ae.b;clear ae;go_wp2;go_ret;exact⟨rfl,HB.o⟩
 have f:¬r<0:=by omega
 have cf:Hid (md.sz<=1048576):=by show _<=_;omega
 obtain⟨m0,m1,m2,m3,m4,m5,m6,m7,m8,m9,M,H,F⟩:=CB.o (by simp) ae;have HL:=Hm hL;have e0:=Hm (Go.Proofs.YtaccbbndmmhenaaGreat.NF.Va.toMd_c md A w1 (ay.o w1 ae.b) hL);have az:=Hm ae;clear ae hL r0 r1;go_wp2_with fail
 refine e0.o.mono ?_;rintro e w2 ⟨A2,rfl,eo,_,el⟩;have ei:=az.o.keep el.to;have HS:=Hm (sstk_c md A2 ci po w2 (eo.mono (Kw _)) HL.o HP.o);have e8:=Hm ei;clear m0 m1 m2 m3 m4 m5 m6 m7 m8 m9 M H F;clear e0 az el ei eo;go_wp2_with fail
 refine HS.o.mono ?_;rintro e w3 ⟨ok,dd,ts,v,rfl,bj,ed,f6⟩;obtain⟨a,c,ev,_⟩:=row_has bj.own.head;subst ev;have eh:=mo_two e8.o bj.b lRz bj;obtain⟨n,hn⟩:∃n,n=N ts:=⟨_,rfl⟩;obtain⟨W4,di⟩:∃W4,W4=w3.alloc (Fc #[G ok,G dd,S a (N ts) c] 36):=⟨_,rfl⟩;obtain⟨g4,de⟩:∃g4,g4=w3.heap.size:=⟨_,rfl⟩;obtain⟨RA,dk⟩:∃RA:List Qb,RA=box 36 3 g4 [G ok,G dd,S a (N ts) c]::([bL]++[⟨2,1,N ts,S a (N ts) c,I ts⟩]):=⟨_,rfl⟩;have bm:Mo w.heap.size w RA W4:=by rw[dk,di,de];exact eh.box (cur:=#[G ok,G dd,S a (N ts) c]) 36 3 rfl
 have z:Hid (box 36 3 g4 [G ok,G dd,S a (N ts) c]∈RA/\bL∈RA/\(⟨2,1,N ts,S a (N ts) c,I ts⟩:Qb)∈RA):=by rw[dk];exact⟨by simp,by simp,by simp⟩
 have e2:=Hm ed;have b1:=Hm bm;have ez:=Hm (Go.Proofs.YtaccbbndmmhenaaGreat.NF.Va.toMd_c md A W4 (ay.o W4 bm.b) HL.o);obtain⟨m0,m1,m2,m3,m4,m5,m6,m7,m8,m9,M,H,F⟩:=CB.o z.o.2.1 bm;clear HS e8 bj ed eh bm dk hn;go_upto_region 6 with fail
 rw[<- di,<- de];clear di de;go_wp2_with fail
 refine ez.o.mono ?_;rintro e E ⟨d,rfl,dn,ep,dh⟩;have eg:=b1.o.keep dh.to;obtain⟨C,br⟩:∃C,C=E.alloc (Fc (mdC md d) 48):=⟨_,rfl⟩;obtain⟨l,bo⟩:∃l,l=E.heap.size:=⟨_,rfl⟩;obtain⟨bM,bp⟩:∃bM:Qb,bM=box 48 13 l (mdC md d).toList:=⟨_,rfl⟩;have db:Mo w.heap.size w (bM::RA) C:=by rw[br,bp,bo];exact eg.box (cur:=mdC md d) 48 13 rfl
 have CM:Hid (∀{rs:List Qb} {W':J},bM∈rs->Mo w.heap.size w rs W'->W'.cell? ⟨l,0,none⟩=some (S d.a1 (N md.types) d.c1)/\W'.cell? ⟨l,1,none⟩=some (S d.a2 (N md.cj) d.c2)/\W'.cell? ⟨l,2,none⟩=some (S d.a3 (N md.jk) d.c3)/\W'.cell? ⟨l,3,none⟩=some (S d.a4 (N md.cw) d.c4)/\W'.cell? ⟨l,4,none⟩=some (S d.a5 (N md.jz) d.c5)/\W'.cell? ⟨l,5,none⟩=some (S d.a6 (N md.ck) d.c6)/\W'.cell? ⟨l,6,none⟩=some (S d.a7 (N md.cv) d.c7)/\W'.cell? ⟨l,7,none⟩=some (G md.gz)/\W'.cell? ⟨l,8,none⟩=some (U O md.start)/\W'.cell? ⟨l,9,none⟩=some (S d.a8 (N md.fq) d.c8)/\W'.cell? ⟨l,10,none⟩=some (S d.a9 (N md.fj) d.c9)/\W'.cell? ⟨l,11,none⟩=some (S d.a10 (N md.fx) d.c10)/\W'.cell? ⟨l,12,none⟩=some (S d.a11 (N md.fw) d.c11)):=fun {rs W'} h hh=>by rw[bp]at h;exact⟨Jv hh h 0,Jv hh h 1,Jv hh h 2,Jv hh h 3,Jv hh h 4,Jv hh h 5,Jv hh h 6,Jv hh h 7,Jv hh h 8,Jv hh h 9,Jv hh h 10,Jv hh h 11,Jv hh h 12⟩
 have ar:Below E.heap.size E C:=by rw[br];exact bFz.alloc lRz _
 have dm:Mod.Is 0 C md d.a1 d.a2 d.a3 d.a4 d.a5 d.a6 d.a7 d.a8 d.a9 d.a10 d.a11:=(dn.mono (Kw _)).up (up_below ar);have fa:Hid (∀W',Below C.heap.size C W'->Mod.Is 0 W' md d.a1 d.a2 d.a3 d.a4 d.a5 d.a6 d.a7 d.a8 d.a9 d.a10 d.a11):=λW' hb=>dm.up (up_below hb);have HV:=Hm (istk_c md d ci po C dm (CLs.cap (ep.up (up_below ar))) HL.o HP.o);have e7:=Hm db;have bz:Hid (E.heap.size<=C.heap.size/\E.heap.size=l):=⟨ar.size,bo.symm⟩;have bw:Hid (Mod.Is W4.heap.size E md d.a1 d.a2 d.a3 d.a4 d.a5 d.a6 d.a7 d.a8 d.a9 d.a10 d.a11/\Go.Proofs.YtaccbbndmmhenaaGreat.NF.Below W4.heap.size W4 E/\Below E.heap.size E C):=⟨dn,dh,ar⟩;clear m0 m1 m2 m3 m4 m5 m6 m7 m8 m9 M H F;obtain⟨n0,n1,n2,n3,n4,n5,n6,n7,n8,n9,aj,ai,ah⟩:=CM.o (by simp) db;have fb:Hid (∀k,k∈blk [bM]->E.heap.size<=k):=λk hk=>by rw[bp]at hk;simp[blk,box,Value.ownBlock]at hk;omega
 clear ez dh eg db dn dm bp ep ar;go_upto_region 7 with fail
 rw[<- br,<- bo];clear br bo;go_wp2_with fail
 refine HV.o.mono ?_;rintro e w7 ⟨m,p,g,v',rfl,B,b5,t⟩;obtain⟨rfl,rfl,rfl⟩:=SaR.uniq b5 e2.o;obtain⟨X,V,ev,_⟩:=row_has B.own.head;subst ev;have ef:=mo_two e7.o B.b lRz B;obtain⟨W8,bq⟩:∃W8,W8=w7.alloc (Fc #[G m,G p,S X (N g) V] 36):=⟨_,rfl⟩;obtain⟨g8,dc⟩:∃g8,g8=w7.heap.size:=⟨_,rfl⟩;obtain⟨K,hK⟩:∃K:List Qb,K=box 36 3 g8 [G m,G p,S X (N g) V]::(bM::RA):=⟨_,rfl⟩;have ad:Mo w.heap.size w (⟨2,1,N g,S X (N g) V,I g⟩::K) W8:=by
  have:=ef.box (cur:=#[G m,G p,S X (N g) V]) 36 3 rfl;rw[<- bq,<- dc]at this;refine this.perm ?_;rw[hK];classical
  rw[List.perm_iff_count];intro r;simp[List.count_cons,List.count_append];omega
 have s:Hid (box 36 3 g8 [G m,G p,S X (N g) V]∈K/\bM∈K/\∀r∈RA,r∈K):=by rw[hK];exact⟨by simp,by simp,λr hr=>by simp[hr]⟩
 have fc:Hid (∀(L:List Vu) (k:Nat),k∈blk ((⟨2,1,N g,S X (N g) V,L⟩:Qb)::K)->k<W4.heap.size\/E.heap.size<=k):=λL k hk=>by
  have h1:k∈blk [(⟨2,1,N g,S X (N g) V,I g⟩:Qb)]\/k=g8\/k∈blk [bM]\/k∈blk RA:=by rw[hK]at hk;simp only[blk,List.filterMap_cons,List.filterMap_nil,box,Value.ownBlock]at hk⊢;(revert hk);(repeat' split);all_goals simp_all
  rcases h1 with h|h|h|h
  . right;have:=(B.own.lt h).1;have:=bz.o.1;omega
  . right;have:=B.b.size;have:=bz.o.1;omega
  . exact .inr (fb.o k h)
  exact .inl (b1.o.own.lt h).2
 have dv:Hid (Below C.heap.size C W8):=by show Below C.heap.size C W8;rw[bq];exact B.b.alloc B.b.size _
 clear n0 n1 n2 n3 n4 n5 n6 n7 n8 n9 aj ai ah;obtain⟨s0,s1,s2⟩:=box36 ad (mC s.o.1);obtain⟨t0,t1,t2⟩:=box36 ad (mC (s.o.2.2 _ z.o.1));have D:=Hm (eqS_c m p X a V c g W8 t (ad.has (mS ..)) (ad.has (mC (s.o.2.2 _ z.o.2.2))));have e6:=Hm ad;clear HV e7 B b5 ef ad hK;go_upto_region 8 with fail
 rw[<- bq,<- dc];clear bq dc;go_wp2_with fail
 refine D.o.mono ?_;rintro e w9 ⟨rfl,dg⟩;have ap:=e6.o.keep dg;have fd:=Hm (dv.o.trans (dg.mono dv.o.size));clear s0 s1 s2 t0 t1 t2 D e6 dv dg;obtain⟨R,hR⟩:∃R:List Qb,R=(⟨2,1,N g,S X (N g) V,I g⟩:Qb)::K:=⟨_,rfl⟩;rw[<- hR]at ap;have dj:bL∈R/\bM∈R:=by rw[hR];exact⟨mC (s.o.2.2 _ z.o.2.1),mC s.o.2.1⟩
 have SF:Hid (∀{W':J},Mo w.heap.size w R W'->W'.cell? ⟨l,0,none⟩=some (S d.a1 (N md.types) d.c1)/\W'.cell? ⟨l,1,none⟩=some (S d.a2 (N md.cj) d.c2)/\W'.cell? ⟨l,2,none⟩=some (S d.a3 (N md.jk) d.c3)/\W'.cell? ⟨l,3,none⟩=some (S d.a4 (N md.cw) d.c4)/\W'.cell? ⟨l,4,none⟩=some (S d.a5 (N md.jz) d.c5)/\W'.cell? ⟨l,5,none⟩=some (S d.a6 (N md.ck) d.c6)/\W'.cell? ⟨l,6,none⟩=some (S d.a7 (N md.cv) d.c7)/\W'.cell? ⟨l,7,none⟩=some (G md.gz)/\W'.cell? ⟨l,8,none⟩=some (U O md.start)/\W'.cell? ⟨l,9,none⟩=some (S d.a8 (N md.fq) d.c8)/\W'.cell? ⟨l,10,none⟩=some (S d.a9 (N md.fj) d.c9)/\W'.cell? ⟨l,11,none⟩=some (S d.a10 (N md.fx) d.c10)/\W'.cell? ⟨l,12,none⟩=some (S d.a11 (N md.fw) d.c11)/\W'.cell? ⟨q,0,none⟩=some (S A.a1 (N md.types) A.c1)/\W'.cell? ⟨q,1,none⟩=some (S A.a2 (N md.cj) A.c2)/\W'.cell? ⟨q,2,none⟩=some (S A.a3 (N md.jk) A.c3)/\W'.cell? ⟨q,3,none⟩=some (S A.a4 (N md.cw) A.c4)/\W'.cell? ⟨q,4,none⟩=some (S A.a5 (N md.jz) A.c5)/\W'.cell? ⟨q,5,none⟩=some (S A.a6 (N md.ck) A.c6)/\W'.cell? ⟨q,6,none⟩=some (S A.a7 (N md.cv) A.c7)/\W'.cell? ⟨q,7,none⟩=some (G md.gz)/\W'.cell? ⟨q,8,none⟩=some (U O md.start)/\W'.cell? ⟨q,9,none⟩=some (S A.a8 (N md.fq) A.c8)/\W'.cell? ⟨q,10,none⟩=some (S A.a9 (N md.fj) A.c9)/\W'.cell? ⟨q,11,none⟩=some (S A.a10 (N md.fx) A.c10)/\W'.cell? ⟨q,12,none⟩=some (S A.a11 (N md.fw) A.c11)):=fun {W'} hh=>by obtain⟨n0,n1,n2,n3,n4,n5,n6,n7,n8,n9,aj,ai,ah⟩:=CM.o dj.2 hh;exact⟨n0,n1,n2,n3,n4,n5,n6,n7,n8,n9,aj,ai,ah,CB.o dj.1 hh⟩
 have b2:Hid (Mo w.heap.size w R w9.drew):=ap.drewN 1;have S0:=Hm (SF.o b2.o);have du:Hid (Below C.heap.size C w9.drew):=fd.o.trans (show Below C.heap.size w9 w9.drew from⟨rfl,rfl,rfl,lRz,λ_ _=>rfl⟩);have ey:=Hm (Go.Proofs.YtaccbbndmmhenaaGreat.NF.Va.toMd_c md A w9.drew (ay.o _ b2.o.b) HL.o);have e3:=Hm hR;clear ap hR dj;go_upto_region 10 with fail
 go_region_held3 (λw'=>w'.cell? ⟨l,0,none⟩=some (S d.a1 (N md.types) d.c1)/\w'.cell? ⟨l,1,none⟩=some (S d.a2 (N md.cj) d.c2)/\w'.cell? ⟨l,2,none⟩=some (S d.a3 (N md.jk) d.c3)/\w'.cell? ⟨l,3,none⟩=some (S d.a4 (N md.cw) d.c4)/\w'.cell? ⟨l,4,none⟩=some (S d.a5 (N md.jz) d.c5)/\w'.cell? ⟨l,5,none⟩=some (S d.a6 (N md.ck) d.c6)/\w'.cell? ⟨l,6,none⟩=some (S d.a7 (N md.cv) d.c7)/\w'.cell? ⟨l,7,none⟩=some (G md.gz)/\w'.cell? ⟨l,8,none⟩=some (U O md.start)/\w'.cell? ⟨l,9,none⟩=some (S d.a8 (N md.fq) d.c8)/\w'.cell? ⟨l,10,none⟩=some (S d.a9 (N md.fj) d.c9)/\w'.cell? ⟨l,11,none⟩=some (S d.a10 (N md.fx) d.c10)/\w'.cell? ⟨l,12,none⟩=some (S d.a11 (N md.fw) d.c11)/\w'.cell? ⟨q,0,none⟩=some (S A.a1 (N md.types) A.c1)/\w'.cell? ⟨q,1,none⟩=some (S A.a2 (N md.cj) A.c2)/\w'.cell? ⟨q,2,none⟩=some (S A.a3 (N md.jk) A.c3)/\w'.cell? ⟨q,3,none⟩=some (S A.a4 (N md.cw) A.c4)/\w'.cell? ⟨q,4,none⟩=some (S A.a5 (N md.jz) A.c5)/\w'.cell? ⟨q,5,none⟩=some (S A.a6 (N md.ck) A.c6)/\w'.cell? ⟨q,6,none⟩=some (S A.a7 (N md.cv) A.c7)/\w'.cell? ⟨q,7,none⟩=some (G md.gz)/\w'.cell? ⟨q,8,none⟩=some (U O md.start)/\w'.cell? ⟨q,9,none⟩=some (S A.a8 (N md.fq) A.c8)/\w'.cell? ⟨q,10,none⟩=some (S A.a9 (N md.fj) A.c9)/\w'.cell? ⟨q,11,none⟩=some (S A.a10 (N md.fx) A.c10)/\w'.cell? ⟨q,12,none⟩=some (S A.a11 (N md.fw) A.c11))
  (first|with_reducible exact S0.o|with_reducible exact S2.o|with_reducible exact S3.o)
  (first
   | (
    go_at_call 6
    refine Calls.mono ey.o ?_
    rintro e ft ⟨j,rfl,b3,_,av⟩;have ba:=Hm (b2.o.keep av.to);have S2:=Hm (SF.o ba.o);have ac:=Hm (du.o.trans (av.to.mono du.o.size));have HE:=Hm (reMod_c md d.a1 d.c1 d.a2 d.c2 d.a3 d.c3 d.a4 d.c4 d.a5 d.c5 d.a6 d.c6 d.a7 d.c7 d.a8 d.c8 d.a9 d.c9 d.a10 d.c10 d.a11 d.c11 j.a1 j.c1 j.a2 j.c2 j.a3 j.c3 j.a4 j.c4 j.a5 j.c5 j.a6 j.c6 j.a7 j.c7 j.a8 j.c8 j.a9 j.c9 j.a10 j.c10 j.a11 j.c11 ft (fa.o _ ac.o) (b3.mono (Kw _)) HL.o);clear av b3)
   | (
    go_at_call 9
    refine Calls.mono HE.o ?_
    rintro e co ⟨rfl,au⟩;have a0:=Hm (ba.o.keep au);have cn:=Hm (ac.o.trans (au.mono ac.o.size));have S3:=Hm (SF.o a0.o);clear au))
 all_goals
  clear ey S0 b2 du HE fd SF ba S2 ac;obtain⟨n0,n1,n2,n3,n4,n5,n6,n7,n8,n9,aj,ai,ah,_⟩:=S3.o;have ao:=a0.o;rw[e3.o]at ao;have ek:Below E.heap.size E co:=bw.o.2.2.trans (cn.o.mono bz.o.1);have e5:=Hm (mkMod_c md d.a1 d.c1 d.a2 d.c2 d.a3 d.c3 d.a4 d.c4 d.a5 d.c5 d.a6 d.c6 d.a7 d.c7 d.a8 d.c8 d.a9 d.c9 d.a10 d.c10 d.a11 d.c11 W4.heap.size E co bw.o.1 (mk_of bw.o.2.1 ek) cf.o);have cl:=Hm (λbh (mb:MB W4.heap.size E co bh)=>ao.bet mb.bt b1.o.le (fc.o _));clear ao ek a0 S3 e3 fc bw fa bz fb b1 cn cf
  go_wp2_with fail
  refine e5.o.mono ?_
  rintro e bh ⟨k,rfl,gr,mb⟩;have y:=cl.o bh mb;obtain⟨s0,s1,s2⟩:=box36 y (mC s.o.1);obtain⟨t0,t1,t2⟩:=box36 y (mC (s.o.2.2 _ z.o.1));have D:=Hm (eqS_c m p X a V c g bh t (y.has (mS ..)) (y.has (mC (s.o.2.2 _ z.o.2.2))));have HM:=Hm y;clear n0 n1 n2 n3 n4 n5 n6 n7 n8 n9 aj ai ah e5 cl mb y
  go_wp2_with fail
  refine D.o.mono ?_
  rintro e gj ⟨rfl,cc⟩;have ak:=HM.o.keep cc;clear s0 s1 s2 t0 t1 t2;obtain⟨s0,s1,s2⟩:=box36 ak (mC s.o.1);have e4:=Hm (markS_c m p X V g ak t);clear D HM cc ak
  go_wp2_with fail
  refine e4.o.mono ?_
  rintro e fs ⟨rfl,ab⟩;clear s0 s1 s2;obtain⟨s0,s1,s2⟩:=box36 ab (mC s.o.1);have bb:=Hm (heldS_c m p X V (N g) fs t (ab.hasM (mS ..)));have HM:=Hm ab;clear e4 ab
  go_wp2_with fail
  refine bb.o.mono ?_
  rintro e dz ⟨rfl,cb⟩;have aa:=HM.o.keep cb;clear s0 s1 s2;obtain⟨m0,m1,m2,m3,m4,m5,m6,m7,m8,m9,M,H,F⟩:=CB.o (mC (s.o.2.2 _ z.o.2.1)) aa;have ew:=Hm (Go.Proofs.YtaccbbndmmhenaaGreat.NF.Va.toMd_c md A dz (ay.o dz aa.b) HL.o);have ch:=Hm aa;clear bb HM cb aa
  go_wp2_with fail
  refine ew.o.mono ?_
  rintro e fr ⟨f2,rfl,cd,ce,ca⟩;have b7:=ch.o.keep ca.to;have eu:=Hm (istk_c md f2 ci po fr (cd.mono (Kw _)) (CLs.cap ce) HL.o HP.o);have cg:=Hm b7;clear m0 m1 m2 m3 m4 m5 m6 m7 m8 m9 M H F ew ch cd ce ca b7
  go_wp2_with fail
  refine eu.o.mono ?_
  rintro e dy ⟨gp,gu,gk,v2,rfl,bl,b4,fv⟩;obtain⟨rfl,rfl,rfl⟩:=SaR.uniq e2.o b4;obtain⟨a2,c2,ev,_⟩:=row_has bl.own.head;subst ev;have b6:=mo_two cg.o bl.b lRz bl;obtain⟨bv,aw⟩:∃bv,bv=dy.alloc (Fc #[G m,G p,S a2 (N g) c2] 36):=⟨_,rfl⟩;obtain⟨bs,aq⟩:∃bs,bs=dy.heap.size:=⟨_,rfl⟩;obtain⟨K2,dl⟩:∃K2:List Qb,K2=box 36 3 bs [G m,G p,S a2 (N g) c2]::(((⟨2,1,N g,S X (N g) V,I (Ju 1 (N g))⟩:Qb)::K)++[⟨2,1,N g,S a2 (N g) c2,I g⟩]):=⟨_,rfl⟩
  have u:Mo w.heap.size w K2 bv:=by
   rw[dl,aw,aq];exact b6.box (cur:=#[G m,G p,S a2 (N g) c2]) 36 3 rfl
  have af:Hid (box 36 3 bs [G m,G p,S a2 (N g) c2]∈K2/\(⟨2,1,N g,S a2 (N g) c2,I g⟩:Qb)∈K2/\(⟨2,1,N g,S X (N g) V,I (Ju 1 (N g))⟩:Qb)∈K2/\∀r∈K,r∈K2):=by rw[dl];exact⟨by simp,by simp,by simp,λr hr=>by simp[hr]⟩
  obtain⟨s0,s1,s2⟩:=box36 u af.o.1;obtain⟨t0,t1,t2⟩:=box36 u (af.o.2.2.2 _ (s.o.2.2 _ z.o.1));have D:=Hm (eqS_c m p a2 a c2 c g bv t (u.has af.o.2.1) (u.has (af.o.2.2.2 _ (s.o.2.2 _ z.o.2.2))));have HM:=Hm u;clear eu cg bl b4 b6 u dl
  go_upto_region 25 with fail
  rw[<- aw,<- aq];clear aw aq
  go_wp2_with fail
  refine D.o.mono ?_
  rintro e fp ⟨rfl,b9⟩;have Y:=HM.o.keep b9;clear s0 s1 s2 t0 t1 t2;obtain⟨s0,s1,s2⟩:=box36 Y (af.o.2.2.2 _ s.o.1);have bb:=Hm (heldS_c m p X V (N g) fp t (Y.hasM af.o.2.2.1));have az:=Hm Y;clear D HM b9 Y
  go_wp2_with fail
  refine bb.o.mono ?_
  rintro e gh ⟨rfl,b8⟩;have fe:=Hm (az.o.keep b8).b;clear b8 az bb
  go_wp2
  go_ret
  exact⟨rfl,fe.o⟩
end YtaccbbndmmhenaaGreat.Va
namespace YtaccbbndmmhenaaGreat.fnExactStackAt
open Go.ChangeShapes Go.WideShapes Go.ChangeAt Go.RowKit
theorem own:ownKnob Q.godebug=none:=by kernel_rfl
theorem laidOut:laidOutB Q=true:=by kernel_rfl
set_option maxRecDepth 100000 in
theorem walk (v:Vu)(i k:Int)(w:J)(h:∃(x:Mod) (q:Option Ad) (c1:Nat) (p:Option Ad) (c2:Nat) (o:Option Ad) (c3:Nat) (n:Option Ad) (c4:Nat) (m:Option Ad) (c5:Nat) (l:Option Ad) (u:Nat) (j:Option Ad) (t:Nat) (g:Option Ad) (s:Nat) (f:Option Ad) (r:Nat) (b:Option Ad) (d:Nat) (a:Option Ad) (c:Nat),v=Ag #[S q (N x.types) c1,S p (N x.cj) c2,S o (N x.jk) c3,S n (N x.cw) c4,S m (N x.jz) c5,S l (N x.ck) u,S j (N x.cv) t,G x.gz,U O x.start,S g (N x.fq) s,S f (N x.fj) r,S b (N x.fx) d,S a (N x.fw) c]/\Mod.Is 0 w x q p o n m l j g f b a/\Mod.LB 9223372036854775807 x/\x.Pos):Ec Q 3 #[v,U O i,U O k] w λe w'=>e=Z (G true)/\Below w.heap.size w w':=by
 obtain⟨x,q,c1,p,c2,o,c3,n,c4,m,c5,l,u,j,t,g,s,f,r,b,d,a,c,rfl,y,A,z⟩:=h;exact Va.lawSt x ⟨q,c1,p,c2,o,c3,n,c4,m,c5,l,u,j,t,g,s,f,r,b,d,a,c⟩ i k w y A z
set_option maxRecDepth 100000 in
theorem open_mod {H:Type}{enc:TypeId × Vu->H}{W:J}{r:Reach}{b0:Nat}{v:Vu}{d:DataW H}{p:List MemPlace}(hv:Value.okWide Q W r b0 33 v)(h:DataW.Trod enc Q W 0 (λ_=>true) true 33 v d p):∃(x:Mod) (s:Option Ad) (c1:Nat) (q:Option Ad) (c2:Nat) (o:Option Ad) (c3:Nat) (n:Option Ad) (c4:Nat) (m:Option Ad) (c5:Nat) (l:Option Ad) (z:Nat) (k:Option Ad) (y:Nat) (j:Option Ad) (u:Nat) (g:Option Ad) (t:Nat) (b:Option Ad) (f:Nat) (a:Option Ad) (c:Nat),v=Ag #[S s (N x.types) c1,S q (N x.cj) c2,S o (N x.jk) c3,S n (N x.cw) c4,S m (N x.jz) c5,S l (N x.ck) z,S k (N x.cv) y,G x.gz,U O x.start,S j (N x.fq) u,S g (N x.fj) t,S b (N x.fx) f,S a (N x.fw) c]/\Mod.Is 0 W x s q o n m l k j g b a/\Mod.LB 9223372036854775807 x/\x.Pos:=by
 obtain⟨L,rfl,C⟩:=okWide_struct underlying33 hv;obtain⟨B,A⟩:=h;obtain⟨x,s,c1,q,c2,o,c3,n,c4,m,c5,l,z,k,y,j,u,g,t,b,f,a,c,e,F,E,D⟩:=val_Mod A;refine⟨x,s,c1,q,c2,o,c3,n,c4,m,c5,l,z,k,y,j,u,g,t,b,f,a,c,?_,F,E,D⟩;obtain⟨M⟩:=L;have I:M=[S s (N x.types) c1,S q (N x.cj) c2,S o (N x.jk) c3,S n (N x.cw) c4,S m (N x.jz) c5,S l (N x.ck) z,S k (N x.cv) y,G x.gz,U O x.start,S j (N x.fq) u,S g (N x.fj) t,S b (N x.fx) f,S a (N x.fw) c]:=by simpa[Value.cells]using e
 rw[I]
set_option maxRecDepth 100000 in
theorem lifted (y:Os)(c:y.Started)(H:Type)(enc:TypeId × Vu->H):ReturnsInHanded {} checked y 3 .any (Rows.fnExactStackAtSpec.pre6 enc Q f3 Rows.fnExactStackAtRow.domain false) (Rows.fnExactStackAtSpec.post enc Q f3 false true false false):=by
 refine returnsInHanded_of_change (C:=checked) own c (by kernel_rfl) func3
  (ChangeSpec.witness6 (enc:=enc) (C:=checked) false ⟨#[],#[Ag #[S none 0 0,S none 0 0,S none 0 0,S none 0 0,S none 0 0,S none 0 0,S none 0 0,G false,U O 0,S none 0 0,S none 0 0,S none 0 0,S none 0 0],U O 0,U O 0],[]⟩ 8 (by kernel_rfl) (by kernel_rfl) (by kernel_rfl) (by kernel_rfl)) ?_
 intro W g b ds gs k d B A _;have a:∀(j:Nat) t v,f3.params[j]?=some t->b[j]?=some v->Value.okWide Q W .any g t v:=d;have r:=B;obtain⟨p,q,f,hV,rfl,ag,ae⟩:=B;have D:DataW.TrodAll enc Q W 0 (λ_=>true) true f3.params.toList b.toList ds p:=f;rw[params3]at D a;obtain⟨l,V,d0,ap,p0,q0,o,rfl,rfl,E,r0⟩:=trodAll_cons D;obtain⟨u,R,d1,ao,p1,q1,rfl,rfl,rfl,h1,Y⟩:=trodAll_cons r0;obtain⟨s,M,d2,ak,p2,q2,rfl,rfl,rfl,h2,X⟩:=trodAll_cons Y;obtain⟨rfl,rfl,rfl⟩:=trodAll_nil X;obtain rfl:b=#[l,u,s]:=by cases b;simp_all
 obtain⟨rfl,rfl⟩:=trodVars_none hV;have z:=E;have n:∀x∈p0,x.block<W.heap.size:=by obtain⟨m,hm⟩:=z;exact DataW.trod_lt m _ _ _ hm
 have L:=open_mod (a 0 33 l rfl rfl) E;obtain⟨i1,rfl,rfl,rfl,I⟩:=open_int underlying2 (a 1 2 u rfl rfl) h1;obtain⟨i2,rfl,rfl,rfl,F⟩:=open_int underlying2 (a 2 2 s rfl rfl) h2;clear f d;refine(walk l i1 i2 W L).mono λe W' ⟨he,bel⟩=>?_;subst he;exact⟨_,rfl,_,_,_,[],_,[],r,trodAll_mk1 (shut_bool underlying4 _),(trodAll_cons_mk (Below.trod laidOut (by kernel_rfl) (of_decide_eq_true (by kernel_rfl)) z bel n) (trodAll_cons_mk (shut_int underlying2 I) (trodAll_cons_mk (shut_int underlying2 F) trodAll_mk0))),rfl,bel.frame _,λh=>by cases h⟩
theorem jf0:OpenClaim.wf (OpenSpec.ofChange Rows.fnExactStackAtSpec) Rows.fnExactStackAtRow=true:=by kernel_rfl
theorem jf1:laidOutB Q=true:=by kernel_rfl
theorem jf2:mapsRowed Q=true:=by kernel_rfl
theorem jf3:(f3.params.all λx=>Q.readableRec x)=true:=by kernel_rfl
theorem jf4:namedTie Q Rows.fnExactStackAtRow.named Rows.fnExactStackAtSpec.vars=true:=by kernel_rfl
theorem jf5:(Rows.fnExactStackAtRow.stops==[])=true:=by kernel_rfl
theorem jf6:(Q.stops==[])=true:=by kernel_rfl
theorem jf7:(Rows.fnExactStackAtRow.knobs==[])=true:=by kernel_rfl
theorem jf8:(Q.stopKnobs==[])=true:=by kernel_rfl
theorem jf9:(Rows.fnExactStackAtRow.inPlace==Q.inPlace 3)=true:=by kernel_rfl
theorem jf10:(Rows.fnExactStackAtRow.unfollowed==Q.unfollowed 3)=true:=by kernel_rfl
theorem jf11:(Rows.fnExactStackAtRow.recurses==Q.recurses 3)=true:=by kernel_rfl
theorem jf12:(Rows.fnExactStackAtRow.named==Q.varsNamed 3)=true:=by kernel_rfl
theorem jf13:(Rows.fnExactStackAtRow.maps==(f3.params.toList++DataSpec.varTypes Q Rows.fnExactStackAtSpec.plain).any λx=>Q.mapsRec x)=true:=by kernel_rfl
theorem jf14:(Rows.fnExactStackAtRow.ifaces==(f3.params.toList++DataSpec.varTypes Q Rows.fnExactStackAtSpec.plain).any λx=>Q.ifacesRec x)=true:=by kernel_rfl
theorem jf15:(Rows.fnExactStackAtRow.mapsOut==Q.mapsAmong f3.resultTypes.toList)=true:=by kernel_rfl
theorem jf16:(Rows.fnExactStackAtRow.loops==(f3.params.toList++DataSpec.varTypes Q Rows.fnExactStackAtSpec.plain).any λx=>Q.loopsFrom x)=true:=by kernel_rfl
theorem jf17:(Rows.fnExactStackAtRow.wideKeys==(f3.params.toList++DataSpec.varTypes Q Rows.fnExactStackAtSpec.plain++f3.resultTypes.toList).any λx=>Q.wideKeysFrom x)=true:=by kernel_rfl
theorem jf18:(Rows.fnExactStackAtSpec.vars.all λx=>Q.varReadable x)=true:=by kernel_rfl
theorem jf19:(f3.resultTypes.all λt=>Q.readableRec t&&decide (t<Q.types.size))=true:=by kernel_rfl
theorem jf20:(Rows.fnExactStackAtRow.ifacesOut==f3.resultTypes.toList.any λx=>Q.ifacesRec x)=true:=by kernel_rfl
theorem jf21:(Rows.fnExactStackAtRow.loopsOut==f3.resultTypes.toList.any λx=>Q.loopsFrom x)=true:=by kernel_rfl
theorem jf22:(Rows.fnExactStackAtRow.plainKeys==Q.plainKeys)=true:=by kernel_rfl
theorem jf23:Rows.fnExactStackAtRow.shortTexts.isNone=true:=by kernel_rfl
theorem jf24:Q.stopsHeard=true:=by kernel_rfl
theorem jf25:Q.mayEnter=true:=by kernel_rfl
theorem jf26:(Rows.fnExactStackAtRow.lifted==Q.liftsFinal)=true:=by kernel_rfl
theorem jf27:(Q.make==some Rows.fnExactStackAtRow.make)=true:=by kernel_rfl
theorem jf28:(Rows.fnExactStackAtRow.kinds==if Rows.fnExactStackAtRow.domain.isEmpty=true then []else List.map (λt=>match Q.underlying t with|some (TypeDesc.int k)=>some k|x=>none) f3.params.toList)=true:=by kernel_rfl
theorem jf29:(Rows.fnExactStackAtRow.pinned==Rows.fnExactStackAtRow.pinnedBy)=true:=by kernel_rfl
theorem jf30:(Rows.fnExactStackAtRow.veiled==(f3.params.toList++DataSpec.varTypes Q Rows.fnExactStackAtSpec.plain++f3.resultTypes.toList).any λx=>Q.veiledRec x)=true:=by kernel_rfl
theorem jf31:Rows.fnExactStackAtRow.veiledFits Q f3.params.toList (f3.params.toList++DataSpec.varTypes Q Rows.fnExactStackAtSpec.plain++f3.resultTypes.toList)=true:=by kernel_rfl
set_option maxRecDepth 100000 in
theorem facts:joinedFacts Q 3 f3 Rows.fnExactStackAtSpec Rows.fnExactStackAtRow=true:=by
 unfold joinedFacts;simp only[Bool.and_eq_true];exact⟨⟨⟨⟨⟨⟨⟨⟨⟨⟨⟨⟨⟨⟨⟨⟨⟨⟨⟨⟨⟨⟨⟨⟨⟨⟨⟨⟨⟨⟨⟨jf0,jf1⟩,jf2⟩,jf3⟩,jf4⟩,jf5⟩,jf6⟩,jf7⟩,jf8⟩,jf9⟩,jf10⟩,jf11⟩,jf12⟩,jf13⟩,jf14⟩,jf15⟩,jf16⟩,jf17⟩,jf18⟩,jf19⟩,jf20⟩,jf21⟩,jf22⟩,jf23⟩,jf24⟩,jf25⟩,jf26⟩,jf27⟩,jf28⟩,jf29⟩,jf30⟩,jf31⟩
theorem over:Rows.fnExactStackAtRow.holds Tryz.pinned (OpenSpec.ofChange Rows.fnExactStackAtSpec) :=
 OpenClaim.holds_of_wide 3 f3 rfl rfl rfl rfl rfl rfl rfl ⟨rfl,rfl,rfl,rfl,rfl⟩ rfl rfl rfl rfl rfl (by kernel_rfl) func3 facts
  (of_decide_eq_true (by kernel_rfl)) (by unfold Func.isWrapper;first|(rw[if_pos (by decide +kernel)];kernel_rfl)|(rw[if_neg (by decide +kernel)];exact⟨rfl,rfl⟩))
  (λos started H enc _=>lifted os started H enc)
end YtaccbbndmmhenaaGreat.fnExactStackAt
namespace YtaccbbndmmhenaaGreat
theorem fnExactStackAt_holds:Rows.FnExactStackAtSaid:=fnExactStackAt.over
#print axioms fnExactStackAt_holds
