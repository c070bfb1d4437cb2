import Derived.Test.YtaccbbndmmhenaaGreatDoorGau
set_option linter.all false
set_option maxHeartbeats 400000000
set_option maxRecDepth 100000
namespace Go.Proofs
open Value renaming int->U,slice->S,bool->G,string->Xs,agg->Ag
open IntKind renaming i64->O,u64->Ou
open Ending renaming returned->Z
open Obj renaming cells->Fc
open Go renaming World->J,Calls->Ec,Value->Vu
open Tryz renaming prog->Q
open Tryz
open List renaming perm_iff_count->Th,count_cons->Hd,length_append->Iw,take_length->Pf,length->N
open List.Perm renaming swap->Tw
open Nat renaming le_trans->Ky,zero_le->Kz,lt_succ_self->If,zero_add->Hq,le_succ->Mk
open Value renaming slice->Tq
open Act renaming eval->Lz,put->Lf
namespace YtaccbbndmmhenaaGreatDoor.Va
open Go.RowKit Go.Sort
variable {w W:J}{g:Nat}
abbrev xB (tv fv gv:Vu)(im tb mm:Int):List Vu:=[tv,fv,gv,U O im,U O tb,U O mm]
abbrev xR (p:Nat)(tv fv gv:Vu)(im tb mm:Int)(fs:List Qe)(gs:List Qx)(fcs:List Vu)(ks:List Qc):List Qc:=box 66 6 p (xB tv fv gv im tb mm)::⟨148,2,N fs,fv,fcs⟩::⟨145,2,N gs,gv,gCs gs⟩::ks
def XSt (D:Nat)(w0:J)(p:Nat)(tv:Vu)(fs:List Qe)(gs:List Qx)(im tb mm:Int)(ks:List Qc)(V:J):Prop:=∃fv gv fcs,Mo D w0 (xR p tv fv gv im tb mm fs gs fcs ks) V/\FTs D w0 fs fcs
section
variable {D:Nat}{w0 V V1 W:J}{p:Nat}{tv fv gv:Vu}{fs:List Qe}{gs:List Qx}{im tb mm:Int}{fcs:List Vu}{ks:List Qc}
theorem xswap (a b c:Qc)(T:List Qc):(a::b::c::T).Perm (c::a::b::T):=by
 classical
 rw[Th];intro x;simp[Hd];omega
theorem xswap' (a b c:Qc)(T:List Qc):(a::b::c::T).Perm (b::c::a::T):=by
 classical
 rw[Th];intro x;simp[Hd];omega
theorem XSt.pushF {v' pv rv:Vu}{y:Qe}(h:Mo D w0 (xR p tv fv gv im tb mm fs gs fcs ks) V)(m:Below V.heap.size V V1)(g:W.ownsRow D 148 2 v' (N fs+1) (fcs++[pv,rv]))(k:V1.grownBy W fv.ownBlock)(j:v'.ownBlock=fv.ownBlock\/v'.ownBlock=some V1.heap.size)(l:FTs D w0 fs fcs)(f:Ty D w0 [] pv y.ps)(d:Ty D w0 [] rv y.rs):(W.cell? ⟨p,1,none⟩=some fv/\W.frozen? ⟨p,1,none⟩=false)/\XSt D w0 p tv (fs++[y]) gs im tb mm ks (W.setCell ⟨p,1,none⟩ v')/\(∃a r2 r3,Mo D w0 (a::r2::r3::ks) W)/\∃a r2 r3,Mo D w0 (a::r2::r3::ks) (W.setCell ⟨p,1,none⟩ v'):=by
 have b:=((h.perm (Tw _ _ _)).push (r':=⟨148,2,N fs+1,v',fcs++[pv,rv]⟩) m k g j).perm (Tw _ _ _);have c:=b.set 1 v';refine⟨b.b0 1,⟨v',gv,fcs++[pv,rv],?_,l.snoc f d⟩,⟨_,_,_,b⟩,⟨_,_,_,c⟩⟩;unfold xR;rw[Iw];exact c
theorem XSt.pushG {v':Vu}{y:Qx}(h:Mo D w0 (xR p tv fv gv im tb mm fs gs fcs ks) V)(g:Below V.heap.size V V1)(b:W.ownsRow D 145 2 v' (N gs+1) (gCs gs++[U O y.ty,G y.mu]))(d:V1.grownBy W gv.ownBlock)(c:v'.ownBlock=gv.ownBlock\/v'.ownBlock=some V1.heap.size)(f:FTs D w0 fs fcs):(W.cell? ⟨p,2,none⟩=some gv/\W.frozen? ⟨p,2,none⟩=false)/\XSt D w0 p tv fs (gs++[y]) im tb mm ks (W.setCell ⟨p,2,none⟩ v'):=by
 have a:=((h.perm (xswap _ _ _ _)).push (r':=⟨145,2,N gs+1,v',gCs gs++([U O y.ty,G y.mu]:List Vu)⟩) g d b c).perm (xswap' _ _ _ _);have j:=a.set 2 v';refine⟨a.b0 2,⟨fv,v',fcs,?_,f⟩⟩;unfold xR;rw[gCs_snoc,Iw];exact j
end
theorem ftl_of {D:Nat}{w0:J}{md:Mod}{A:MdA}(a:MdI D w0 md A):FtL D w0 A.a1 md.types:=by
 rcases a.is.1 with h|⟨b,off,p,_,k⟩
 . exact .inl h
 by_cases j:md.types=[]
 . exact .inl j
 refine .inr ⟨b,off,p,?_,λi hi=>?_⟩
 . obtain⟨m,f,l,d,⟨c,g⟩,_⟩:=k 0 (List.length_pos_iff.2 j);exact a.cd _ _ _ c
 obtain⟨m,f,l,d,⟨c,g⟩,o,n⟩:=k i hi;exact⟨_,_,c,g,HI.ty a.cd f o,HI.ty a.cd d n⟩
theorem impN_len (md:Mod)(a:Int)(k:Nat):QZ md a k<=N md.imps:=by
 unfold QZ;exact Ky (List.length_filter_le _ _) (by simp;omega)
theorem put6m {D w0 V}{ks:List Qc}{e:Nat}{cs:List Vu}(h:Mo D w0 (box e 6 g cs::ks) V)(m:N cs=6)(x0 x1 x2 x3 l k:Vu):Mo D w0 (box e 6 g [x0,x1,x2,x3,l,k]::ks) ((((((V.setCell ⟨g,0,none⟩ x0).setCell ⟨g,1,none⟩ x1).setCell ⟨g,2,none⟩ x2).setCell ⟨g,3,none⟩ x3).setCell ⟨g,4,none⟩ l).setCell ⟨g,5,none⟩ k):=by
 have n:=(((((h.set 0 x0).set 1 x1).set 2 x2).set 3 x3).set 4 l).set 5 k;obtain⟨j,f,d,c,b,a,rfl⟩:∃j f d c b a,cs=[j,f,d,c,b,a]:=by
  match cs,m with
  |[j,f,d,c,b,a],_=>exact⟨j,f,d,c,b,a,rfl⟩
 exact n
theorem scontext_c {D w0 ks V}{md:Mod}{A:MdA}(hm:Mo D w0 ks V)(hI:MdI D w0 md A)(hL:Mod.Ln md)(bh:∀i,i<N md.imps->0<=(md.imps.getD i Imp.z).kind/\(md.imps.getD i Imp.z).kind<=3/\0<=(md.imps.getD i Imp.z).ty)(ef:∀i,i<N md.funcs->0<=md.funcs.getD i 0):Ec Q 21 #[mdV md A] V λe w'=>∃t ns,e=Z (cxV (cxF md) t)/\Mo D w0 (ns++ks) w'/\CtR D w0 (cxF md) t (ns++ks):=by
 obtain⟨l1,l2,l3,l4,l5,l6,l7,l8,l9,gp,gn⟩:=hL;obtain⟨i0,hi,d6,d5,d4⟩:=info_parts info148;obtain⟨i1,eg,ec,eb,d9⟩:=info_parts info145;obtain⟨q,hq⟩:∃q,q=V.heap.size:=⟨_,rfl⟩;obtain⟨WA,de⟩:∃WA,WA=(V.alloc (Fc (mdC md A) 48)).alloc (Fc #[S none 0 0,S none 0 0,S none 0 0,U O 0,U O 0,U O 0] 66):=⟨_,rfl⟩;obtain⟨p,hp⟩:∃p,p=WA.heap.size:=⟨_,rfl⟩;obtain⟨W,hW⟩:∃W,W=WA.alloc (Fc #[S A.a1 (N md.types) A.c1,S none 0 0,S none 0 0,U O 0,U O (N md.tabs),U O (N md.mems)] 66):=⟨_,rfl⟩;obtain⟨bm,a0⟩:∃bm:Qc,bm=box 48 13 q (mdC md A).toList:=⟨_,rfl⟩;obtain⟨br,dd⟩:∃br:Qc,br=box 66 6 (q+1) (#[S none 0 0,S none 0 0,S none 0 0,U O 0,U O 0,U O 0]:Array Vu).toList:=⟨_,rfl⟩;obtain⟨T0,ce⟩:∃T0:List Qc,T0=br::bm::ks:=⟨_,rfl⟩;have bg:Mo D w0 (br::bm::ks) WA:=by have:=(hm.box (cur:=mdC md A) 48 13 rfl).box (cur:=#[S none 0 0,S none 0 0,S none 0 0,U O 0,U O 0,U O 0]) 66 6 rfl;rw[de,a0,dd,hq];simpa using this
 have eh:XSt D w0 p (S A.a1 (N md.types) A.c1) [] [] 0 (N md.tabs) (N md.mems) T0 W:=by have h1:=(bg.new (ns:=[⟨145,2,0,S none 0 0,[]⟩]) bFz (Own.one (World.ownsRow_nil _ _ _ 2))).new (ns:=[⟨148,2,0,S none 0 0,[]⟩]) bFz (Own.one (World.ownsRow_nil _ _ _ 2));have h2:=h1.box (cur:=#[S A.a1 (N md.types) A.c1,S none 0 0,S none 0 0,U O 0,U O (N md.tabs),U O (N md.mems)]) 66 6 rfl;rw[hW,hp,ce];exact⟨_,_,[],h2,FTs0⟩
 have e0:WA.cell? ⟨q,0,none⟩=some (S A.a1 (N md.types) A.c1):=Ql bg (by rw[<- a0];simp) 0;have e3:WA.cell? ⟨q,3,none⟩=some (S A.a4 (N md.tabs) A.c4):=Ql bg (by rw[<- a0];simp) 3;have e4:WA.cell? ⟨q,4,none⟩=some (S A.a5 (N md.mems) A.c5):=Ql bg (by rw[<- a0];simp) 4;have bl:Hid (bm∈T0):=by show bm∈T0;rw[ce];simp
 have dp:=Hm a0;have fp:=Hm dd;have fl:=Hm ce;have bb:=Hm eh;have ab:=Hm hI;have el:=Hm bh;have em:=Hm ef;clear hm bg eh hI bh ef a0 dd ce;go_enter func21,ntmps21;go_upto_region 1 with fail
 rw[<- de,<- hq];clear de hq;go_upto_region 2 with fail
 rw[<- hW,<- hp];clear hW hp e0 e3 e4;go_wp2_with fail
 go_loopw [4] (λi wr=>∃k:Nat,k<=N md.imps/\i=U O k/\XSt D w0 p (S A.a1 (N md.types) A.c1) (Jq md k) (Jc md k) 0 ((N md.tabs+QZ md 1 k:Nat):Int) ((N md.mems+QZ md 2 k:Nat):Int) T0 wr) (λi _=>N md.imps-(intOf i).toNat)
 case atStart=>exact⟨0,Kz _,rfl,by simpa[Jq,Jc,QZ]using bb.o⟩
 obtain⟨k,hk,rfl,ao⟩:=hrel;have bF:(Jq md k).length<=1048576:=Ky (impFs_len md k) l2;have bG:(Jc md k).length<=1048576:=Ky (impGs_len md k) l2;have b1:QZ md 1 k<=1048576:=Ky (impN_len md 1 k) l2;have b2:QZ md 2 k<=1048576:=Ky (impN_len md 2 k) l2;obtain⟨f,I⟩:∃x,x=Jq md k:=⟨_,rfl⟩;obtain⟨d,m⟩:∃x,x=Jc md k:=⟨_,rfl⟩;obtain⟨tb,ad⟩:∃x:Int,x=((N md.tabs+QZ md 1 k:Nat):Int):=⟨_,rfl⟩;obtain⟨mm,ae⟩:∃x:Int,x=((N md.mems+QZ md 2 k:Nat):Int):=⟨_,rfl⟩;obtain⟨im,M⟩:∃x:Int,x=0:=⟨_,rfl⟩;rw[<- I,<- m,<- ad,<- ae,<- M]at ao;rw[<- I]at bF;rw[<- m]at bG;obtain⟨fv,gv,fcs,a,B⟩:=ao;have j:wr.ownsRow D 148 2 fv (N f) fcs:=a.row (r:=⟨148,2,N f,fv,fcs⟩) (by simp);have g:wr.ownsRow D 145 2 gv (N d) (gCs d):=a.row (r:=⟨145,2,N d,gv,gCs d⟩) (by simp);obtain⟨E,C,rfl⟩:=Qh j;obtain⟨X,R,rfl⟩:=Qh g;have p1:=(a.b0 1 (u:=S E (N f) C)).1;have p2:=(a.b0 2 (u:=S X (N d) R)).1;obtain⟨p3,u3⟩:=a.b0 3 (u:=U O im);obtain⟨p4,u4⟩:=a.b0 4 (u:=U O tb);obtain⟨p5,u5⟩:=a.b0 5 (u:=U O mm);have ax:=a.le;have c:box 48 13 q (mdC md A).toList∈xR p (S A.a1 (N md.types) A.c1) (S E (N f) C) (S X (N d) R) im tb mm f d fcs T0:=by have:=bl.o;rw[dp.o]at this;simp[this]
 have m0:=Ql a c 0 (u:=S A.a1 (N md.types) A.c1);have m1:=Ql a c 1 (u:=S A.a2 (N md.imps) A.c2);have m2:=Ql a c 2 (u:=S A.a3 (N md.funcs) A.c3);have m3:=Ql a c 3 (u:=S A.a4 (N md.tabs) A.c4);have m4:=Ql a c 4 (u:=S A.a5 (N md.mems) A.c5);have m5:=Ql a c 5 (u:=S A.a6 (N md.globs) A.c6);have m6:=Ql a c 6 (u:=S A.a7 (N md.exps) A.c7);have m7:=Ql a c 7 (u:=G md.hasS);have m8:=Ql a c 8 (u:=U O md.start);have m9:=Ql a c 9 (u:=S A.a8 (N md.elems) A.c8);have cc:=Ql a c 10 (u:=S A.a9 (N md.codes) A.c9);have cb:=Ql a c 11 (u:=S A.a10 (N md.datas) A.c10);have ca:=Ql a c 12 (u:=S A.a11 (N md.customs) A.c11);by_cases s:k<N md.imps
 . (have bh:(k:Int)<(N md.imps:Int):=by omega);rcases ab.o.is.2.1 with hx|⟨b,off,ea,_,hc⟩
   . rw[hx]at s;simp at s
   obtain⟨⟨c0,c1,c2,c3,c4,c5,c6,c7,c8⟩,_⟩:=hc k s;obtain⟨az,ay,F⟩:=el.o k s;have eF:=impFs_succ md k s;have eG:=impGs_succ md k s;have ai:=Gc md 1 k s;have ah:=Gc md 2 k s;rw[<- I]at eF;rw[<- m]at eG;obtain⟨y,hy⟩:∃y,y=md.imps.getD k Imp.z:=⟨_,rfl⟩;rw[<- hy]at c2 c3 c7 c8 az ay F eF eG ai ah;obtain⟨fq,f2,b3,dw,fr,fd⟩:=y;obtain⟨Y,aa⟩:=fd;dsimp only at c2 c3 c7 c8 az ay F eF eG ai ah;have d2:=(a.b.cell (p:=⟨b,off+k*9+2,none⟩) (ab.o.cd _ _ _ c2)).trans c2;have d3:=(a.b.cell (p:=⟨b,off+k*9+3,none⟩) (ab.o.cd _ _ _ c3)).trans c3;have d7:=(a.b.cell (p:=⟨b,off+k*9+7,none⟩) (ab.o.cd _ _ _ c7)).trans c7;have d8:=(a.b.cell (p:=⟨b,off+k*9+8,none⟩) (ab.o.cd _ _ _ c8)).trans c8;have dn:=Hm ea;rw[ea]at m1;rcases(by omega:b3=0\/b3=1\/b3=2\/b3=3)with rfl|rfl|rfl|rfl
   . have cx:=c3;obtain⟨pa,pc,ra,rc,tp,tr,hT⟩:=stypeAt_v dw ab.o F l1;obtain⟨T,ar⟩:∃T,T=Jv md dw:=⟨_,rfl⟩;rw[<- ar]at tp tr hT;obtain⟨pn,bf⟩:∃n,n=N T.ps:=⟨_,rfl⟩;obtain⟨rn,bd⟩:∃n,n=N T.rs:=⟨_,rfl⟩;rw[<- bf]at tp hT;rw[<- bd]at tr hT;(have eT:mdV md A=Ag #[S A.a1 (N md.types) A.c1,S (some ⟨b,off,none⟩) (N md.imps) A.c2,S A.a3 (N md.funcs) A.c3,S A.a4 (N md.tabs) A.c4,S A.a5 (N md.mems) A.c5,S A.a6 (N md.globs) A.c6,S A.a7 (N md.exps) A.c7,G md.hasS,U O md.start,S A.a8 (N md.elems) A.c8,S A.a9 (N md.codes) A.c9,S A.a10 (N md.datas) A.c10,S A.a11 (N md.customs) A.c11]:=by rw[<- dn.o]);rw[eT]at hT;have HT:=Hm hT;have HP:Hid (∀V1 L v',Below wr.heap.size wr V1->L.ownsRow D 148 2 v' (N f+1) (fcs++[S pa pn pc,S ra rn rc])->V1.grownBy L (Tq E (N f) C).ownBlock->(v'.ownBlock=(Tq E (N f) C).ownBlock\/v'.ownBlock=some V1.heap.size)->(L.cell? ⟨p,1,none⟩=some (S E (N f) C)/\L.frozen? ⟨p,1,none⟩=false)/\XSt D w0 p (S A.a1 (N md.types) A.c1) (f++[T]) d im tb mm T0 (L.setCell ⟨p,1,none⟩ v')/\(∃r1 r2 r3,Mo D w0 (r1::r2::r3::T0) L)/\∃r1 r2 r3,Mo D w0 (r1::r2::r3::T0) (L.setCell ⟨p,1,none⟩ v')):=λV1 L v' hb ho hg hl=>XSt.pushF a hb ho hg hl B tp tr;have bq:Hid (Mo D w0 (xR p (S A.a1 (N md.types) A.c1) (S E (N f) C) (S X (N d) R) im tb mm f d fcs T0) wr.drew):=a.drewN 1;have ag:Hid (Jq md (k+1)=f++[T]/\Jc md (k+1)=d/\((N md.tabs+QZ md 1 (k+1):Nat):Int)=tb/\((N md.mems+QZ md 2 (k+1):Nat):Int)=mm/\im=0):=⟨by rw[eF,ar];rfl,by rw[eG];simp,by rw[ai,ad];simp,by rw[ah,ae];simp,M⟩;clear ar bf bd tp tr hT cx ea eT;clear eF eG ai ah I m ad ae M b1 b2 c0 c1 c2 c3 c4 c5 c6 c7 c8 hc bb hy az ay F;clear a B j g c;go_wp2_with fail
     go_region_law (first
      | (
       go_simp
       go_at_call 61
       refine Calls.mono (HT.o _ _ bq.o) ?_
       rintro e w2 ⟨rfl,ap⟩;have au:=Hm (bq.o.keep ap);have bu:Hid (Below wr.heap.size wr w2):=Below.trans (show Below wr.heap.size wr wr.drew from⟨rfl,rfl,rfl,lRz,fun _ _=>rfl⟩) ap;have dl:=Hm (fun o=>au.o.keep (bFz.alloc lRz o));have g2:=(au.o.b0 1 (u:=S E (N f) C)).1;have g3:∀o,(w2.alloc o).cell? ⟨p,1,none⟩=some (S E (N f) C):=fun o=>Qd g2;have ee:=au.o.le;clear ap)
      | (
       refine Qt rfl (.tmp 32) (.tmp 41) 38 rfl D 148 i0 (Ag #[S none 0 0,S none 0 0]) 2 48 underlying38 hi d6 d5 d4 rfl (by decide) (S E (N f) C) (N f) fcs (by first|rfl|simp[Lz,Lf]) ((dl.o _).row (r:=⟨148,2,N f,S E (N f) C,fcs⟩) (by simp)) ⟨w2.heap.size,0,none⟩ 1 1 [S pa pn pc,S ra rn rc] (by first|rfl|simp[Lz,Lf]) (by first|rfl|simp) (Jn w2 [S pa pn pc,S ra rn rc] 148) (one2 rfl rfl) (by unfold maxLen;omega) (by omega) (by simp;omega) ?_
       intro v2 w5 l af H
       have HQ:=Hm (HP.o _ w5 v2 (bu.o.alloc bu.o.size _) l af H);have dh:=HQ.o.1.1;have dg:=HQ.o.1.2;obtain⟨cr,cq,rfl⟩:=Qh l;clear l af H))
     all_goals
      have dj:=Hm HQ.o.2.1
      go_wp2_with fail
      go_roundw
      case rel =>
       obtain⟨n1,n2,n3,n4,n5⟩:=ag.o
       exact⟨k+1,by omega,by go_num,by rw[n1,n2,n3,n4,<- n5];exact dj.o⟩
      case measure=>simp[intOf];omega
   . (have hw:IntKind.i64.wrap (tb+1)=tb+1:=by rw[IntKind.wrap_i64];omega);have ag:Hid (Jq md (k+1)=f/\Jc md (k+1)=d/\((N md.tabs+QZ md 1 (k+1):Nat):Int)=tb+1/\((N md.mems+QZ md 2 (k+1):Nat):Int)=mm/\im=0):=⟨by rw[eF];simp,by rw[eG];simp,by rw[ai,ad];simp;omega,by rw[ah,ae];simp,M⟩;have HQ:Hid (XSt D w0 p (S A.a1 (N md.types) A.c1) f d im (tb+1) mm T0 (wr.setCell ⟨p,4,none⟩ (U O (tb+1)))):=⟨_,_,_,a.set 4 (U O (tb+1)),B⟩;clear eF eG ai ah I m ad ae M b1 b2 c0 c1 c2 c3 c4 c5 c6 c7 c8 hc bb hy az ay F;clear a B j g c;(go_wp2_with fail);(go_roundw);(case rel=>obtain⟨n1,n2,n3,n4,n5⟩:=ag.o;exact⟨k+1,by omega,by go_num,by rw[n1,n2,n3,n4,<- n5];exact HQ.o⟩);case measure=>simp[intOf];omega
   . (have hw:IntKind.i64.wrap (mm+1)=mm+1:=by rw[IntKind.wrap_i64];omega);have ag:Hid (Jq md (k+1)=f/\Jc md (k+1)=d/\((N md.tabs+QZ md 1 (k+1):Nat):Int)=tb/\((N md.mems+QZ md 2 (k+1):Nat):Int)=mm+1/\im=0):=⟨by rw[eF];simp,by rw[eG];simp,by rw[ai,ad];simp,by rw[ah,ae];simp;omega,M⟩;have HQ:Hid (XSt D w0 p (S A.a1 (N md.types) A.c1) f d im tb (mm+1) T0 (wr.setCell ⟨p,5,none⟩ (U O (mm+1)))):=⟨_,_,_,a.set 5 (U O (mm+1)),B⟩;clear eF eG ai ah I m ad ae M b1 b2 c0 c1 c2 c3 c4 c5 c6 c7 c8 hc bb hy az ay F;clear a B j g c;(go_wp2_with fail);(go_roundw);(case rel=>obtain⟨n1,n2,n3,n4,n5⟩:=ag.o;exact⟨k+1,by omega,by go_num,by rw[n1,n2,n3,n4,<- n5];exact HQ.o⟩);case measure=>simp[intOf];omega
   have ag:Hid (Jq md (k+1)=f/\Jc md (k+1)=d++[⟨Y,aa⟩]/\((N md.tabs+QZ md 1 (k+1):Nat):Int)=tb/\((N md.mems+QZ md 2 (k+1):Nat):Int)=mm/\im=0):=⟨by rw[eF];simp,by rw[eG];rfl,by rw[ai,ad];simp,by rw[ah,ae];simp,M⟩;have HP:Hid (∀V1 L v',Below wr.heap.size wr V1->L.ownsRow D 145 2 v' (N d+1) (gCs d++[U O Y,G aa])->V1.grownBy L (Tq X (N d) R).ownBlock->(v'.ownBlock=(Tq X (N d) R).ownBlock\/v'.ownBlock=some V1.heap.size)->(L.cell? ⟨p,2,none⟩=some (S X (N d) R)/\L.frozen? ⟨p,2,none⟩=false)/\XSt D w0 p (S A.a1 (N md.types) A.c1) f (d++[⟨Y,aa⟩]) im tb mm T0 (L.setCell ⟨p,2,none⟩ v')):=λV1 L v' hb ho hg hl=>XSt.pushG (y:=⟨Y,aa⟩) a hb ho hg hl B;have OW:=Hm g;have bt:Hid (∀o,Below wr.heap.size wr ((wr.alloc o).drew)):=λo=>⟨rfl,rfl,rfl,by show wr.heap.size<=(wr.alloc o).heap.size;simp,λk hk=>QM wr o k hk⟩;have kd:∀o,(wr.alloc o).cell? ⟨p,2,none⟩=some (S X (N d) R):=λo=>Qd p2;clear eF eG ai ah I m ad ae M b1 b2 c0 c1 c2 c3 c4 c5 c6 c7 c8 hc bb hy az ay F;clear a B j g c;go_wp2_with fail
   go_region_law (first
    | (
     refine Qt rfl (.tmp 59) (.tmp 66) 64 rfl D 145 i1 (Ag #[U O 0,G false]) 2 16 underlying64 eg ec eb d9 rfl (by decide) (S X (N d) R) (N d) (gCs d) (by first|rfl|simp[Lz,Lf]) (World.ownsRow.alloc OW.o _) ⟨wr.heap.size,0,none⟩ 1 1 [U O Y,G aa] (by first|rfl|simp[Lz,Lf]) (by first|rfl|simp) (Jn wr [U O Y,G aa] 145) (one2 rfl rfl) (by unfold maxLen;omega) (by omega) (Ky ax (bt.o _).size) ?_
     intro v2 w5 l af H
     have HQ:=Hm (HP.o _ w5 v2 (bt.o _) l af H);have dh:=HQ.o.1.1;have dg:=HQ.o.1.2;obtain⟨cr,cq,rfl⟩:=Qh l;clear l af H))
   all_goals
    go_wp2_with fail
    go_roundw
    case rel =>
     obtain⟨n1,n2,n3,n4,n5⟩:=ag.o
     exact⟨k+1,by omega,by go_num,by rw[n1,n2,n3,n4,<- n5];exact HQ.o.2⟩
    case measure=>simp[intOf];omega
 obtain rfl:k=N md.imps:=by omega
 have ch:Hid (XSt D w0 p (S A.a1 (N md.types) A.c1) f d (N d:Int) tb mm T0 (wr.setCell ⟨p,3,none⟩ (U O (N d:Int)))):=⟨_,_,_,a.set 3 (U O (N d:Int)),B⟩;obtain⟨F0,cf⟩:∃F0,F0=f:=⟨_,rfl⟩;obtain⟨G0,bn⟩:∃G0,G0=d:=⟨_,rfl⟩;have bs:Hid (F0=Jq md (N md.imps)/\G0=Jc md (N md.imps)/\tb=((N md.tabs+QZ md 1 (N md.imps):Nat):Int)/\mm=((N md.mems+QZ md 2 (N md.imps):Nat):Int)):=⟨cf.trans I,bn.trans m,ad,ae⟩;rw[<- cf]at bF;rw[<- bn]at bG;rw[<- bn,<- cf]at ch;clear bb I m ad ae M;clear a B j g c;go_wp2_with fail
 rw[<- bn];clear cf bn b1 b2 s hk m0 m1 m2 m3 m4 m5 m6 m7 m8 m9 cc cb ca p1 p2 p3 u3 p4 u4 p5 u5 ax el;generalize wr.setCell ⟨p,3,none⟩ (U O (N G0:Int))=W1 at *;go_loopw [5] (λi wr=>∃k:Nat,k<=N md.funcs/\i=U O k/\XSt D w0 p (S A.a1 (N md.types) A.c1) (F0++(md.funcs.take k).map (Jv md)) G0 (N G0:Int) tb mm T0 wr) (λi _=>N md.funcs-(intOf i).toNat)
 case atStart=>exact⟨0,Kz _,rfl,by simpa using ch.o⟩
 obtain⟨k,hk,rfl,ao⟩:=hrel;obtain⟨f,I⟩:∃x,x=F0++(md.funcs.take k).map (Jv md):=⟨_,rfl⟩;obtain⟨d,m⟩:∃x,x=G0:=⟨_,rfl⟩;obtain⟨im,M⟩:∃x:Int,x=(N G0:Int):=⟨_,rfl⟩;have g1:N f<=2097152:=by rw[I];simp;omega
 rw[<- I,<- M,<- m]at ao;obtain⟨fv,gv,fcs,a,B⟩:=ao;have j:wr.ownsRow D 148 2 fv (N f) fcs:=a.row (r:=⟨148,2,N f,fv,fcs⟩) (by simp);have g:wr.ownsRow D 145 2 gv (N d) (gCs d):=a.row (r:=⟨145,2,N d,gv,gCs d⟩) (by simp);obtain⟨E,C,rfl⟩:=Qh j;obtain⟨X,R,rfl⟩:=Qh g;have p1:=(a.b0 1 (u:=S E (N f) C)).1;have p2:=(a.b0 2 (u:=S X (N d) R)).1;obtain⟨p3,u3⟩:=a.b0 3 (u:=U O im);obtain⟨p4,u4⟩:=a.b0 4 (u:=U O tb);obtain⟨p5,u5⟩:=a.b0 5 (u:=U O mm);have ax:=a.le;have c:box 48 13 q (mdC md A).toList∈xR p (S A.a1 (N md.types) A.c1) (S E (N f) C) (S X (N d) R) im tb mm f d fcs T0:=by have:=bl.o;rw[dp.o]at this;simp[this]
 have m0:=Ql a c 0 (u:=S A.a1 (N md.types) A.c1);have m1:=Ql a c 1 (u:=S A.a2 (N md.imps) A.c2);have m2:=Ql a c 2 (u:=S A.a3 (N md.funcs) A.c3);have m3:=Ql a c 3 (u:=S A.a4 (N md.tabs) A.c4);have m4:=Ql a c 4 (u:=S A.a5 (N md.mems) A.c5);have m5:=Ql a c 5 (u:=S A.a6 (N md.globs) A.c6);have m6:=Ql a c 6 (u:=S A.a7 (N md.exps) A.c7);have m7:=Ql a c 7 (u:=G md.hasS);have m8:=Ql a c 8 (u:=U O md.start);have m9:=Ql a c 9 (u:=S A.a8 (N md.elems) A.c8);have cc:=Ql a c 10 (u:=S A.a9 (N md.codes) A.c9);have cb:=Ql a c 11 (u:=S A.a10 (N md.datas) A.c10);have ca:=Ql a c 12 (u:=S A.a11 (N md.customs) A.c11);by_cases s:k<N md.funcs
 . (have bh:(k:Int)<(N md.funcs:Int):=by omega);rcases ab.o.is.2.2.1 with hx|⟨b,off,ea,_,hc⟩
   . rw[hx]at s;simp at s
   have cx:=hc k s;have F:=em.o k s;have aw:=JF md.funcs k 0 s;obtain⟨y,hy⟩:∃y,y=md.funcs.getD k 0:=⟨_,rfl⟩;rw[<- hy]at cx F aw;have d3:=(a.b.cell (p:=⟨b,off+k,none⟩) (ab.o.cd _ _ _ cx)).trans cx;have dn:=Hm ea;rw[ea]at m2;obtain⟨pa,pc,ra,rc,tp,tr,hT⟩:=stypeAt_v y ab.o F l1;obtain⟨T,ar⟩:∃T,T=Jv md y:=⟨_,rfl⟩;rw[<- ar]at tp tr hT;obtain⟨pn,bf⟩:∃n,n=N T.ps:=⟨_,rfl⟩;obtain⟨rn,bd⟩:∃n,n=N T.rs:=⟨_,rfl⟩;rw[<- bf]at tp hT;rw[<- bd]at tr hT;(have eT:mdV md A=Ag #[S A.a1 (N md.types) A.c1,S A.a2 (N md.imps) A.c2,S (some ⟨b,off,none⟩) (N md.funcs) A.c3,S A.a4 (N md.tabs) A.c4,S A.a5 (N md.mems) A.c5,S A.a6 (N md.globs) A.c6,S A.a7 (N md.exps) A.c7,G md.hasS,U O md.start,S A.a8 (N md.elems) A.c8,S A.a9 (N md.codes) A.c9,S A.a10 (N md.datas) A.c10,S A.a11 (N md.customs) A.c11]:=by rw[<- dn.o]);rw[eT]at hT;have HT:=Hm hT;have HP:Hid (∀V1 L v',Below wr.heap.size wr V1->L.ownsRow D 148 2 v' (N f+1) (fcs++[S pa pn pc,S ra rn rc])->V1.grownBy L (Tq E (N f) C).ownBlock->(v'.ownBlock=(Tq E (N f) C).ownBlock\/v'.ownBlock=some V1.heap.size)->(L.cell? ⟨p,1,none⟩=some (S E (N f) C)/\L.frozen? ⟨p,1,none⟩=false)/\XSt D w0 p (S A.a1 (N md.types) A.c1) (f++[T]) d im tb mm T0 (L.setCell ⟨p,1,none⟩ v')/\(∃r1 r2 r3,Mo D w0 (r1::r2::r3::T0) L)/\∃r1 r2 r3,Mo D w0 (r1::r2::r3::T0) (L.setCell ⟨p,1,none⟩ v')):=λV1 L v' hb ho hg hl=>XSt.pushF a hb ho hg hl B tp tr;have bq:Hid (Mo D w0 (xR p (S A.a1 (N md.types) A.c1) (S E (N f) C) (S X (N d) R) im tb mm f d fcs T0) wr.drew):=a.drewN 1;have ag:Hid (F0++(md.funcs.take (k+1)).map (Jv md)=f++[T]/\G0=d/\(N G0:Int)=im):=⟨by rw[aw,I,ar];simp,m.symm,M.symm⟩;clear ar bf bd tp tr hT cx ea eT hc hy F aw I m M ch;clear a B j g c;go_wp2_with fail
   go_region_law (first
    | (
     go_simp
     go_at_call 61
     refine Calls.mono (HT.o _ _ bq.o) ?_
     rintro e w2 ⟨rfl,ap⟩;have au:=Hm (bq.o.keep ap);have bu:Hid (Below wr.heap.size wr w2):=Below.trans (show Below wr.heap.size wr wr.drew from⟨rfl,rfl,rfl,lRz,fun _ _=>rfl⟩) ap;have dl:=Hm (fun o=>au.o.keep (bFz.alloc lRz o));have g2:=(au.o.b0 1 (u:=S E (N f) C)).1;have g3:∀o,(w2.alloc o).cell? ⟨p,1,none⟩=some (S E (N f) C):=fun o=>Qd g2;have ee:=au.o.le;clear ap)
    | (
     refine Qt rfl (.tmp 81) (.tmp 89) 38 rfl D 148 i0 (Ag #[S none 0 0,S none 0 0]) 2 48 underlying38 hi d6 d5 d4 rfl (by decide) (S E (N f) C) (N f) fcs (by first|rfl|simp[Lz,Lf]) ((dl.o _).row (r:=⟨148,2,N f,S E (N f) C,fcs⟩) (by simp)) ⟨w2.heap.size,0,none⟩ 1 1 [S pa pn pc,S ra rn rc] (by first|rfl|simp[Lz,Lf]) (by first|rfl|simp) (Jn w2 [S pa pn pc,S ra rn rc] 148) (one2 rfl rfl) (by unfold maxLen;omega) (by omega) (by simp;omega) ?_
     intro v2 w5 l af H
     have HQ:=Hm (HP.o _ w5 v2 (bu.o.alloc bu.o.size _) l af H);have dh:=HQ.o.1.1;have dg:=HQ.o.1.2;obtain⟨cr,cq,rfl⟩:=Qh l;clear l af H))
   all_goals
    have dj:=Hm HQ.o.2.1
    go_wp2_with fail
    go_roundw
    case rel =>
     obtain⟨n1,n2,n3⟩:=ag.o
     exact⟨k+1,by omega,by go_num,by rw[n1,n3,n2];exact dj.o⟩
    case measure=>simp[intOf];omega
 obtain rfl:k=N md.funcs:=by omega
 rw[Pf]at I;have di:Hid (XSt D w0 p (S A.a1 (N md.types) A.c1) f G0 im tb mm T0 wr):=by rw[<- m];exact⟨_,_,_,a,B⟩
 have dm:=Hm (And.intro I M);clear ch I M m;clear a B j g c;go_wp2_with fail
 clear s hk m0 m1 m2 m3 m4 m5 m6 m7 m8 m9 cc cb ca p1 p2 p3 u3 p4 u4 p5 u5 ax em;go_loopw [6] (λi wr=>∃k:Nat,k<=N md.globs/\i=U O k/\XSt D w0 p (S A.a1 (N md.types) A.c1) f (G0++(md.globs.take k).map (·.ty)) im tb mm T0 wr) (λi _=>N md.globs-(intOf i).toNat)
 case atStart=>exact⟨0,Kz _,rfl,by simpa using di.o⟩
 obtain⟨k,hk,rfl,ao⟩:=hrel;obtain⟨d,m⟩:∃x,x=G0++(md.globs.take k).map (·.ty):=⟨_,rfl⟩;have g0:N d<=2097152:=by rw[m];simp;omega
 rw[<- m]at ao;obtain⟨fv,gv,fcs,a,B⟩:=ao;have j:wr.ownsRow D 148 2 fv (N f) fcs:=a.row (r:=⟨148,2,N f,fv,fcs⟩) (by simp);have g:wr.ownsRow D 145 2 gv (N d) (gCs d):=a.row (r:=⟨145,2,N d,gv,gCs d⟩) (by simp);obtain⟨E,C,rfl⟩:=Qh j;obtain⟨X,R,rfl⟩:=Qh g;have p1:=(a.b0 1 (u:=S E (N f) C)).1;have p2:=(a.b0 2 (u:=S X (N d) R)).1;obtain⟨p3,u3⟩:=a.b0 3 (u:=U O im);obtain⟨p4,u4⟩:=a.b0 4 (u:=U O tb);obtain⟨p5,u5⟩:=a.b0 5 (u:=U O mm);have ax:=a.le;have c:box 48 13 q (mdC md A).toList∈xR p (S A.a1 (N md.types) A.c1) (S E (N f) C) (S X (N d) R) im tb mm f d fcs T0:=by have:=bl.o;rw[dp.o]at this;simp[this]
 have m0:=Ql a c 0 (u:=S A.a1 (N md.types) A.c1);have m1:=Ql a c 1 (u:=S A.a2 (N md.imps) A.c2);have m2:=Ql a c 2 (u:=S A.a3 (N md.funcs) A.c3);have m3:=Ql a c 3 (u:=S A.a4 (N md.tabs) A.c4);have m4:=Ql a c 4 (u:=S A.a5 (N md.mems) A.c5);have m5:=Ql a c 5 (u:=S A.a6 (N md.globs) A.c6);have m6:=Ql a c 6 (u:=S A.a7 (N md.exps) A.c7);have m7:=Ql a c 7 (u:=G md.hasS);have m8:=Ql a c 8 (u:=U O md.start);have m9:=Ql a c 9 (u:=S A.a8 (N md.elems) A.c8);have cc:=Ql a c 10 (u:=S A.a9 (N md.codes) A.c9);have cb:=Ql a c 11 (u:=S A.a10 (N md.datas) A.c10);have ca:=Ql a c 12 (u:=S A.a11 (N md.customs) A.c11);by_cases s:k<N md.globs
 . (have bh:(k:Int)<(N md.globs:Int):=by omega);rcases ab.o.is.2.2.2.2.2.1 with hx|⟨b,off,ea,_,hc⟩
   . rw[hx]at s;simp at s
   obtain⟨_,_,⟨c0,c1,_⟩,_⟩:=hc k s;have aw:=JF md.globs k Qn.z s;obtain⟨y,hy⟩:∃y,y=(md.globs.getD k Qn.z).ty:=⟨_,rfl⟩;(have ci:(md.globs.take (k+1)).map (·.ty)=(md.globs.take k).map (·.ty)++[y]:=by rw[aw,hy];simp);rw[<- hy]at c0 c1;obtain⟨Y,aa⟩:=y;dsimp only at c0 c1;have d0:=(a.b.cell (p:=⟨b,off+k*3,none⟩) (ab.o.cd _ _ _ c0)).trans c0;have d1:=(a.b.cell (p:=⟨b,off+k*3+1,none⟩) (ab.o.cd _ _ _ c1)).trans c1;rw[ea]at m5;(have ag:Hid (G0++(md.globs.take (k+1)).map (·.ty)=d++[⟨Y,aa⟩]):=by show _=_;rw[ci,m];simp);have HP:Hid (∀V1 L v',Below wr.heap.size wr V1->L.ownsRow D 145 2 v' (N d+1) (gCs d++[U O Y,G aa])->V1.grownBy L (Tq X (N d) R).ownBlock->(v'.ownBlock=(Tq X (N d) R).ownBlock\/v'.ownBlock=some V1.heap.size)->(L.cell? ⟨p,2,none⟩=some (S X (N d) R)/\L.frozen? ⟨p,2,none⟩=false)/\XSt D w0 p (S A.a1 (N md.types) A.c1) f (d++[⟨Y,aa⟩]) im tb mm T0 (L.setCell ⟨p,2,none⟩ v')):=λV1 L v' hb ho hg hl=>XSt.pushG (y:=⟨Y,aa⟩) a hb ho hg hl B;have OW:=Hm g;have bt:Hid (∀o,Below wr.heap.size wr ((wr.alloc o).drew)):=λo=>⟨rfl,rfl,rfl,by show wr.heap.size<=(wr.alloc o).heap.size;simp,λk hk=>QM wr o k hk⟩;have kd:∀o,(wr.alloc o).cell? ⟨p,2,none⟩=some (S X (N d) R):=λo=>Qd p2;clear aw ci m hy c0 c1 ea hc di;clear a B j g c;go_wp2_with fail
   go_region_law (first
    | (
     refine Qt rfl (.tmp 100) (.tmp 107) 64 rfl D 145 i1 (Ag #[U O 0,G false]) 2 16 underlying64 eg ec eb d9 rfl (by decide) (S X (N d) R) (N d) (gCs d) (by first|rfl|simp[Lz,Lf]) (World.ownsRow.alloc OW.o _) ⟨wr.heap.size,0,none⟩ 1 1 [U O Y,G aa] (by first|rfl|simp[Lz,Lf]) (by first|rfl|simp) (Jn wr [U O Y,G aa] 145) (one2 rfl rfl) (by unfold maxLen;omega) (by omega) (Ky ax (bt.o _).size) ?_
     intro v2 w5 l af H
     have HQ:=Hm (HP.o _ w5 v2 (bt.o _) l af H);have dh:=HQ.o.1.1;have dg:=HQ.o.1.2;obtain⟨cr,cq,rfl⟩:=Qh l;clear l af H))
   all_goals
    go_wp2_with fail
    go_roundw
    case rel=>exact⟨k+1,by omega,by go_num,by rw[ag.o];exact HQ.o.2⟩
    case measure=>simp[intOf];omega
 obtain rfl:k=N md.globs:=by omega
 rw[Pf]at m;have dc:cxF md=⟨md.types,f,d,N G0,QZ md 1 (N md.imps)+N md.tabs,QZ md 2 (N md.imps)+N md.mems⟩:=by simp only[cxF,cxA,Pf];rw[dm.o.1,m,bs.o.1,bs.o.2.1]
 have hv:cxV (cxF md) ⟨(S A.a1 (N md.types) A.c1),S E (N f) C,S X (N d) R,fcs⟩=Ag #[(S A.a1 (N md.types) A.c1),S E (N f) C,S X (N d) R,U O im,U O tb,U O mm]:=by rw[dc,dm.o.2,bs.o.2.2.1,bs.o.2.2.2,Nat.add_comm (N md.tabs),Nat.add_comm (N md.mems)]
 have HV:=Hm hv;have df:=fl.o;rw[fp.o]at df;have ak:Mo D w0 (box 66 6 (q+1) (#[S none 0 0,S none 0 0,S none 0 0,U O 0,U O 0,U O 0]:Array Vu).toList::box 66 6 p (xB (S A.a1 (N md.types) A.c1) (S E (N f) C) (S X (N d) R) im tb mm)::⟨148,2,N f,S E (N f) C,fcs⟩::⟨145,2,N d,S X (N d) R,gCs d⟩::bm::ks) wr:=by
  have h:=a;rw[df]at h;refine h.perm ?_;classical
  rw[Th];intro x;simp[Hd];omega
 obtain⟨gi,f8⟩:=ak.b0 0 (u:=S none 0 0);obtain⟨gh,f7⟩:=ak.b0 1 (u:=S none 0 0);obtain⟨gg,f6⟩:=ak.b0 2 (u:=S none 0 0);obtain⟨gf,f5⟩:=ak.b0 3 (u:=U O 0);obtain⟨gb,f4⟩:=ak.b0 4 (u:=U O 0);obtain⟨f9,f3⟩:=ak.b0 5 (u:=U O 0);have p0:=(a.b0 0 (u:=(S A.a1 (N md.types) A.c1))).1;have HF:=Hm (put6m ak rfl (S A.a1 (N md.types) A.c1) (S E (N f) C) (S X (N d) R) (U O im) (U O tb) (U O mm));have fo:Hid (∀rs:List Qc,(⟨148,2,N f,S E (N f) C,fcs⟩:Qc)∈rs->(⟨145,2,N d,S X (N d) R,gCs d⟩:Qc)∈rs->CtR D w0 (cxF md) ⟨(S A.a1 (N md.types) A.c1),S E (N f) C,S X (N d) R,fcs⟩ rs):=λrs h1 h2=>by rw[dc];exact⟨⟨_,_,rfl,ftl_of ab.o⟩,h1,B,h2⟩
 clear dc hv m ak df di bs dm;clear a B j g c;go_wp2;refine Qv (λL=>Mo D w0 (box 66 6 (q+1) [(S A.a1 (N md.types) A.c1),S E (N f) C,S X (N d) R,U O im,U O tb,U O mm]::box 66 6 p (xB (S A.a1 (N md.types) A.c1) (S E (N f) C) (S X (N d) R) im tb mm)::⟨148,2,N f,S E (N f) C,fcs⟩::⟨145,2,N d,S X (N d) R,gCs d⟩::bm::ks) L) HF.o ?_;intro L aq;have u0:=(aq.b0 0 (u:=(S A.a1 (N md.types) A.c1))).1;have u1:=(aq.b0 1 (u:=S E (N f) C)).1;have u2:=(aq.b0 2 (u:=S X (N d) R)).1;have u3:=(aq.b0 3 (u:=U O im)).1;have u4:=(aq.b0 4 (u:=U O tb)).1;have u5:=(aq.b0 5 (u:=U O mm)).1;exact bodyPost_ret (v:=Ag #[(S A.a1 (N md.types) A.c1),S E (N f) C,S X (N d) R,U O im,U O tb,U O mm]) (by simp[results,results21,go_sem,u0,u1,u2,u3,u4,u5]) rfl ⟨_,[_,_,_,_,_],by rw[HV.o],aq,fo.o _ (by simp) (by simp)⟩
def Cl (W:J)(g o:Nat)(cs:List Vu):Prop:=∀j u,cs[j]?=some u->W.cell? ⟨g,o+j,none⟩=some u
def setL (W:J)(g o:Nat):List Vu->J
 |[]=>W
 |u::us=>setL (W.setCell ⟨g,o,none⟩ u) g (o+1) us
theorem JM {B:Nat}(a:g<B):∀(cs:List Vu) (W:J) (o:Nat),Up B W (setL W g o cs)
 |[],W,o=>λ_ _ _=>rfl
 |u::us,W,o=>(Q5 a).size_trans (JM a us _ (o+1)) (by simp)
theorem setL_below {D:Nat}(a:D<=g):∀(cs:List Vu) {W:J} (o:Nat),Below D w W->Below D w (setL W g o cs)
 |[],W,o,h=>h
 |u::us,W,o,h=>setL_below a us (o+1) (h.setCell a _)
theorem setL_off {i:Nat}{x:Vu}:∀(cs:List Vu) {W:J} (o:Nat),(i<o\/o+N cs<=i)->W.cell? ⟨g,i,none⟩=some x->(setL W g o cs).cell? ⟨g,i,none⟩=some x
 |[],W,o,_,h=>h
 |u::us,W,o,hi,h=>setL_off us (o+1) (by simp at hi;omega) (QE h (by simp at hi;omega))
theorem setL_same:∀(cs:List Vu) {W:J} (o:Nat),(∀j,j<N cs->∃u,W.cell? ⟨g,o+j,none⟩=some u)->Cl (setL W g o cs) g o cs
 |[],W,o,_,j,u,h=>by simp at h
 |u::us,W,o,he,j,v,h=>by
  obtain⟨d,c⟩:=he 0 (by simp)
  cases j with
  |zero=>cases h;exact setL_off us (o+1) (.inl (by omega)) (QY c)
  |succ j =>
   have:=setL_same us (W:=W.setCell ⟨g,o,none⟩ u) (o+1) (fun i hi=>by
    obtain⟨a,b⟩:=he (i+1) (by simpa using hi)
    exact⟨a,QE (by rw[show o+1+i=o+(i+1) by omega];exact b) (by omega)⟩) j v (by simpa using h)
   rw[show o+(j+1)=o+1+j by omega]
   exact this
theorem setL_blk {n t:Nat}:∀(cs:List Vu) {W:J} (o:Nat),(∃cur,W.heap[g]?=some (Fc cur t (0,0))/\cur.size=n)->∃cur,(setL W g o cs).heap[g]?=some (Fc cur t (0,0))/\cur.size=n
 |[],W,o,h=>h
 | u::us,W,o,⟨cur,e,hc⟩=>setL_blk us (o+1) ⟨cur.setIfInBounds o u,by
     simp only[World.setCell,Array.getElem?_modify,if_true,e,Option.map_some];rfl,by simpa using hc⟩
structure Cp {R:Type}(P:Nat->J->R->List Vu->Prop)(z:R)(sz t:Nat)(w:J)(g n k:Nat)(xs:List R)(W:J):Prop where
 blk:∃cur,W.heap[g]?=some (Fc cur t (0,0))/\cur.size=n*sz
 done:∀i,i<k->∃cs,N cs=sz/\Cl W g (i*sz) cs/\P (g+1) W (xs.getD i z) cs
 bel:Below w.heap.size w W
 ge:w.heap.size<=g
section
variable {R:Type}{P:Nat->J->R->List Vu->Prop}{z:R}{sz t:Nat}{w W W1:J}{g n k:Nat}{xs:List R}
theorem Cp.start {a:Array Vu}(b:(madeCells a (n*sz)).size=n*sz):Cp P z sz t w w.heap.size n 0 xs (w.alloc (Fc (madeCells a (n*sz)) t)):=⟨⟨_,heap_new _ _,b⟩,λi hi=>by omega,bFz.alloc lRz _,lRz⟩
theorem Cp.cells (h:Cp P z sz t w g n k xs W):g<W.heap.size/\(∀j,j<n*sz->∃u,W.cell? ⟨g,j,none⟩=some u)/\∀j,W.frozen? ⟨g,j,none⟩=false:=by
 obtain⟨a,e,d⟩:=h.blk;have c:g<W.heap.size:=by
  rcases Nat.lt_or_ge g W.heap.size with b|b
  . exact b
  rw[Array.getElem?_eq_none b]at e;cases e
 refine⟨c,λj hj=>?_,λj=>?_⟩
 . simp only[World.cell?,e];exact⟨a[j]'(by omega),by simp[show j<a.size by omega]⟩
 simp only[World.frozen?,e];simp
theorem Cp.keep (l:∀B w w' x b,P B w x b->Up B w w'->P B w' x b)(h:Cp P z sz t w g n k xs W)(a:Below W.heap.size W W1):Cp P z sz t w g n k xs W1:=by
 obtain⟨c,e,f⟩:=h.blk;have d:=h.cells.1;refine⟨⟨c,(a.block g d).trans e,f⟩,λi hi=>?_,h.bel.trans (a.mono h.bel.size),h.ge⟩;obtain⟨b,q,o,m⟩:=h.done i hi;exact⟨b,q,λj u hu=>(a.cell (p:=⟨g,i*sz+j,none⟩) d).trans (o j u hu),l _ _ _ _ _ m (Qa a)⟩
theorem Cp.step (c:∀B w w' x cs,P B w x cs->Up B w w'->P B w' x cs)(h:Cp P z sz t w g n k xs W)(m:k<n)(cs:List Vu)(p:N cs=sz)(f:P (g+1) W (xs.getD k z) cs):Cp P z sz t w g n (k+1) xs (setL W g (k*sz) cs):=by
 obtain⟨v,b,_⟩:=h.cells;have l:k*sz+sz<=n*sz:=by rw[<- Nat.succ_mul];exact Nat.mul_le_mul_right _ m
 refine⟨setL_blk cs _ h.blk,λi hi=>?_,setL_below h.ge cs _ h.bel,h.ge⟩;by_cases a:i=k
 . subst a;exact⟨cs,p,setL_same cs _ (λj o=>b _ (by omega)),c _ _ _ _ _ f (JM (If g) cs _ _)⟩
 obtain⟨s,d,r,q⟩:=h.done i (by omega);refine⟨s,d,λj u hu=>setL_off cs _ (.inl ?_) (r j u hu),c _ _ _ _ _ q (JM (If g) cs _ _)⟩;have o:j<sz:=by rw[<- d];exact(List.getElem?_eq_some_iff.1 hu).1
 have:i*sz+sz<=k*sz:=by rw[<- Nat.succ_mul];exact Nat.mul_le_mul_right _ (by omega)
 omega
theorem XP {P:Program}{d e a:Nat}{j:Array Vu}(l:P.underlying d=some (.slice e))(q:(P.info? e).map (λi=>(i.zero,i.size,i.bytes))=some (some (Ag j),sz,a))(g:a<=1024)(n:Nat)(hn:n<=1048576)(w:J):(Instr.makeSlice d (U O (n:Int)) (U O (n:Int))).run P w=.ok (S (some ⟨w.heap.size,0,none⟩) n n) (w.alloc (Fc (madeCells j (n*sz)) e)):=by
 obtain⟨i,o,b⟩:=Option.map_eq_some_iff.1 q;simp only[Prod.mk.injEq]at b;obtain⟨k,m,p⟩:=b;have r:n*a<=1048576*1024:=Nat.mul_le_mul hn g;have c:((n*a:Nat):Int)<=1073741824:=by omega
 rw[Int.natCast_mul]at c;have f:=c;rw[Int.mul_comm]at f;have:=run_make (P:=P) w d e i _ l o k O O n n (by omega) (by omega) (by rw[p];omega) (by omega);rw[m]at this;simpa[Value.cells]using this
end
theorem bgen {P:Program}{b:Func}{d:Ending->J->Prop}{c:Exit}{a:Act}{w0:J}(R:J->Prop)(f:R w0)(h:∀W,R W->bodyPost P b d c a W):bodyPost P b d c a w0:=h w0 f
theorem upS {B j:Nat}{V W}{u:Vu}(a:Below V.heap.size V W)(b:g<B):Up B V (W.setCell ⟨g,j,none⟩ u):=(Qa a).size_trans (Q5 b) a.size
theorem upT {B V W X}(h:Up B V W)(a:V.heap.size<=W.heap.size)(k:Up B W X):Up B V X:=h.size_trans k a
theorem toLimits_c (x:Qg)(w:J)(H:Qg.Is 0 w x )(F:Qg.LB 1048576 x):Ec Q 71 #[Ag #[U O x.min,U O x.max,G x.has]] w λe w'=>e=Z (Ag #[U O x.min,U O x.max,G x.has])/\Qg.Is w.heap.size w' x /\Below w.heap.size w w':=by
 obtain⟨q,m⟩:∃q,q=w.heap.size:=⟨_,rfl⟩;obtain⟨k,c⟩:∃V,V=((w.alloc (Fc #[U O x.min,U O x.max,G x.has] 103)).alloc (Fc #[U O 0,U O 0,G false] 144)).alloc (Fc #[U O 0,U O 0,G false] 144):=⟨_,rfl⟩;have f:Mo w.heap.size w [box 144 3 (q+2) [U O 0,U O 0,G false],box 144 3 (q+1) [U O 0,U O 0,G false],box 103 3 q [U O x.min,U O x.max,G x.has]] k:=by have I:Mo w.heap.size w [] w:=⟨Own.nil _ _,bFz,lRz⟩;have:=((I.box (cur:=#[U O x.min,U O x.max,G x.has]) 103 3 rfl).box (cur:=#[U O 0,U O 0,G false]) 144 3 rfl).box (cur:=#[U O 0,U O 0,G false]) 144 3 rfl;rw[c,m];simpa using this
 have D:q+3<=k.heap.size:=by rw[c,m];simp
 have E:w.heap.size<=q+3:=by omega
 clear H F;go_enter func71,ntmps71;go_upto_region 2 with fail
 rw[<- c,<- m];clear c m;have d:=(f.tail.tail.b0 0 (u:=U O x.min)).1;obtain⟨z,y⟩:=f.b0 0 (u:=U O 0);obtain⟨V1,c⟩:∃V,V=k.setCell ⟨q+2,0,none⟩ (U O x.min):=⟨_,rfl⟩;have a:=f.set 0 (U O x.min);rw[<- c]at a;have U0:Hid (Up (q+3) k V1):=by rw[c];exact upS bFz (by omega)
 have C:k.heap.size<=V1.heap.size:=by rw[c];simp
 go_upto_region 3 with fail
 rw[<- c];clear c f d z y;have f:=a;clear a;have d:=(f.tail.tail.b0 1 (u:=U O x.max)).1;obtain⟨z,y⟩:=f.b0 1 (u:=U O 0);obtain⟨j,c⟩:∃V,V=V1.setCell ⟨q+2,1,none⟩ (U O x.max):=⟨_,rfl⟩;have a:=f.set 1 (U O x.max);rw[<- c]at a;have U1:Hid (Up (q+3) V1 j):=by rw[c];exact upS bFz (by omega)
 have B:V1.heap.size<=j.heap.size:=by rw[c];simp
 go_upto_region 4 with fail
 rw[<- c];clear c f d z y;have f:=a;clear a;have d:=(f.tail.tail.b0 2 (u:=G x.has)).1;obtain⟨z,y⟩:=f.b0 2 (u:=G false);obtain⟨p,c⟩:∃V,V=j.setCell ⟨q+2,2,none⟩ (G x.has):=⟨_,rfl⟩;have a:=f.set 2 (G x.has);rw[<- c]at a;have U2:Hid (Up (q+3) j p):=by rw[c];exact upS bFz (by omega)
 have A:j.heap.size<=p.heap.size:=by rw[c];simp
 go_upto_region 5 with fail
 rw[<- c];clear c f d z y;have f:=a;clear a;have g:=f.perm (Tw _ _ _);have k0:=(f.b0 0 (u:=U O x.min)).1;obtain⟨X,y0⟩:=g.b0 0 (u:=U O 0);have k1:=(f.b0 1 (u:=U O x.max)).1;obtain⟨R,y1⟩:=g.b0 1 (u:=U O 0);have k2:=(f.b0 2 (u:=G x.has)).1;obtain⟨M,Y⟩:=g.b0 2 (u:=G false);have L:=Hm (((g.set 0 (U O x.min)).set 1 (U O x.max)).set 2 (G x.has));clear g f;go_wp2;refine bgen (λn=>Mo w.heap.size w [box 144 3 (q+1) [U O x.min,U O x.max,G x.has],box 144 3 (q+2) [U O x.min,U O x.max,G x.has],box 103 3 q [U O x.min,U O x.max,G x.has]] n) L.o ?_;intro n l;have t:=(l.b0 0 (u:=U O x.min)).1;have s:=(l.b0 1 (u:=U O x.max)).1;have r:=(l.b0 2 (u:=G x.has)).1;exact bodyPost_ret (v:=Ag #[U O x.min,U O x.max,G x.has]) (by simp[results,results71,go_sem,t,s,r]) rfl ⟨rfl,trivial,l.b⟩
theorem toGType_c (x:Qx)(w:J)(D:Qx.Is 0 w x )(C:Qx.LB 1048576 x):Ec Q 106 #[Ag #[U O x.ty,G x.mu]] w λe w'=>e=Z (Ag #[U O x.ty,G x.mu])/\Qx.Is w.heap.size w' x /\Below w.heap.size w w':=by
 obtain⟨q,k⟩:∃q,q=w.heap.size:=⟨_,rfl⟩;obtain⟨g,a⟩:∃V,V=((w.alloc (Fc #[U O x.ty,G x.mu] 105)).alloc (Fc #[U O 0,G false] 145)).alloc (Fc #[U O 0,G false] 145):=⟨_,rfl⟩;have f:Mo w.heap.size w [box 145 2 (q+2) [U O 0,G false],box 145 2 (q+1) [U O 0,G false],box 105 2 q [U O x.ty,G x.mu]] g:=by have E:Mo w.heap.size w [] w:=⟨Own.nil _ _,bFz,lRz⟩;have:=((E.box (cur:=#[U O x.ty,G x.mu]) 105 2 rfl).box (cur:=#[U O 0,G false]) 145 2 rfl).box (cur:=#[U O 0,G false]) 145 2 rfl;rw[a,k];simpa using this
 have A:q+3<=g.heap.size:=by rw[a,k];simp
 have B:w.heap.size<=q+3:=by omega
 clear D C;go_enter func106,ntmps106;go_upto_region 2 with fail
 rw[<- a,<- k];clear a k;have d:=(f.tail.tail.b0 0 (u:=U O x.ty)).1;obtain⟨z,y⟩:=f.b0 0 (u:=U O 0);obtain⟨V1,a⟩:∃V,V=g.setCell ⟨q+2,0,none⟩ (U O x.ty):=⟨_,rfl⟩;have c:=f.set 0 (U O x.ty);rw[<- a]at c;have U0:Hid (Up (q+3) g V1):=by rw[a];exact upS bFz (by omega)
 have t:g.heap.size<=V1.heap.size:=by rw[a];simp
 go_upto_region 3 with fail
 rw[<- a];clear a f d z y;have f:=c;clear c;have d:=(f.tail.tail.b0 1 (u:=G x.mu)).1;obtain⟨z,y⟩:=f.b0 1 (u:=G false);obtain⟨n,a⟩:∃V,V=V1.setCell ⟨q+2,1,none⟩ (G x.mu):=⟨_,rfl⟩;have c:=f.set 1 (G x.mu);rw[<- a]at c;have Y:Hid (Up (q+3) V1 n):=by rw[a];exact upS bFz (by omega)
 have s:V1.heap.size<=n.heap.size:=by rw[a];simp
 go_upto_region 4 with fail
 rw[<- a];clear a f d z y;have f:=c;clear c;have j:=f.perm (Tw _ _ _);have X:=(f.b0 0 (u:=U O x.ty)).1;obtain⟨I,M⟩:=j.b0 0 (u:=U O 0);have R:=(f.b0 1 (u:=G x.mu)).1;obtain⟨H,L⟩:=j.b0 1 (u:=G false);have F:=Hm ((j.set 0 (U O x.ty)).set 1 (G x.mu));clear j f;go_wp2;refine bgen (λm=>Mo w.heap.size w [box 145 2 (q+1) [U O x.ty,G x.mu],box 145 2 (q+2) [U O x.ty,G x.mu],box 105 2 q [U O x.ty,G x.mu]] m) F.o ?_;intro m l;have r:=(l.b0 0 (u:=U O x.ty)).1;have p:=(l.b0 1 (u:=G x.mu)).1;exact bodyPost_ret (v:=Ag #[U O x.ty,G x.mu]) (by simp[results,results106,go_sem,r,p]) rfl ⟨rfl,trivial,l.b⟩
theorem toGrp_c (x:Grp)(w:J)(E:Grp.Is 0 w x )(D:Grp.LB 1048576 x):Ec Q 157 #[Ag #[U O x.n,U O x.ty]] w λe w'=>e=Z (Ag #[U O x.n,U O x.ty])/\Grp.Is w.heap.size w' x /\Below w.heap.size w w':=by
 obtain⟨q,k⟩:∃q,q=w.heap.size:=⟨_,rfl⟩;obtain⟨g,a⟩:∃V,V=((w.alloc (Fc #[U O x.n,U O x.ty] 276)).alloc (Fc #[U O 0,U O 0] 207)).alloc (Fc #[U O 0,U O 0] 207):=⟨_,rfl⟩;have f:Mo w.heap.size w [box 207 2 (q+2) [U O 0,U O 0],box 207 2 (q+1) [U O 0,U O 0],box 276 2 q [U O x.n,U O x.ty]] g:=by have F:Mo w.heap.size w [] w:=⟨Own.nil _ _,bFz,lRz⟩;have:=((F.box (cur:=#[U O x.n,U O x.ty]) 276 2 rfl).box (cur:=#[U O 0,U O 0]) 207 2 rfl).box (cur:=#[U O 0,U O 0]) 207 2 rfl;rw[a,k];simpa using this
 have B:q+3<=g.heap.size:=by rw[a,k];simp
 have C:w.heap.size<=q+3:=by omega
 clear E D;go_enter func157,ntmps157;go_upto_region 2 with fail
 rw[<- a,<- k];clear a k;have d:=(f.tail.tail.b0 0 (u:=U O x.n)).1;obtain⟨z,y⟩:=f.b0 0 (u:=U O 0);obtain⟨V1,a⟩:∃V,V=g.setCell ⟨q+2,0,none⟩ (U O x.n):=⟨_,rfl⟩;have c:=f.set 0 (U O x.n);rw[<- a]at c;have U0:Hid (Up (q+3) g V1):=by rw[a];exact upS bFz (by omega)
 have A:g.heap.size<=V1.heap.size:=by rw[a];simp
 go_upto_region 3 with fail
 rw[<- a];clear a f d z y;have f:=c;clear c;have d:=(f.tail.tail.b0 1 (u:=U O x.ty)).1;obtain⟨z,y⟩:=f.b0 1 (u:=U O 0);obtain⟨p,a⟩:∃V,V=V1.setCell ⟨q+2,1,none⟩ (U O x.ty):=⟨_,rfl⟩;have c:=f.set 1 (U O x.ty);rw[<- a]at c;have U1:Hid (Up (q+3) V1 p):=by rw[a];exact upS bFz (by omega)
 have t:V1.heap.size<=p.heap.size:=by rw[a];simp
 go_upto_region 4 with fail
 rw[<- a];clear a f d z y;have f:=c;clear c;have j:=f.perm (Tw _ _ _);have Y:=(f.b0 0 (u:=U O x.n)).1;obtain⟨L,R⟩:=j.b0 0 (u:=U O 0);have X:=(f.b0 1 (u:=U O x.ty)).1;obtain⟨I,M⟩:=j.b0 1 (u:=U O 0);have H:=Hm ((j.set 0 (U O x.n)).set 1 (U O x.ty));clear j f;go_wp2;refine bgen (λm=>Mo w.heap.size w [box 207 2 (q+1) [U O x.n,U O x.ty],box 207 2 (q+2) [U O x.n,U O x.ty],box 276 2 q [U O x.n,U O x.ty]] m) H.o ?_;intro m l;have s:=(l.b0 0 (u:=U O x.n)).1;have r:=(l.b0 1 (u:=U O x.ty)).1;exact bodyPost_ret (v:=Ag #[U O x.n,U O x.ty]) (by simp[results,results157,go_sem,s,r]) rfl ⟨rfl,trivial,l.b⟩
theorem toIn_c (x:In)(k:Option Addr)(c1:Nat)(w:J)(Y:In.Is 0 w x k)(X:In.LB 1048576 x):Ec Q 156 #[Ag #[U O x.op,U O x.a,U O x.b,U Ou x.v,S k (N x.l) c1]] w λe w'=>∃j,e=Z (Ag #[U O x.op,U O x.a,U O x.b,U Ou x.v,S (some ⟨j,0,none⟩) (N x.l) (N x.l)])/\In.Is w.heap.size w' x (some ⟨j,0,none⟩)/\Below w.heap.size w w':=by
 obtain⟨q,E⟩:∃q,q=w.heap.size:=⟨_,rfl⟩;obtain⟨D,f⟩:∃V,V=((w.alloc (Fc #[U O x.op,U O x.a,U O x.b,U Ou x.v,S k (N x.l) c1] 259)).alloc (Fc #[U O 0,U O 0,U O 0,U Ou 0,S none 0 0] 204)).alloc (Fc #[U O 0,U O 0,U O 0,U Ou 0,S none 0 0] 204):=⟨_,rfl⟩;have g:Mo w.heap.size w [box 204 5 (q+2) [U O 0,U O 0,U O 0,U Ou 0,S none 0 0],box 204 5 (q+1) [U O 0,U O 0,U O 0,U Ou 0,S none 0 0],box 259 5 q [U O x.op,U O x.a,U O x.b,U Ou x.v,S k (N x.l) c1]] D:=by have h0:Mo w.heap.size w [] w:=⟨Own.nil _ _,bFz,lRz⟩;have:=((h0.box (cur:=#[U O x.op,U O x.a,U O x.b,U Ou x.v,S k (N x.l) c1]) 259 5 rfl).box (cur:=#[U O 0,U O 0,U O 0,U Ou 0,S none 0 0]) 204 5 rfl).box (cur:=#[U O 0,U O 0,U O 0,U Ou 0,S none 0 0]) 204 5 rfl;rw[f,E];simpa using this
 have aq:q+3<=D.heap.size:=by rw[f,E];simp
 have F:w.heap.size<=q+3:=by omega
 have HI:=Hm Y;have HL:=Hm X;clear Y X;go_enter func156,ntmps156;go_upto_region 2 with fail
 rw[<- f,<- E];clear f E;have d:=(g.tail.tail.b0 0 (u:=U O x.op)).1;obtain⟨z,y⟩:=g.b0 0 (u:=U O 0);obtain⟨V1,f⟩:∃V,V=D.setCell ⟨q+2,0,none⟩ (U O x.op):=⟨_,rfl⟩;have c:=g.set 0 (U O x.op);rw[<- f]at c;have U0:Hid (Up (q+3) D V1):=by rw[f];exact upS bFz (by omega)
 have ap:D.heap.size<=V1.heap.size:=by rw[f];simp
 go_upto_region 3 with fail
 rw[<- f];clear f g d z y;have g:=c;clear c;have d:=(g.tail.tail.b0 1 (u:=U O x.a)).1;obtain⟨z,y⟩:=g.b0 1 (u:=U O 0);obtain⟨C,f⟩:∃V,V=V1.setCell ⟨q+2,1,none⟩ (U O x.a):=⟨_,rfl⟩;have c:=g.set 1 (U O x.a);rw[<- f]at c;have U1:Hid (Up (q+3) V1 C):=by rw[f];exact upS bFz (by omega)
 have ao:V1.heap.size<=C.heap.size:=by rw[f];simp
 go_upto_region 4 with fail
 rw[<- f];clear f g d z y;have g:=c;clear c;have d:=(g.tail.tail.b0 2 (u:=U O x.b)).1;obtain⟨z,y⟩:=g.b0 2 (u:=U O 0);obtain⟨A,f⟩:∃V,V=C.setCell ⟨q+2,2,none⟩ (U O x.b):=⟨_,rfl⟩;have c:=g.set 2 (U O x.b);rw[<- f]at c;have U2:Hid (Up (q+3) C A):=by rw[f];exact upS bFz (by omega)
 have ak:C.heap.size<=A.heap.size:=by rw[f];simp
 go_upto_region 5 with fail
 rw[<- f];clear f g d z y;have g:=c;clear c;have d:=(g.tail.tail.b0 3 (u:=U Ou x.v)).1;obtain⟨z,y⟩:=g.b0 3 (u:=U Ou 0);obtain⟨s,f⟩:∃V,V=A.setCell ⟨q+2,3,none⟩ (U Ou x.v):=⟨_,rfl⟩;have c:=g.set 3 (U Ou x.v);rw[<- f]at c;have U3:Hid (Up (q+3) A s):=by rw[f];exact upS bFz (by omega)
 have aj:A.heap.size<=s.heap.size:=by rw[f];simp
 go_upto_region 6 with fail
 rw[<- f];clear f g d z y;have g:=c;clear c;have d:=(g.tail.tail.b0 4 (u:=S k (N x.l) c1)).1;have M:=Hm (rtInts_c k c1 x.l s HL.o ((HI.o).up (Qa g.b)));obtain⟨j,I⟩:∃B,B=s.heap.size:=⟨_,rfl⟩;rw[<- I]at M;have H:q+3<=j:=by omega
 have HB:=Hm I;clear I;go_wp2_with fail
 refine M.o.mono ?_;rintro e W ⟨rfl,R,t⟩;rw[HB.o]at t;have n:=g.keep t;obtain⟨z,y⟩:=n.b0 4 (u:=S none 0 0);obtain⟨p,f⟩:∃V,V=W.setCell ⟨q+2,4,none⟩ (S (some ⟨j,0,none⟩) (N x.l) (N x.l)):=⟨_,rfl⟩;have c:=n.set 4 (S (some ⟨j,0,none⟩) (N x.l) (N x.l));rw[<- f]at c;have U4:Hid (Up (q+3) s p):=by rw[f];exact upS t (by omega)
 have ai:s.heap.size<=p.heap.size:=by rw[f];simpa using t.size
 have N1:=Hm ((R.mono H).up (show Up (q+3) W p by rw[f];exact Q5 (by omega)));clear g n t d R M HB;go_upto_region 7 with fail
 rw[<- f];clear f z y;have g:=c;clear c;have m:=g.perm (Tw _ _ _);have k0:=(g.b0 0 (u:=U O x.op)).1;obtain⟨z0,y0⟩:=m.b0 0 (u:=U O 0);have k1:=(g.b0 1 (u:=U O x.a)).1;obtain⟨z1,y1⟩:=m.b0 1 (u:=U O 0);have k2:=(g.b0 2 (u:=U O x.b)).1;obtain⟨z2,y2⟩:=m.b0 2 (u:=U O 0);have k3:=(g.b0 3 (u:=U Ou x.v)).1;obtain⟨z3,y3⟩:=m.b0 3 (u:=U Ou 0);have k4:=(g.b0 4 (u:=S (some ⟨j,0,none⟩) (N x.l) (N x.l))).1;obtain⟨z4,y4⟩:=m.b0 4 (u:=S none 0 0);have HF:=Hm (((((m.set 0 (U O x.op)).set 1 (U O x.a)).set 2 (U O x.b)).set 3 (U Ou x.v)).set 4 (S (some ⟨j,0,none⟩) (N x.l) (N x.l)));have F5:Up (q+3) p p:=λ_ _ _=>rfl;have M1:=Hm (N1.o.up F5);clear F5;clear m g;go_wp2;refine bgen (λL=>Mo w.heap.size w [box 204 5 (q+1) [U O x.op,U O x.a,U O x.b,U Ou x.v,S (some ⟨j,0,none⟩) (N x.l) (N x.l)],box 204 5 (q+2) [U O x.op,U O x.a,U O x.b,U Ou x.v,S (some ⟨j,0,none⟩) (N x.l) (N x.l)],box 259 5 q [U O x.op,U O x.a,U O x.b,U Ou x.v,S k (N x.l) c1]] L/\Up (q+3) p L) ⟨HF.o,JM (by omega) [U O x.op,U O x.a,U O x.b,U Ou x.v,S (some ⟨j,0,none⟩) (N x.l) (N x.l)] p 0⟩ ?_;rintro L ⟨r,hu⟩;have u0:=(r.b0 0 (u:=U O x.op)).1;have u1:=(r.b0 1 (u:=U O x.a)).1;have u2:=(r.b0 2 (u:=U O x.b)).1;have u3:=(r.b0 3 (u:=U Ou x.v)).1;have u4:=(r.b0 4 (u:=S (some ⟨j,0,none⟩) (N x.l) (N x.l))).1;exact bodyPost_ret (v:=Ag #[U O x.op,U O x.a,U O x.b,U Ou x.v,S (some ⟨j,0,none⟩) (N x.l) (N x.l)]) (by simp[results,results156,go_sem,u0,u1,u2,u3,u4]) rfl ⟨j,rfl,(M1.o.up hu).mono F,r.b⟩
theorem toFType_c (x:Qe)(n:Option Addr)(c1:Nat)(m:Option Addr)(c2:Nat)(w:J)(hI:Qe.Is 0 w x n m)(hl:Qe.LB 1048576 x):Ec Q 69 #[Ag #[S n (N x.ps) c1,S m (N x.rs) c2]] w λe w'=>∃k j,e=Z (Ag #[S (some ⟨k,0,none⟩) (N x.ps) (N x.ps),S (some ⟨j,0,none⟩) (N x.rs) (N x.rs)])/\Qe.Is w.heap.size w' x (some ⟨k,0,none⟩) (some ⟨j,0,none⟩)/\Below w.heap.size w w':=by
 obtain⟨q,E⟩:∃q,q=w.heap.size:=⟨_,rfl⟩;obtain⟨t,a⟩:∃V,V=((w.alloc (Fc #[S n (N x.ps) c1,S m (N x.rs) c2] 100)).alloc (Fc #[S none 0 0,S none 0 0] 148)).alloc (Fc #[S none 0 0,S none 0 0] 148):=⟨_,rfl⟩;have g:Mo w.heap.size w [box 148 2 (q+2) [S none 0 0,S none 0 0],box 148 2 (q+1) [S none 0 0,S none 0 0],box 100 2 q [S n (N x.ps) c1,S m (N x.rs) c2]] t:=by have h0:Mo w.heap.size w [] w:=⟨Own.nil _ _,bFz,lRz⟩;have:=((h0.box (cur:=#[S n (N x.ps) c1,S m (N x.rs) c2]) 100 2 rfl).box (cur:=#[S none 0 0,S none 0 0]) 148 2 rfl).box (cur:=#[S none 0 0,S none 0 0]) 148 2 rfl;rw[a,E];simpa using this
 have ai:q+3<=t.heap.size:=by rw[a,E];simp
 have A:w.heap.size<=q+3:=by omega
 have HI:=Hm hI;have HL:=Hm hl;clear hI hl;go_enter func69,ntmps69;go_upto_region 2 with fail
 rw[<- a,<- E];clear a E;have d:=(g.tail.tail.b0 0 (u:=S n (N x.ps) c1)).1;have s:=Hm (rtInts_c n c1 x.ps t HL.o.1 ((HI.o.1).up (Qa g.b)));obtain⟨k,p⟩:∃B,B=t.heap.size:=⟨_,rfl⟩;rw[<- p]at s;have L:q+3<=k:=by omega
 have C:=Hm p;clear p;go_wp2_with fail
 refine s.o.mono ?_;rintro e W ⟨rfl,Y,l⟩;rw[C.o]at l;have c:=g.keep l;obtain⟨z,y⟩:=c.b0 0 (u:=S none 0 0);obtain⟨V1,a⟩:∃V,V=W.setCell ⟨q+2,0,none⟩ (S (some ⟨k,0,none⟩) (N x.ps) (N x.ps)):=⟨_,rfl⟩;have f:=c.set 0 (S (some ⟨k,0,none⟩) (N x.ps) (N x.ps));rw[<- a]at f;have U0:Hid (Up (q+3) t V1):=by rw[a];exact upS l (by omega)
 have ah:t.heap.size<=V1.heap.size:=by rw[a];simpa using l.size
 have N1:=Hm ((Y.mono L).up (show Up (q+3) W V1 by rw[a];exact Q5 (by omega)));clear g c l d Y s C;go_upto_region 3 with fail
 rw[<- a];clear a z y;have g:=f;clear f;have d:=(g.tail.tail.b0 1 (u:=S m (N x.rs) c2)).1;have s:=Hm (rtInts_c m c2 x.rs V1 HL.o.2 ((HI.o.2).up (Qa g.b)));obtain⟨j,p⟩:∃B,B=V1.heap.size:=⟨_,rfl⟩;rw[<- p]at s;have I:q+3<=j:=by omega
 have C:=Hm p;clear p;go_wp2_with fail
 refine s.o.mono ?_;rintro e W ⟨rfl,X,l⟩;rw[C.o]at l;have c:=g.keep l;obtain⟨z,y⟩:=c.b0 1 (u:=S none 0 0);obtain⟨r,a⟩:∃V,V=W.setCell ⟨q+2,1,none⟩ (S (some ⟨j,0,none⟩) (N x.rs) (N x.rs)):=⟨_,rfl⟩;have f:=c.set 1 (S (some ⟨j,0,none⟩) (N x.rs) (N x.rs));rw[<- a]at f;have U1:Hid (Up (q+3) V1 r):=by rw[a];exact upS l (by omega)
 have H:V1.heap.size<=r.heap.size:=by rw[a];simpa using l.size
 have N2:=Hm ((X.mono I).up (show Up (q+3) W r by rw[a];exact Q5 (by omega)));clear g c l d X s C;go_upto_region 4 with fail
 rw[<- a];clear a z y;have g:=f;clear f;have D:=g.perm (Tw _ _ _);have k0:=(g.b0 0 (u:=S (some ⟨k,0,none⟩) (N x.ps) (N x.ps))).1;obtain⟨z0,y0⟩:=D.b0 0 (u:=S none 0 0);have k1:=(g.b0 1 (u:=S (some ⟨j,0,none⟩) (N x.rs) (N x.rs))).1;obtain⟨z1,y1⟩:=D.b0 1 (u:=S none 0 0);have HF:=Hm ((D.set 0 (S (some ⟨k,0,none⟩) (N x.ps) (N x.ps))).set 1 (S (some ⟨j,0,none⟩) (N x.rs) (N x.rs)));have R:Up (q+3) r r:=λ_ _ _=>rfl;have F1:=upT U1.o H R;have M1:=Hm (N1.o.up F1);have M2:=Hm (N2.o.up R);clear F1 R;clear D g;go_wp2;refine bgen (λM=>Mo w.heap.size w [box 148 2 (q+1) [S (some ⟨k,0,none⟩) (N x.ps) (N x.ps),S (some ⟨j,0,none⟩) (N x.rs) (N x.rs)],box 148 2 (q+2) [S (some ⟨k,0,none⟩) (N x.ps) (N x.ps),S (some ⟨j,0,none⟩) (N x.rs) (N x.rs)],box 100 2 q [S n (N x.ps) c1,S m (N x.rs) c2]] M/\Up (q+3) r M) ⟨HF.o,JM (by omega) [S (some ⟨k,0,none⟩) (N x.ps) (N x.ps),S (some ⟨j,0,none⟩) (N x.rs) (N x.rs)] r 0⟩ ?_;rintro M ⟨F,hu⟩;have u0:=(F.b0 0 (u:=S (some ⟨k,0,none⟩) (N x.ps) (N x.ps))).1;have u1:=(F.b0 1 (u:=S (some ⟨j,0,none⟩) (N x.rs) (N x.rs))).1;exact bodyPost_ret (v:=Ag #[S (some ⟨k,0,none⟩) (N x.ps) (N x.ps),S (some ⟨j,0,none⟩) (N x.rs) (N x.rs)]) (by simp[results,results69,go_sem,u0,u1]) rfl ⟨k,j,rfl,⟨(M1.o.up hu).mono A,(M2.o.up hu).mono A⟩,F.b⟩
def PIn (B:Nat)(w:J)(x:In)(cs:List Vu):Prop:=∃a1 c1,cs=[U O x.op,U O x.a,U O x.b,U Ou x.v,S a1 (N x.l) c1]/\In.Is B w x a1
theorem PIn.up (B:Nat)(w a:J)(x:In)(cs:List Vu):PIn B w x cs->Up B w a->PIn B a x cs:=λ⟨a1,c1,e,h⟩ u=>⟨a1,c1,e,h.up u⟩
theorem PIn.ls {xs:List In}(h:Cp PIn I0 5 204 w g (N xs) (N xs) xs W):In.Ls g W (some ⟨g,0,none⟩) xs:=by
 refine .inr ⟨g,0,rfl,lRz,λi hi=>?_⟩;obtain⟨f,_,a,d,c,rfl,b⟩:=h.done i hi;rw[Hq];exact In.At.mono (show In.At (g+1) W g (i*5) (xs.getD i I0)from⟨d,c,⟨a 0 _ rfl,a 1 _ rfl,a 2 _ rfl,a 3 _ rfl,a 4 _ rfl⟩,b⟩) (Mk g)
theorem nfIn:(Q.info? 204).map (λi=>(i.zero,i.size,i.bytes))=some (some (Ag #[U O 0,U O 0,U O 0,U Ou 0,S none 0 0]),5,56):=by kernel_rfl
theorem toIns_c (a:Option Addr)(c:Nat)(xs:List In)(w:J)(X:N xs<=1048576/\∀i,i<N xs->In.LB 1048576 (xs.getD i I0))(B:In.Ls 0 w a xs):Ec Q 107 #[S a (N xs) c] w λe w'=>e=Z (S (some ⟨w.heap.size,0,none⟩) (N xs) (N xs))/\In.Ls w.heap.size w' (some ⟨w.heap.size,0,none⟩) xs/\Below w.heap.size w w':=by
 obtain⟨R,q⟩:=X;have r:=XP underlying132 nfIn (by omega) (N xs) R;have E:=Hm B;have Hl:=Hm q;have D:Hid (Cp PIn I0 5 204 w w.heap.size (N xs) 0 xs (w.alloc (Fc (madeCells #[U O 0,U O 0,U O 0,U Ou 0,S none 0 0] (N xs*5)) 204))):=Cp.start (by simp[madeCells]);clear B q;go_enter func107,ntmps107;go_wp2;go_loopw [4] (λi wr=>∃k:Nat,k<=N xs/\i=U O k/\Cp PIn I0 5 204 w w.heap.size (N xs) k xs wr) (λi _=>N xs-(intOf i).toNat)
 case atStart=>exact⟨0,Kz _,rfl,D.o⟩
 obtain⟨k,hk,rfl,g⟩:=hrel;clear D r;by_cases j:k<N xs
 . (have Y:(k:Int)<(N xs:Int):=by omega);rcases E.o.up (Qa g.bel)with p|⟨b,o,ea,_,z⟩
   . subst p;simp at j
   have n:=z k j;have m:=Hl.o k j;subst ea;obtain⟨x,p⟩:∃x,x=xs.getD k I0:=⟨_,rfl⟩;rw[<- p]at n m;obtain⟨a1,c1,⟨M,L,I,H,F⟩,y⟩:=n;have C:=Hm (toIn_c x a1 c1 wr y m);have HX:=Hm p;have t:=Hm g;clear p z g y E;(go_wp2_with fail);refine C.o.mono ?_;rintro e w1 ⟨b1,rfl,u,A⟩;have f:=t.o.keep PIn.up A;obtain⟨V,d,aa⟩:=f.cells;obtain⟨u0,e0⟩:=d (k*5) (by omega);obtain⟨u1,e1⟩:=d (k*5+1) (by omega);obtain⟨u2,e2⟩:=d (k*5+2) (by omega);obtain⟨u3,e3⟩:=d (k*5+3) (by omega);obtain⟨u4,e4⟩:=d (k*5+4) (by omega);have s:=Hm (f.step PIn.up j [U O x.op,U O x.a,U O x.b,U Ou x.v,S (some ⟨b1,0,none⟩) (N x.l) (N x.l)] rfl (by rw[<- HX.o];exact⟨_,_,rfl,u.mono (by have:=t.o.cells.1;omega)⟩));clear u A f d C t M L I H F;go_wp2;(go_roundw);(case rel=>exact⟨k+1,by omega,by go_num,s.o⟩);case measure=>simp[intOf];omega
 have e:k=N xs:=by omega
 subst e;go_wp2;go_ret;exact⟨rfl,PIn.ls g,g.bel⟩
def Xx (B:Nat)(w:J)(x:Qg)(cs:List Vu):Prop:=cs=[U O x.min,U O x.max,G x.has]/\Qg.Is B w x 
theorem Xx.up (B:Nat)(w a:J)(x:Qg)(cs:List Vu):Xx B w x cs->Up B w a->Xx B a x cs:=λ⟨e,h⟩ u=>⟨e,h.up u⟩
theorem Xx.ls {xs:List Qg}(h:Cp Xx Qg.z 3 144 w g (N xs) (N xs) xs W):Qg.Ls g W (some ⟨g,0,none⟩) xs:=by
 refine .inr ⟨g,0,rfl,lRz,λi hi=>?_⟩;obtain⟨c,_,b,rfl,a⟩:=h.done i hi;rw[Hq];exact Qg.At.mono (show Qg.At (g+1) W g (i*3) (xs.getD i Qg.z)from⟨⟨b 0 _ rfl,b 1 _ rfl,b 2 _ rfl⟩,a⟩) (Mk g)
theorem nfLimits:(Q.info? 144).map (λi=>(i.zero,i.size,i.bytes))=some (some (Ag #[U O 0,U O 0,G false]),3,24):=by kernel_rfl
theorem toLimitss_c (a:Option Addr)(c:Nat)(xs:List Qg)(w:J)(M:N xs<=1048576/\∀i,i<N xs->Qg.LB 1048576 (xs.getD i Qg.z))(A:Qg.Ls 0 w a xs):Ec Q 27 #[S a (N xs) c] w λe w'=>e=Z (S (some ⟨w.heap.size,0,none⟩) (N xs) (N xs))/\Qg.Ls w.heap.size w' (some ⟨w.heap.size,0,none⟩) xs/\Below w.heap.size w w':=by
 obtain⟨I,p⟩:=M;have q:=XP underlying40 nfLimits (by omega) (N xs) I;have D:=Hm A;have Y:=Hm p;have C:Hid (Cp Xx Qg.z 3 144 w w.heap.size (N xs) 0 xs (w.alloc (Fc (madeCells #[U O 0,U O 0,G false] (N xs*3)) 144))):=Cp.start (by simp[madeCells]);clear A p;go_enter func27,ntmps27;go_wp2;go_loopw [4] (λi wr=>∃k:Nat,k<=N xs/\i=U O k/\Cp Xx Qg.z 3 144 w w.heap.size (N xs) k xs wr) (λi _=>N xs-(intOf i).toNat)
 case atStart=>exact⟨0,Kz _,rfl,C.o⟩
 obtain⟨k,hk,rfl,f⟩:=hrel;clear C q;by_cases g:k<N xs
 . (have R:(k:Int)<(N xs:Int):=by omega);rcases D.o.up (Qa f.bel)with n|⟨b,o,X,_,v⟩
   . subst n;simp at g
   have m:=v k g;have l:=Y.o k g;subst X;obtain⟨x,n⟩:∃x,x=xs.getD k Qg.z:=⟨_,rfl⟩;rw[<- n]at m l;obtain⟨⟨H,F,E⟩,u⟩:=m;have B:=Hm (toLimits_c x  wr u l);have HX:=Hm n;have s:=Hm f;clear n v f u D;(go_wp2_with fail);refine B.o.mono ?_;rintro e w1 ⟨rfl,t,y⟩;have d:=s.o.keep Xx.up y;obtain⟨L,j,V⟩:=d.cells;obtain⟨u0,e0⟩:=j (k*3) (by omega);obtain⟨u1,e1⟩:=j (k*3+1) (by omega);obtain⟨u2,e2⟩:=j (k*3+2) (by omega);have r:=Hm (d.step Xx.up g [U O x.min,U O x.max,G x.has] rfl (by rw[<- HX.o];exact⟨rfl,t.mono (by have:=s.o.cells.1;omega)⟩));clear t y d j B s H F E;go_wp2;(go_roundw);(case rel=>exact⟨k+1,by omega,by go_num,r.o⟩);case measure=>simp[intOf];omega
 have e:k=N xs:=by omega
 subst e;go_wp2;go_ret;exact⟨rfl,Xx.ls f,f.bel⟩
def PGrp (B:Nat)(w:J)(x:Grp)(cs:List Vu):Prop:=cs=[U O x.n,U O x.ty]/\Grp.Is B w x 
theorem PGrp.up (B:Nat)(w a:J)(x:Grp)(cs:List Vu):PGrp B w x cs->Up B w a->PGrp B a x cs:=λ⟨e,h⟩ u=>⟨e,h.up u⟩
theorem PGrp.ls {xs:List Grp}(h:Cp PGrp Grp.z 2 207 w g (N xs) (N xs) xs W):Grp.Ls g W (some ⟨g,0,none⟩) xs:=by
 refine .inr ⟨g,0,rfl,lRz,λi hi=>?_⟩;obtain⟨c,_,b,rfl,a⟩:=h.done i hi;rw[Hq];exact Grp.At.mono (show Grp.At (g+1) W g (i*2) (xs.getD i Grp.z)from⟨⟨b 0 _ rfl,b 1 _ rfl⟩,a⟩) (Mk g)
theorem nfGrp:(Q.info? 207).map (λi=>(i.zero,i.size,i.bytes))=some (some (Ag #[U O 0,U O 0]),2,16):=by kernel_rfl
theorem toGrps_c (a:Option Addr)(c:Nat)(xs:List Grp)(w:J)(M:N xs<=1048576/\∀i,i<N xs->Grp.LB 1048576 (xs.getD i Grp.z))(B:Grp.Ls 0 w a xs):Ec Q 108 #[S a (N xs) c] w λe w'=>e=Z (S (some ⟨w.heap.size,0,none⟩) (N xs) (N xs))/\Grp.Ls w.heap.size w' (some ⟨w.heap.size,0,none⟩) xs/\Below w.heap.size w w':=by
 obtain⟨I,q⟩:=M;have r:=XP underlying136 nfGrp (by omega) (N xs) I;have E:=Hm B;have Y:=Hm q;have D:Hid (Cp PGrp Grp.z 2 207 w w.heap.size (N xs) 0 xs (w.alloc (Fc (madeCells #[U O 0,U O 0] (N xs*2)) 207))):=Cp.start (by simp[madeCells]);clear B q;go_enter func108,ntmps108;go_wp2;go_loopw [4] (λi wr=>∃k:Nat,k<=N xs/\i=U O k/\Cp PGrp Grp.z 2 207 w w.heap.size (N xs) k xs wr) (λi _=>N xs-(intOf i).toNat)
 case atStart=>exact⟨0,Kz _,rfl,D.o⟩
 obtain⟨k,hk,rfl,f⟩:=hrel;clear D r;by_cases g:k<N xs
 . (have R:(k:Int)<(N xs:Int):=by omega);rcases E.o.up (Qa f.bel)with p|⟨b,o,X,_,y⟩
   . subst p;simp at g
   have m:=y k g;have l:=Y.o k g;subst X;obtain⟨x,p⟩:∃x,x=xs.getD k Grp.z:=⟨_,rfl⟩;rw[<- p]at m l;obtain⟨⟨H,F⟩,v⟩:=m;have C:=Hm (toGrp_c x  wr v l);have HX:=Hm p;have t:=Hm f;clear p y f v E;(go_wp2_with fail);refine C.o.mono ?_;rintro e w1 ⟨rfl,u,A⟩;have d:=t.o.keep PGrp.up A;obtain⟨L,j,V⟩:=d.cells;obtain⟨u0,e0⟩:=j (k*2) (by omega);obtain⟨u1,e1⟩:=j (k*2+1) (by omega);have s:=Hm (d.step PGrp.up g [U O x.n,U O x.ty] rfl (by rw[<- HX.o];exact⟨rfl,u.mono (by have:=t.o.cells.1;omega)⟩));clear u A d j C t H F;go_wp2;(go_roundw);(case rel=>exact⟨k+1,by omega,by go_num,s.o⟩);case measure=>simp[intOf];omega
 have e:k=N xs:=by omega
 subst e;go_wp2;go_ret;exact⟨rfl,PGrp.ls f,f.bel⟩
def X5 (B:Nat)(w:J)(x:Qe)(cs:List Vu):Prop:=∃a1 c1 a2 c2,cs=[S a1 (N x.ps) c1,S a2 (N x.rs) c2]/\Qe.Is B w x a1 a2
theorem X5.up (B:Nat)(w a:J)(x:Qe)(cs:List Vu):X5 B w x cs->Up B w a->X5 B a x cs:=λ⟨a1,c1,a2,c2,e,h⟩ u=>⟨a1,c1,a2,c2,e,h.up u⟩
theorem X5.ls {xs:List Qe}(h:Cp X5 Qe.z 2 148 w g (N xs) (N xs) xs W):Qe.Ls g W (some ⟨g,0,none⟩) xs:=by
 refine .inr ⟨g,0,rfl,lRz,λi hi=>?_⟩;obtain⟨k,_,b,j,d,f,c,rfl,a⟩:=h.done i hi;rw[Hq];exact Qe.At.mono (show Qe.At (g+1) W g (i*2) (xs.getD i Qe.z)from⟨j,d,f,c,⟨b 0 _ rfl,b 1 _ rfl⟩,a⟩) (Mk g)
theorem nfFType:(Q.info? 148).map (λi=>(i.zero,i.size,i.bytes))=some (some (Ag #[S none 0 0,S none 0 0]),2,48):=by kernel_rfl
theorem toFTypes_c (a:Option Addr)(c:Nat)(xs:List Qe)(w:J)(L:N xs<=1048576/\∀i,i<N xs->Qe.LB 1048576 (xs.getD i Qe.z))(A:Qe.Ls 0 w a xs):Ec Q 24 #[S a (N xs) c] w λe w'=>e=Z (S (some ⟨w.heap.size,0,none⟩) (N xs) (N xs))/\Qe.Ls w.heap.size w' (some ⟨w.heap.size,0,none⟩) xs/\Below w.heap.size w w':=by
 obtain⟨H,p⟩:=L;have q:=XP underlying38 nfFType (by omega) (N xs) H;have D:=Hm A;have Hl:=Hm p;have C:Hid (Cp X5 Qe.z 2 148 w w.heap.size (N xs) 0 xs (w.alloc (Fc (madeCells #[S none 0 0,S none 0 0] (N xs*2)) 148))):=Cp.start (by simp[madeCells]);clear A p;go_enter func24,ntmps24;go_wp2;go_loopw [4] (λi wr=>∃k:Nat,k<=N xs/\i=U O k/\Cp X5 Qe.z 2 148 w w.heap.size (N xs) k xs wr) (λi _=>N xs-(intOf i).toNat)
 case atStart=>exact⟨0,Kz _,rfl,C.o⟩
 obtain⟨k,hk,rfl,f⟩:=hrel;clear C q;by_cases g:k<N xs
 . (have M:(k:Int)<(N xs:Int):=by omega);rcases D.o.up (Qa f.bel)with n|⟨b,o,V,_,v⟩
   . subst n;simp at g
   have m:=v k g;have l:=Hl.o k g;subst V;obtain⟨x,n⟩:∃x,x=xs.getD k Qe.z:=⟨_,rfl⟩;rw[<- n]at m l;obtain⟨a1,Y,a2,X,⟨F,E⟩,u⟩:=m;have B:=Hm (toFType_c x a1 Y a2 X wr u l);have HX:=Hm n;have s:=Hm f;clear n v f u D;(go_wp2_with fail);refine B.o.mono ?_;rintro e w1 ⟨b1,b2,rfl,t,y⟩;have d:=s.o.keep X5.up y;obtain⟨I,j,R⟩:=d.cells;obtain⟨u0,e0⟩:=j (k*2) (by omega);obtain⟨u1,e1⟩:=j (k*2+1) (by omega);have r:=Hm (d.step X5.up g [S (some ⟨b1,0,none⟩) (N x.ps) (N x.ps),S (some ⟨b2,0,none⟩) (N x.rs) (N x.rs)] rfl (by rw[<- HX.o];exact⟨_,_,_,_,rfl,t.mono (by have:=s.o.cells.1;omega)⟩));clear t y d j B s F E;go_wp2;(go_roundw);(case rel=>exact⟨k+1,by omega,by go_num,r.o⟩);case measure=>simp[intOf];omega
 have e:k=N xs:=by omega
 subst e;go_wp2;go_ret;exact⟨rfl,X5.ls f,f.bel⟩
theorem toImp_c (x:Imp)(w:J)(hI:Imp.Is 0 w x )(hl:Imp.LB 1048576 x):Ec Q 70 #[Ag #[Xs x.mod,Xs x.nm,U O x.kind,U O x.ty,U O x.lim.min,U O x.lim.max,G x.lim.has,U O x.gl.ty,G x.gl.mu]] w λe w'=>e=Z (Ag #[Xs x.mod,Xs x.nm,U O x.kind,U O x.ty,U O x.lim.min,U O x.lim.max,G x.lim.has,U O x.gl.ty,G x.gl.mu])/\Imp.Is w.heap.size w' x /\Below w.heap.size w w':=by
 obtain⟨q,E⟩:∃q,q=w.heap.size:=⟨_,rfl⟩;obtain⟨s,f⟩:∃V,V=((w.alloc (Fc #[Xs x.mod,Xs x.nm,U O x.kind,U O x.ty,U O x.lim.min,U O x.lim.max,G x.lim.has,U O x.gl.ty,G x.gl.mu] 107)).alloc (Fc #[Xs ⟨#[]⟩,Xs ⟨#[]⟩,U O 0,U O 0,U O 0,U O 0,G false,U O 0,G false] 147)).alloc (Fc #[Xs ⟨#[]⟩,Xs ⟨#[]⟩,U O 0,U O 0,U O 0,U O 0,G false,U O 0,G false] 147):=⟨_,rfl⟩;have c:Mo w.heap.size w [box 147 9 (q+2) [Xs ⟨#[]⟩,Xs ⟨#[]⟩,U O 0,U O 0,U O 0,U O 0,G false,U O 0,G false],box 147 9 (q+1) [Xs ⟨#[]⟩,Xs ⟨#[]⟩,U O 0,U O 0,U O 0,U O 0,G false,U O 0,G false],box 107 9 q [Xs x.mod,Xs x.nm,U O x.kind,U O x.ty,U O x.lim.min,U O x.lim.max,G x.lim.has,U O x.gl.ty,G x.gl.mu]] s:=by have h0:Mo w.heap.size w [] w:=⟨Own.nil _ _,bFz,lRz⟩;have:=((h0.box (cur:=#[Xs x.mod,Xs x.nm,U O x.kind,U O x.ty,U O x.lim.min,U O x.lim.max,G x.lim.has,U O x.gl.ty,G x.gl.mu]) 107 9 rfl).box (cur:=#[Xs ⟨#[]⟩,Xs ⟨#[]⟩,U O 0,U O 0,U O 0,U O 0,G false,U O 0,G false]) 147 9 rfl).box (cur:=#[Xs ⟨#[]⟩,Xs ⟨#[]⟩,U O 0,U O 0,U O 0,U O 0,G false,U O 0,G false]) 147 9 rfl;rw[f,E];simpa using this
 have aq:q+3<=s.heap.size:=by rw[f,E];simp
 have ar:w.heap.size<=q+3:=by omega
 clear hI hl;go_enter func70,ntmps70;go_upto_region 2 with fail
 rw[<- f,<- E];clear f E;have d:=(c.tail.tail.b0 0 (u:=Xs x.mod)).1;obtain⟨z,y⟩:=c.b0 0 (u:=Xs ⟨#[]⟩);obtain⟨V1,f⟩:∃V,V=s.setCell ⟨q+2,0,none⟩ (Xs x.mod):=⟨_,rfl⟩;have a:=c.set 0 (Xs x.mod);rw[<- f]at a;have U0:Hid (Up (q+3) s V1):=by rw[f];exact upS bFz (by omega)
 have ap:s.heap.size<=V1.heap.size:=by rw[f];simp
 go_upto_region 3 with fail
 rw[<- f];clear f c d z y;have c:=a;clear a;have d:=(c.tail.tail.b0 1 (u:=Xs x.nm)).1;obtain⟨z,y⟩:=c.b0 1 (u:=Xs ⟨#[]⟩);obtain⟨r,f⟩:∃V,V=V1.setCell ⟨q+2,1,none⟩ (Xs x.nm):=⟨_,rfl⟩;have a:=c.set 1 (Xs x.nm);rw[<- f]at a;have U1:Hid (Up (q+3) V1 r):=by rw[f];exact upS bFz (by omega)
 have ao:V1.heap.size<=r.heap.size:=by rw[f];simp
 go_upto_region 4 with fail
 rw[<- f];clear f c d z y;have c:=a;clear a;have d:=(c.tail.tail.b0 2 (u:=U O x.kind)).1;obtain⟨z,y⟩:=c.b0 2 (u:=U O 0);obtain⟨p,f⟩:∃V,V=r.setCell ⟨q+2,2,none⟩ (U O x.kind):=⟨_,rfl⟩;have a:=c.set 2 (U O x.kind);rw[<- f]at a;have U2:Hid (Up (q+3) r p):=by rw[f];exact upS bFz (by omega)
 have ak:r.heap.size<=p.heap.size:=by rw[f];simp
 go_upto_region 5 with fail
 rw[<- f];clear f c d z y;have c:=a;clear a;have d:=(c.tail.tail.b0 3 (u:=U O x.ty)).1;obtain⟨z,y⟩:=c.b0 3 (u:=U O 0);obtain⟨n,f⟩:∃V,V=p.setCell ⟨q+2,3,none⟩ (U O x.ty):=⟨_,rfl⟩;have a:=c.set 3 (U O x.ty);rw[<- f]at a;have U3:Hid (Up (q+3) p n):=by rw[f];exact upS bFz (by omega)
 have aj:p.heap.size<=n.heap.size:=by rw[f];simp
 go_upto_region 6 with fail
 rw[<- f];clear f c d z y;have c:=a;clear a;have H:=(c.tail.tail.b0 4 (u:=U O x.lim.min)).1;have F:=(c.tail.tail.b0 5 (u:=U O x.lim.max)).1;have d2:=(c.tail.tail.b0 6 (u:=G x.lim.has)).1;have t:=Hm (toLimits_c x.lim n trivial trivial);go_wp2_with fail
 refine t.o.mono ?_;rintro e W ⟨rfl,_,k⟩;have g:=c.keep k;obtain⟨B,D⟩:=g.b0 4 (u:=U O 0);obtain⟨A,C⟩:=g.b0 5 (u:=U O 0);obtain⟨I,L⟩:=g.b0 6 (u:=G false);obtain⟨m,f⟩:∃V,V=(((W.setCell ⟨q+2,4,none⟩ (U O x.lim.min)).setCell ⟨q+2,5,none⟩ (U O x.lim.max)).setCell ⟨q+2,6,none⟩ (G x.lim.has)):=⟨_,rfl⟩;have a:=(((g.set 4 (U O x.lim.min)).set 5 (U O x.lim.max)).set 6 (G x.lim.has));rw[<- f]at a;have U4:Hid (Up (q+3) n m):=by rw[f];exact(Qa k).size_trans (JM (by omega) [U O x.lim.min,U O x.lim.max,G x.lim.has] W 4) k.size
 have ai:n.heap.size<=m.heap.size:=by rw[f];simpa using k.size
 clear c g k t H F d2;go_upto_region 7 with fail
 rw[<- f];clear f B D A C I L;have c:=a;clear a;have H:=(c.tail.tail.b0 7 (u:=U O x.gl.ty)).1;have F:=(c.tail.tail.b0 8 (u:=G x.gl.mu)).1;have t:=Hm (toGType_c x.gl m trivial trivial);go_wp2_with fail
 refine t.o.mono ?_;rintro e W ⟨rfl,_,k⟩;have g:=c.keep k;obtain⟨B,D⟩:=g.b0 7 (u:=U O 0);obtain⟨A,C⟩:=g.b0 8 (u:=G false);obtain⟨R,f⟩:∃V,V=((W.setCell ⟨q+2,7,none⟩ (U O x.gl.ty)).setCell ⟨q+2,8,none⟩ (G x.gl.mu)):=⟨_,rfl⟩;have a:=((g.set 7 (U O x.gl.ty)).set 8 (G x.gl.mu));rw[<- f]at a;have U5:Hid (Up (q+3) m R):=by rw[f];exact(Qa k).size_trans (JM (by omega) [U O x.gl.ty,G x.gl.mu] W 7) k.size
 have ah:m.heap.size<=R.heap.size:=by rw[f];simpa using k.size
 clear c g k t H F;go_upto_region 8 with fail
 rw[<- f];clear f B D A C;have c:=a;clear a;have j:=c.perm (Tw _ _ _);have k0:=(c.b0 0 (u:=Xs x.mod)).1;obtain⟨B,D⟩:=j.b0 0 (u:=Xs ⟨#[]⟩);have k1:=(c.b0 1 (u:=Xs x.nm)).1;obtain⟨A,C⟩:=j.b0 1 (u:=Xs ⟨#[]⟩);have k2:=(c.b0 2 (u:=U O x.kind)).1;obtain⟨I,L⟩:=j.b0 2 (u:=U O 0);have k3:=(c.b0 3 (u:=U O x.ty)).1;obtain⟨z3,y3⟩:=j.b0 3 (u:=U O 0);have k4:=(c.b0 4 (u:=U O x.lim.min)).1;obtain⟨z4,y4⟩:=j.b0 4 (u:=U O 0);have k5:=(c.b0 5 (u:=U O x.lim.max)).1;obtain⟨z5,y5⟩:=j.b0 5 (u:=U O 0);have k6:=(c.b0 6 (u:=G x.lim.has)).1;obtain⟨z6,y6⟩:=j.b0 6 (u:=G false);have k7:=(c.b0 7 (u:=U O x.gl.ty)).1;obtain⟨z7,y7⟩:=j.b0 7 (u:=U O 0);have k8:=(c.b0 8 (u:=G x.gl.mu)).1;obtain⟨z8,y8⟩:=j.b0 8 (u:=G false);have HF:=Hm (((((((((j.set 0 (Xs x.mod)).set 1 (Xs x.nm)).set 2 (U O x.kind)).set 3 (U O x.ty)).set 4 (U O x.lim.min)).set 5 (U O x.lim.max)).set 6 (G x.lim.has)).set 7 (U O x.gl.ty)).set 8 (G x.gl.mu));clear j c;go_wp2;refine bgen (λM=>Mo w.heap.size w [box 147 9 (q+1) [Xs x.mod,Xs x.nm,U O x.kind,U O x.ty,U O x.lim.min,U O x.lim.max,G x.lim.has,U O x.gl.ty,G x.gl.mu],box 147 9 (q+2) [Xs x.mod,Xs x.nm,U O x.kind,U O x.ty,U O x.lim.min,U O x.lim.max,G x.lim.has,U O x.gl.ty,G x.gl.mu],box 107 9 q [Xs x.mod,Xs x.nm,U O x.kind,U O x.ty,U O x.lim.min,U O x.lim.max,G x.lim.has,U O x.gl.ty,G x.gl.mu]] M) HF.o ?_;intro M l;have u0:=(l.b0 0 (u:=Xs x.mod)).1;have u1:=(l.b0 1 (u:=Xs x.nm)).1;have u2:=(l.b0 2 (u:=U O x.kind)).1;have u3:=(l.b0 3 (u:=U O x.ty)).1;have u4:=(l.b0 4 (u:=U O x.lim.min)).1;have u5:=(l.b0 5 (u:=U O x.lim.max)).1;have u6:=(l.b0 6 (u:=G x.lim.has)).1;have Y:=(l.b0 7 (u:=U O x.gl.ty)).1;have X:=(l.b0 8 (u:=G x.gl.mu)).1;exact bodyPost_ret (v:=Ag #[Xs x.mod,Xs x.nm,U O x.kind,U O x.ty,U O x.lim.min,U O x.lim.max,G x.lim.has,U O x.gl.ty,G x.gl.mu]) (by simp[results,results70,go_sem,u0,u1,u2,u3,u4,u5,u6,Y,X]) rfl ⟨rfl,trivial,l.b⟩
def PImp (B:Nat)(w:J)(x:Imp)(cs:List Vu):Prop:=cs=[Xs x.mod,Xs x.nm,U O x.kind,U O x.ty,U O x.lim.min,U O x.lim.max,G x.lim.has,U O x.gl.ty,G x.gl.mu]/\Imp.Is B w x 
theorem PImp.up (B:Nat)(w a:J)(x:Imp)(cs:List Vu):PImp B w x cs->Up B w a->PImp B a x cs:=λ⟨e,h⟩ u=>⟨e,h.up u⟩
theorem PImp.ls {xs:List Imp}(h:Cp PImp Imp.z 9 147 w g (N xs) (N xs) xs W):Imp.Ls g W (some ⟨g,0,none⟩) xs:=by
 refine .inr ⟨g,0,rfl,lRz,λi hi=>?_⟩;obtain⟨c,_,a,rfl,b⟩:=h.done i hi;rw[Hq];exact Imp.At.mono (show Imp.At (g+1) W g (i*9) (xs.getD i Imp.z)from⟨⟨a 0 _ rfl,a 1 _ rfl,a 2 _ rfl,a 3 _ rfl,a 4 _ rfl,a 5 _ rfl,a 6 _ rfl,a 7 _ rfl,a 8 _ rfl⟩,b⟩) (Mk g)
theorem nfImp:(Q.info? 147).map (λi=>(i.zero,i.size,i.bytes))=some (some (Ag #[Xs ⟨#[]⟩,Xs ⟨#[]⟩,U O 0,U O 0,U O 0,U O 0,G false,U O 0,G false]),9,88):=by kernel_rfl
theorem toImps_c (a:Option Addr)(c:Nat)(xs:List Imp)(w:J)(hl:N xs<=1048576/\∀i,i<N xs->Imp.LB 1048576 (xs.getD i Imp.z))(A:Imp.Ls 0 w a xs):Ec Q 25 #[S a (N xs) c] w λe w'=>e=Z (S (some ⟨w.heap.size,0,none⟩) (N xs) (N xs))/\Imp.Ls w.heap.size w' (some ⟨w.heap.size,0,none⟩) xs/\Below w.heap.size w w':=by
 obtain⟨Y,p⟩:=hl;have q:=XP underlying39 nfImp (by omega) (N xs) Y;have D:=Hm A;have Hl:=Hm p;have C:Hid (Cp PImp Imp.z 9 147 w w.heap.size (N xs) 0 xs (w.alloc (Fc (madeCells #[Xs ⟨#[]⟩,Xs ⟨#[]⟩,U O 0,U O 0,U O 0,U O 0,G false,U O 0,G false] (N xs*9)) 147))):=Cp.start (by simp[madeCells]);clear A p;go_enter func25,ntmps25;go_wp2;go_loopw [4] (λi wr=>∃k:Nat,k<=N xs/\i=U O k/\Cp PImp Imp.z 9 147 w w.heap.size (N xs) k xs wr) (λi _=>N xs-(intOf i).toNat)
 case atStart=>exact⟨0,Kz _,rfl,C.o⟩
 obtain⟨k,hk,rfl,g⟩:=hrel;clear C q;by_cases j:k<N xs
 . (have ac:(k:Int)<(N xs:Int):=by omega);rcases D.o.up (Qa g.bel)with n|⟨b,o,ea,_,v⟩
   . subst n;simp at j
   have m:=v k j;have l:=Hl.o k j;subst ea;obtain⟨x,n⟩:∃x,x=xs.getD k Imp.z:=⟨_,rfl⟩;rw[<- n]at m l;obtain⟨⟨X,V,R,M,L,I,H,F,E⟩,u⟩:=m;have B:=Hm (toImp_c x  wr u l);have HX:=Hm n;have s:=Hm g;clear n v g u D;(go_wp2_with fail);refine B.o.mono ?_;rintro e w1 ⟨rfl,t,y⟩;have f:=s.o.keep PImp.up y;obtain⟨aa,d,ad⟩:=f.cells;obtain⟨u0,e0⟩:=d (k*9) (by omega);obtain⟨u1,e1⟩:=d (k*9+1) (by omega);obtain⟨u2,e2⟩:=d (k*9+2) (by omega);obtain⟨u3,e3⟩:=d (k*9+3) (by omega);obtain⟨u4,e4⟩:=d (k*9+4) (by omega);obtain⟨u5,e5⟩:=d (k*9+5) (by omega);obtain⟨u6,e6⟩:=d (k*9+6) (by omega);obtain⟨u7,e7⟩:=d (k*9+7) (by omega);obtain⟨u8,e8⟩:=d (k*9+8) (by omega);have r:=Hm (f.step PImp.up j [Xs x.mod,Xs x.nm,U O x.kind,U O x.ty,U O x.lim.min,U O x.lim.max,G x.lim.has,U O x.gl.ty,G x.gl.mu] rfl (by rw[<- HX.o];exact⟨rfl,t.mono (by have:=s.o.cells.1;omega)⟩));clear t y f d B s X V R M L I H F E;go_wp2;(go_roundw);(case rel=>exact⟨k+1,by omega,by go_num,r.o⟩);case measure=>simp[intOf];omega
 have e:k=N xs:=by omega
 subst e;go_wp2;go_ret;exact⟨rfl,PImp.ls g,g.bel⟩
theorem toExp_c (x:Exp)(w:J)(H:Exp.Is 0 w x )(F:Exp.LB 1048576 x):Ec Q 73 #[Ag #[Xs x.nm,U O x.kind,U O x.ix]] w λe w'=>e=Z (Ag #[Xs x.nm,U O x.kind,U O x.ix])/\Exp.Is w.heap.size w' x /\Below w.heap.size w w':=by
 obtain⟨q,m⟩:∃q,q=w.heap.size:=⟨_,rfl⟩;obtain⟨k,c⟩:∃V,V=((w.alloc (Fc #[Xs x.nm,U O x.kind,U O x.ix] 114)).alloc (Fc #[Xs ⟨#[]⟩,U O 0,U O 0] 163)).alloc (Fc #[Xs ⟨#[]⟩,U O 0,U O 0] 163):=⟨_,rfl⟩;have f:Mo w.heap.size w [box 163 3 (q+2) [Xs ⟨#[]⟩,U O 0,U O 0],box 163 3 (q+1) [Xs ⟨#[]⟩,U O 0,U O 0],box 114 3 q [Xs x.nm,U O x.kind,U O x.ix]] k:=by have I:Mo w.heap.size w [] w:=⟨Own.nil _ _,bFz,lRz⟩;have:=((I.box (cur:=#[Xs x.nm,U O x.kind,U O x.ix]) 114 3 rfl).box (cur:=#[Xs ⟨#[]⟩,U O 0,U O 0]) 163 3 rfl).box (cur:=#[Xs ⟨#[]⟩,U O 0,U O 0]) 163 3 rfl;rw[c,m];simpa using this
 have D:q+3<=k.heap.size:=by rw[c,m];simp
 have E:w.heap.size<=q+3:=by omega
 clear H F;go_enter func73,ntmps73;go_upto_region 2 with fail
 rw[<- c,<- m];clear c m;have d:=(f.tail.tail.b0 0 (u:=Xs x.nm)).1;obtain⟨z,y⟩:=f.b0 0 (u:=Xs ⟨#[]⟩);obtain⟨V1,c⟩:∃V,V=k.setCell ⟨q+2,0,none⟩ (Xs x.nm):=⟨_,rfl⟩;have a:=f.set 0 (Xs x.nm);rw[<- c]at a;have U0:Hid (Up (q+3) k V1):=by rw[c];exact upS bFz (by omega)
 have C:k.heap.size<=V1.heap.size:=by rw[c];simp
 go_upto_region 3 with fail
 rw[<- c];clear c f d z y;have f:=a;clear a;have d:=(f.tail.tail.b0 1 (u:=U O x.kind)).1;obtain⟨z,y⟩:=f.b0 1 (u:=U O 0);obtain⟨j,c⟩:∃V,V=V1.setCell ⟨q+2,1,none⟩ (U O x.kind):=⟨_,rfl⟩;have a:=f.set 1 (U O x.kind);rw[<- c]at a;have U1:Hid (Up (q+3) V1 j):=by rw[c];exact upS bFz (by omega)
 have B:V1.heap.size<=j.heap.size:=by rw[c];simp
 go_upto_region 4 with fail
 rw[<- c];clear c f d z y;have f:=a;clear a;have d:=(f.tail.tail.b0 2 (u:=U O x.ix)).1;obtain⟨z,y⟩:=f.b0 2 (u:=U O 0);obtain⟨p,c⟩:∃V,V=j.setCell ⟨q+2,2,none⟩ (U O x.ix):=⟨_,rfl⟩;have a:=f.set 2 (U O x.ix);rw[<- c]at a;have U2:Hid (Up (q+3) j p):=by rw[c];exact upS bFz (by omega)
 have A:j.heap.size<=p.heap.size:=by rw[c];simp
 go_upto_region 5 with fail
 rw[<- c];clear c f d z y;have f:=a;clear a;have g:=f.perm (Tw _ _ _);have k0:=(f.b0 0 (u:=Xs x.nm)).1;obtain⟨X,y0⟩:=g.b0 0 (u:=Xs ⟨#[]⟩);have k1:=(f.b0 1 (u:=U O x.kind)).1;obtain⟨R,y1⟩:=g.b0 1 (u:=U O 0);have k2:=(f.b0 2 (u:=U O x.ix)).1;obtain⟨M,Y⟩:=g.b0 2 (u:=U O 0);have L:=Hm (((g.set 0 (Xs x.nm)).set 1 (U O x.kind)).set 2 (U O x.ix));clear g f;go_wp2;refine bgen (λn=>Mo w.heap.size w [box 163 3 (q+1) [Xs x.nm,U O x.kind,U O x.ix],box 163 3 (q+2) [Xs x.nm,U O x.kind,U O x.ix],box 114 3 q [Xs x.nm,U O x.kind,U O x.ix]] n) L.o ?_;intro n l;have t:=(l.b0 0 (u:=Xs x.nm)).1;have s:=(l.b0 1 (u:=U O x.kind)).1;have r:=(l.b0 2 (u:=U O x.ix)).1;exact bodyPost_ret (v:=Ag #[Xs x.nm,U O x.kind,U O x.ix]) (by simp[results,results73,go_sem,t,s,r]) rfl ⟨rfl,trivial,l.b⟩
def PExp (B:Nat)(w:J)(x:Exp)(cs:List Vu):Prop:=cs=[Xs x.nm,U O x.kind,U O x.ix]/\Exp.Is B w x 
theorem PExp.up (B:Nat)(w a:J)(x:Exp)(cs:List Vu):PExp B w x cs->Up B w a->PExp B a x cs:=λ⟨e,h⟩ u=>⟨e,h.up u⟩
theorem PExp.ls {xs:List Exp}(h:Cp PExp Exp.z 3 163 w g (N xs) (N xs) xs W):Exp.Ls g W (some ⟨g,0,none⟩) xs:=by
 refine .inr ⟨g,0,rfl,lRz,λi hi=>?_⟩;obtain⟨c,_,b,rfl,a⟩:=h.done i hi;rw[Hq];exact Exp.At.mono (show Exp.At (g+1) W g (i*3) (xs.getD i Exp.z)from⟨⟨b 0 _ rfl,b 1 _ rfl,b 2 _ rfl⟩,a⟩) (Mk g)
theorem nfExp:(Q.info? 163).map (λi=>(i.zero,i.size,i.bytes))=some (some (Ag #[Xs ⟨#[]⟩,U O 0,U O 0]),3,32):=by kernel_rfl
theorem toExps_c (a:Option Addr)(c:Nat)(xs:List Exp)(w:J)(M:N xs<=1048576/\∀i,i<N xs->Exp.LB 1048576 (xs.getD i Exp.z))(A:Exp.Ls 0 w a xs):Ec Q 29 #[S a (N xs) c] w λe w'=>e=Z (S (some ⟨w.heap.size,0,none⟩) (N xs) (N xs))/\Exp.Ls w.heap.size w' (some ⟨w.heap.size,0,none⟩) xs/\Below w.heap.size w w':=by
 obtain⟨I,p⟩:=M;have q:=XP underlying42 nfExp (by omega) (N xs) I;have D:=Hm A;have Y:=Hm p;have C:Hid (Cp PExp Exp.z 3 163 w w.heap.size (N xs) 0 xs (w.alloc (Fc (madeCells #[Xs ⟨#[]⟩,U O 0,U O 0] (N xs*3)) 163))):=Cp.start (by simp[madeCells]);clear A p;go_enter func29,ntmps29;go_wp2;go_loopw [4] (λi wr=>∃k:Nat,k<=N xs/\i=U O k/\Cp PExp Exp.z 3 163 w w.heap.size (N xs) k xs wr) (λi _=>N xs-(intOf i).toNat)
 case atStart=>exact⟨0,Kz _,rfl,C.o⟩
 obtain⟨k,hk,rfl,f⟩:=hrel;clear C q;by_cases g:k<N xs
 . (have R:(k:Int)<(N xs:Int):=by omega);rcases D.o.up (Qa f.bel)with n|⟨b,o,X,_,v⟩
   . subst n;simp at g
   have m:=v k g;have l:=Y.o k g;subst X;obtain⟨x,n⟩:∃x,x=xs.getD k Exp.z:=⟨_,rfl⟩;rw[<- n]at m l;obtain⟨⟨H,F,E⟩,u⟩:=m;have B:=Hm (toExp_c x  wr u l);have HX:=Hm n;have s:=Hm f;clear n v f u D;(go_wp2_with fail);refine B.o.mono ?_;rintro e w1 ⟨rfl,t,y⟩;have d:=s.o.keep PExp.up y;obtain⟨L,j,V⟩:=d.cells;obtain⟨u0,e0⟩:=j (k*3) (by omega);obtain⟨u1,e1⟩:=j (k*3+1) (by omega);obtain⟨u2,e2⟩:=j (k*3+2) (by omega);have r:=Hm (d.step PExp.up g [Xs x.nm,U O x.kind,U O x.ix] rfl (by rw[<- HX.o];exact⟨rfl,t.mono (by have:=s.o.cells.1;omega)⟩));clear t y d j B s H F E;go_wp2;(go_roundw);(case rel=>exact⟨k+1,by omega,by go_num,r.o⟩);case measure=>simp[intOf];omega
 have e:k=N xs:=by omega
 subst e;go_wp2;go_ret;exact⟨rfl,PExp.ls f,f.bel⟩
theorem toGlob_c (x:Qn)(l:Option Addr)(c1:Nat)(w:J)(X:Qn.Is 0 w x l)(R:Qn.LB 1048576 x):Ec Q 72 #[Ag #[U O x.ty.ty,G x.ty.mu,S l (N x.ini) c1]] w λe w'=>∃j,e=Z (Ag #[U O x.ty.ty,G x.ty.mu,S (some ⟨j,0,none⟩) (N x.ini) (N x.ini)])/\Qn.Is w.heap.size w' x (some ⟨j,0,none⟩)/\Below w.heap.size w w':=by
 obtain⟨q,t⟩:∃q,q=w.heap.size:=⟨_,rfl⟩;obtain⟨r,c⟩:∃V,V=((w.alloc (Fc #[U O x.ty.ty,G x.ty.mu,S l (N x.ini) c1] 111)).alloc (Fc #[U O 0,G false,S none 0 0] 151)).alloc (Fc #[U O 0,G false,S none 0 0] 151):=⟨_,rfl⟩;have g:Mo w.heap.size w [box 151 3 (q+2) [U O 0,G false,S none 0 0],box 151 3 (q+1) [U O 0,G false,S none 0 0],box 111 3 q [U O x.ty.ty,G x.ty.mu,S l (N x.ini) c1]] r:=by have h0:Mo w.heap.size w [] w:=⟨Own.nil _ _,bFz,lRz⟩;have:=((h0.box (cur:=#[U O x.ty.ty,G x.ty.mu,S l (N x.ini) c1]) 111 3 rfl).box (cur:=#[U O 0,G false,S none 0 0]) 151 3 rfl).box (cur:=#[U O 0,G false,S none 0 0]) 151 3 rfl;rw[c,t];simpa using this
 have ah:q+3<=r.heap.size:=by rw[c,t];simp
 have A:w.heap.size<=q+3:=by omega
 have HI:=Hm X;have HL:=Hm R;clear X R;go_enter func72,ntmps72;go_upto_region 2 with fail
 rw[<- c,<- t];clear c t;have d0:=(g.tail.tail.b0 0 (u:=U O x.ty.ty)).1;have d1:=(g.tail.tail.b0 1 (u:=G x.ty.mu)).1;have n:=Hm (toGType_c x.ty r trivial trivial);go_wp2_with fail
 refine n.o.mono ?_;rintro e W ⟨rfl,_,k⟩;have a:=g.keep k;obtain⟨H,L⟩:=a.b0 0 (u:=U O 0);obtain⟨F,I⟩:=a.b0 1 (u:=G false);obtain⟨V1,c⟩:∃V,V=((W.setCell ⟨q+2,0,none⟩ (U O x.ty.ty)).setCell ⟨q+2,1,none⟩ (G x.ty.mu)):=⟨_,rfl⟩;have f:=((a.set 0 (U O x.ty.ty)).set 1 (G x.ty.mu));rw[<- c]at f;have U0:Hid (Up (q+3) r V1):=by rw[c];exact(Qa k).size_trans (JM (by omega) [U O x.ty.ty,G x.ty.mu] W 0) k.size
 have ag:r.heap.size<=V1.heap.size:=by rw[c];simpa using k.size
 clear g a k n d0 d1;go_upto_region 3 with fail
 rw[<- c];clear c H L F I;have g:=f;clear f;have d:=(g.tail.tail.b0 2 (u:=S l (N x.ini) c1)).1;have n:=Hm (toIns_c l c1 x.ini V1 HL.o ((HI.o).up (Qa g.b)));obtain⟨j,D⟩:∃B,B=V1.heap.size:=⟨_,rfl⟩;rw[<- D]at n;have C:q+3<=j:=by omega
 have Y:=Hm D;clear D;go_wp2_with fail
 refine n.o.mono ?_;rintro e W ⟨rfl,M,k⟩;rw[Y.o]at k;have a:=g.keep k;obtain⟨z,y⟩:=a.b0 2 (u:=S none 0 0);obtain⟨m,c⟩:∃V,V=W.setCell ⟨q+2,2,none⟩ (S (some ⟨j,0,none⟩) (N x.ini) (N x.ini)):=⟨_,rfl⟩;have f:=a.set 2 (S (some ⟨j,0,none⟩) (N x.ini) (N x.ini));rw[<- c]at f;have U1:Hid (Up (q+3) V1 m):=by rw[c];exact upS k (by omega)
 have af:V1.heap.size<=m.heap.size:=by rw[c];simpa using k.size
 have N1:=Hm ((M.mono C).up (show Up (q+3) W m by rw[c];exact Q5 (by omega)));clear g a k d M n Y;go_upto_region 4 with fail
 rw[<- c];clear c z y;have g:=f;clear f;have p:=g.perm (Tw _ _ _);have k0:=(g.b0 0 (u:=U O x.ty.ty)).1;obtain⟨H,L⟩:=p.b0 0 (u:=U O 0);have k1:=(g.b0 1 (u:=G x.ty.mu)).1;obtain⟨F,I⟩:=p.b0 1 (u:=G false);have k2:=(g.b0 2 (u:=S (some ⟨j,0,none⟩) (N x.ini) (N x.ini))).1;obtain⟨z2,y2⟩:=p.b0 2 (u:=S none 0 0);have HF:=Hm (((p.set 0 (U O x.ty.ty)).set 1 (G x.ty.mu)).set 2 (S (some ⟨j,0,none⟩) (N x.ini) (N x.ini)));have F2:Up (q+3) m m:=λ_ _ _=>rfl;have M1:=Hm (N1.o.up F2);clear F2;clear p g;go_wp2;refine bgen (λE=>Mo w.heap.size w [box 151 3 (q+1) [U O x.ty.ty,G x.ty.mu,S (some ⟨j,0,none⟩) (N x.ini) (N x.ini)],box 151 3 (q+2) [U O x.ty.ty,G x.ty.mu,S (some ⟨j,0,none⟩) (N x.ini) (N x.ini)],box 111 3 q [U O x.ty.ty,G x.ty.mu,S l (N x.ini) c1]] E/\Up (q+3) m E) ⟨HF.o,JM (by omega) [U O x.ty.ty,G x.ty.mu,S (some ⟨j,0,none⟩) (N x.ini) (N x.ini)] m 0⟩ ?_;rintro E ⟨s,hu⟩;have u0:=(s.b0 0 (u:=U O x.ty.ty)).1;have u1:=(s.b0 1 (u:=G x.ty.mu)).1;have u2:=(s.b0 2 (u:=S (some ⟨j,0,none⟩) (N x.ini) (N x.ini))).1;exact bodyPost_ret (v:=Ag #[U O x.ty.ty,G x.ty.mu,S (some ⟨j,0,none⟩) (N x.ini) (N x.ini)]) (by simp[results,results72,go_sem,u0,u1,u2]) rfl ⟨j,rfl,(M1.o.up hu).mono A,s.b⟩
def PGlob (B:Nat)(w:J)(x:Qn)(cs:List Vu):Prop:=∃a1 c1,cs=[U O x.ty.ty,G x.ty.mu,S a1 (N x.ini) c1]/\Qn.Is B w x a1
theorem PGlob.up (B:Nat)(w a:J)(x:Qn)(cs:List Vu):PGlob B w x cs->Up B w a->PGlob B a x cs:=λ⟨a1,c1,e,h⟩ u=>⟨a1,c1,e,h.up u⟩
theorem PGlob.ls {xs:List Qn}(h:Cp PGlob Qn.z 3 151 w g (N xs) (N xs) xs W):Qn.Ls g W (some ⟨g,0,none⟩) xs:=by
 refine .inr ⟨g,0,rfl,lRz,λi hi=>?_⟩;obtain⟨f,_,b,d,c,rfl,a⟩:=h.done i hi;rw[Hq];exact Qn.At.mono (show Qn.At (g+1) W g (i*3) (xs.getD i Qn.z)from⟨d,c,⟨b 0 _ rfl,b 1 _ rfl,b 2 _ rfl⟩,a⟩) (Mk g)
theorem nfGlob:(Q.info? 151).map (λi=>(i.zero,i.size,i.bytes))=some (some (Ag #[U O 0,G false,S none 0 0]),3,40):=by kernel_rfl
theorem toGlobs_c (a:Option Addr)(c:Nat)(xs:List Qn)(w:J)(M:N xs<=1048576/\∀i,i<N xs->Qn.LB 1048576 (xs.getD i Qn.z))(A:Qn.Ls 0 w a xs):Ec Q 28 #[S a (N xs) c] w λe w'=>e=Z (S (some ⟨w.heap.size,0,none⟩) (N xs) (N xs))/\Qn.Ls w.heap.size w' (some ⟨w.heap.size,0,none⟩) xs/\Below w.heap.size w w':=by
 obtain⟨I,p⟩:=M;have q:=XP underlying41 nfGlob (by omega) (N xs) I;have D:=Hm A;have Hl:=Hm p;have C:Hid (Cp PGlob Qn.z 3 151 w w.heap.size (N xs) 0 xs (w.alloc (Fc (madeCells #[U O 0,G false,S none 0 0] (N xs*3)) 151))):=Cp.start (by simp[madeCells]);clear A p;go_enter func28,ntmps28;go_wp2;go_loopw [4] (λi wr=>∃k:Nat,k<=N xs/\i=U O k/\Cp PGlob Qn.z 3 151 w w.heap.size (N xs) k xs wr) (λi _=>N xs-(intOf i).toNat)
 case atStart=>exact⟨0,Kz _,rfl,C.o⟩
 obtain⟨k,hk,rfl,f⟩:=hrel;clear C q;by_cases g:k<N xs
 . (have R:(k:Int)<(N xs:Int):=by omega);rcases D.o.up (Qa f.bel)with n|⟨b,o,X,_,v⟩
   . subst n;simp at g
   have m:=v k g;have l:=Hl.o k g;subst X;obtain⟨x,n⟩:∃x,x=xs.getD k Qn.z:=⟨_,rfl⟩;rw[<- n]at m l;obtain⟨a1,Y,⟨H,F,E⟩,u⟩:=m;have B:=Hm (toGlob_c x a1 Y wr u l);have HX:=Hm n;have s:=Hm f;clear n v f u D;(go_wp2_with fail);refine B.o.mono ?_;rintro e w1 ⟨b1,rfl,t,y⟩;have d:=s.o.keep PGlob.up y;obtain⟨L,j,V⟩:=d.cells;obtain⟨u0,e0⟩:=j (k*3) (by omega);obtain⟨u1,e1⟩:=j (k*3+1) (by omega);obtain⟨u2,e2⟩:=j (k*3+2) (by omega);have r:=Hm (d.step PGlob.up g [U O x.ty.ty,G x.ty.mu,S (some ⟨b1,0,none⟩) (N x.ini) (N x.ini)] rfl (by rw[<- HX.o];exact⟨_,_,rfl,t.mono (by have:=s.o.cells.1;omega)⟩));clear t y d j B s H F E;go_wp2;(go_roundw);(case rel=>exact⟨k+1,by omega,by go_num,r.o⟩);case measure=>simp[intOf];omega
 have e:k=N xs:=by omega
 subst e;go_wp2;go_ret;exact⟨rfl,PGlob.ls f,f.bel⟩
theorem toEle_c (x:Ele)(n:Option Addr)(c1:Nat)(m:Option Addr)(c2:Nat)(w:J)(hI:Ele.Is 0 w x n m)(hl:Ele.LB 1048576 x):Ec Q 74 #[Ag #[S n (N x.off) c1,S m (N x.fs) c2]] w λe w'=>∃k j,e=Z (Ag #[S (some ⟨k,0,none⟩) (N x.off) (N x.off),S (some ⟨j,0,none⟩) (N x.fs) (N x.fs)])/\Ele.Is w.heap.size w' x (some ⟨k,0,none⟩) (some ⟨j,0,none⟩)/\Below w.heap.size w w':=by
 obtain⟨q,E⟩:∃q,q=w.heap.size:=⟨_,rfl⟩;obtain⟨t,a⟩:∃V,V=((w.alloc (Fc #[S n (N x.off) c1,S m (N x.fs) c2] 117)).alloc (Fc #[S none 0 0,S none 0 0] 134)).alloc (Fc #[S none 0 0,S none 0 0] 134):=⟨_,rfl⟩;have g:Mo w.heap.size w [box 134 2 (q+2) [S none 0 0,S none 0 0],box 134 2 (q+1) [S none 0 0,S none 0 0],box 117 2 q [S n (N x.off) c1,S m (N x.fs) c2]] t:=by have h0:Mo w.heap.size w [] w:=⟨Own.nil _ _,bFz,lRz⟩;have:=((h0.box (cur:=#[S n (N x.off) c1,S m (N x.fs) c2]) 117 2 rfl).box (cur:=#[S none 0 0,S none 0 0]) 134 2 rfl).box (cur:=#[S none 0 0,S none 0 0]) 134 2 rfl;rw[a,E];simpa using this
 have ai:q+3<=t.heap.size:=by rw[a,E];simp
 have A:w.heap.size<=q+3:=by omega
 have HI:=Hm hI;have HL:=Hm hl;clear hI hl;go_enter func74,ntmps74;go_upto_region 2 with fail
 rw[<- a,<- E];clear a E;have d:=(g.tail.tail.b0 0 (u:=S n (N x.off) c1)).1;have s:=Hm (toIns_c n c1 x.off t HL.o.1 ((HI.o.1).up (Qa g.b)));obtain⟨k,p⟩:∃B,B=t.heap.size:=⟨_,rfl⟩;rw[<- p]at s;have L:q+3<=k:=by omega
 have C:=Hm p;clear p;go_wp2_with fail
 refine s.o.mono ?_;rintro e W ⟨rfl,Y,l⟩;rw[C.o]at l;have c:=g.keep l;obtain⟨z,y⟩:=c.b0 0 (u:=S none 0 0);obtain⟨V1,a⟩:∃V,V=W.setCell ⟨q+2,0,none⟩ (S (some ⟨k,0,none⟩) (N x.off) (N x.off)):=⟨_,rfl⟩;have f:=c.set 0 (S (some ⟨k,0,none⟩) (N x.off) (N x.off));rw[<- a]at f;have U0:Hid (Up (q+3) t V1):=by rw[a];exact upS l (by omega)
 have ah:t.heap.size<=V1.heap.size:=by rw[a];simpa using l.size
 have N1:=Hm ((Y.mono L).up (show Up (q+3) W V1 by rw[a];exact Q5 (by omega)));clear g c l d Y s C;go_upto_region 3 with fail
 rw[<- a];clear a z y;have g:=f;clear f;have d:=(g.tail.tail.b0 1 (u:=S m (N x.fs) c2)).1;have s:=Hm (rtInts_c m c2 x.fs V1 HL.o.2 ((HI.o.2).up (Qa g.b)));obtain⟨j,p⟩:∃B,B=V1.heap.size:=⟨_,rfl⟩;rw[<- p]at s;have I:q+3<=j:=by omega
 have C:=Hm p;clear p;go_wp2_with fail
 refine s.o.mono ?_;rintro e W ⟨rfl,X,l⟩;rw[C.o]at l;have c:=g.keep l;obtain⟨z,y⟩:=c.b0 1 (u:=S none 0 0);obtain⟨r,a⟩:∃V,V=W.setCell ⟨q+2,1,none⟩ (S (some ⟨j,0,none⟩) (N x.fs) (N x.fs)):=⟨_,rfl⟩;have f:=c.set 1 (S (some ⟨j,0,none⟩) (N x.fs) (N x.fs));rw[<- a]at f;have U1:Hid (Up (q+3) V1 r):=by rw[a];exact upS l (by omega)
 have H:V1.heap.size<=r.heap.size:=by rw[a];simpa using l.size
 have N2:=Hm ((X.mono I).up (show Up (q+3) W r by rw[a];exact Q5 (by omega)));clear g c l d X s C;go_upto_region 4 with fail
 rw[<- a];clear a z y;have g:=f;clear f;have D:=g.perm (Tw _ _ _);have k0:=(g.b0 0 (u:=S (some ⟨k,0,none⟩) (N x.off) (N x.off))).1;obtain⟨z0,y0⟩:=D.b0 0 (u:=S none 0 0);have k1:=(g.b0 1 (u:=S (some ⟨j,0,none⟩) (N x.fs) (N x.fs))).1;obtain⟨z1,y1⟩:=D.b0 1 (u:=S none 0 0);have HF:=Hm ((D.set 0 (S (some ⟨k,0,none⟩) (N x.off) (N x.off))).set 1 (S (some ⟨j,0,none⟩) (N x.fs) (N x.fs)));have R:Up (q+3) r r:=λ_ _ _=>rfl;have F1:=upT U1.o H R;have M1:=Hm (N1.o.up F1);have M2:=Hm (N2.o.up R);clear F1 R;clear D g;go_wp2;refine bgen (λM=>Mo w.heap.size w [box 134 2 (q+1) [S (some ⟨k,0,none⟩) (N x.off) (N x.off),S (some ⟨j,0,none⟩) (N x.fs) (N x.fs)],box 134 2 (q+2) [S (some ⟨k,0,none⟩) (N x.off) (N x.off),S (some ⟨j,0,none⟩) (N x.fs) (N x.fs)],box 117 2 q [S n (N x.off) c1,S m (N x.fs) c2]] M/\Up (q+3) r M) ⟨HF.o,JM (by omega) [S (some ⟨k,0,none⟩) (N x.off) (N x.off),S (some ⟨j,0,none⟩) (N x.fs) (N x.fs)] r 0⟩ ?_;rintro M ⟨F,hu⟩;have u0:=(F.b0 0 (u:=S (some ⟨k,0,none⟩) (N x.off) (N x.off))).1;have u1:=(F.b0 1 (u:=S (some ⟨j,0,none⟩) (N x.fs) (N x.fs))).1;exact bodyPost_ret (v:=Ag #[S (some ⟨k,0,none⟩) (N x.off) (N x.off),S (some ⟨j,0,none⟩) (N x.fs) (N x.fs)]) (by simp[results,results74,go_sem,u0,u1]) rfl ⟨k,j,rfl,⟨(M1.o.up hu).mono A,(M2.o.up hu).mono A⟩,F.b⟩
def PEle (B:Nat)(w:J)(x:Ele)(cs:List Vu):Prop:=∃a1 c1 a2 c2,cs=[S a1 (N x.off) c1,S a2 (N x.fs) c2]/\Ele.Is B w x a1 a2
theorem PEle.up (B:Nat)(w a:J)(x:Ele)(cs:List Vu):PEle B w x cs->Up B w a->PEle B a x cs:=λ⟨a1,c1,a2,c2,e,h⟩ u=>⟨a1,c1,a2,c2,e,h.up u⟩
theorem PEle.ls {xs:List Ele}(h:Cp PEle Ele.z 2 134 w g (N xs) (N xs) xs W):Ele.Ls g W (some ⟨g,0,none⟩) xs:=by
 refine .inr ⟨g,0,rfl,lRz,λi hi=>?_⟩;obtain⟨k,_,b,j,d,f,c,rfl,a⟩:=h.done i hi;rw[Hq];exact Ele.At.mono (show Ele.At (g+1) W g (i*2) (xs.getD i Ele.z)from⟨j,d,f,c,⟨b 0 _ rfl,b 1 _ rfl⟩,a⟩) (Mk g)
theorem nfEle:(Q.info? 134).map (λi=>(i.zero,i.size,i.bytes))=some (some (Ag #[S none 0 0,S none 0 0]),2,48):=by kernel_rfl
theorem toEles_c (a:Option Addr)(c:Nat)(xs:List Ele)(w:J)(L:N xs<=1048576/\∀i,i<N xs->Ele.LB 1048576 (xs.getD i Ele.z))(A:Ele.Ls 0 w a xs):Ec Q 30 #[S a (N xs) c] w λe w'=>e=Z (S (some ⟨w.heap.size,0,none⟩) (N xs) (N xs))/\Ele.Ls w.heap.size w' (some ⟨w.heap.size,0,none⟩) xs/\Below w.heap.size w w':=by
 obtain⟨H,p⟩:=L;have q:=XP underlying43 nfEle (by omega) (N xs) H;have D:=Hm A;have Hl:=Hm p;have C:Hid (Cp PEle Ele.z 2 134 w w.heap.size (N xs) 0 xs (w.alloc (Fc (madeCells #[S none 0 0,S none 0 0] (N xs*2)) 134))):=Cp.start (by simp[madeCells]);clear A p;go_enter func30,ntmps30;go_wp2;go_loopw [4] (λi wr=>∃k:Nat,k<=N xs/\i=U O k/\Cp PEle Ele.z 2 134 w w.heap.size (N xs) k xs wr) (λi _=>N xs-(intOf i).toNat)
 case atStart=>exact⟨0,Kz _,rfl,C.o⟩
 obtain⟨k,hk,rfl,f⟩:=hrel;clear C q;by_cases g:k<N xs
 . (have M:(k:Int)<(N xs:Int):=by omega);rcases D.o.up (Qa f.bel)with n|⟨b,o,V,_,v⟩
   . subst n;simp at g
   have m:=v k g;have l:=Hl.o k g;subst V;obtain⟨x,n⟩:∃x,x=xs.getD k Ele.z:=⟨_,rfl⟩;rw[<- n]at m l;obtain⟨a1,Y,a2,X,⟨F,E⟩,u⟩:=m;have B:=Hm (toEle_c x a1 Y a2 X wr u l);have HX:=Hm n;have s:=Hm f;clear n v f u D;(go_wp2_with fail);refine B.o.mono ?_;rintro e w1 ⟨b1,b2,rfl,t,y⟩;have d:=s.o.keep PEle.up y;obtain⟨I,j,R⟩:=d.cells;obtain⟨u0,e0⟩:=j (k*2) (by omega);obtain⟨u1,e1⟩:=j (k*2+1) (by omega);have r:=Hm (d.step PEle.up g [S (some ⟨b1,0,none⟩) (N x.off) (N x.off),S (some ⟨b2,0,none⟩) (N x.fs) (N x.fs)] rfl (by rw[<- HX.o];exact⟨_,_,_,_,rfl,t.mono (by have:=s.o.cells.1;omega)⟩));clear t y d j B s F E;go_wp2;(go_roundw);(case rel=>exact⟨k+1,by omega,by go_num,r.o⟩);case measure=>simp[intOf];omega
 have e:k=N xs:=by omega
 subst e;go_wp2;go_ret;exact⟨rfl,PEle.ls f,f.bel⟩
theorem toCod_c (x:Cod)(n:Option Addr)(c1:Nat)(m:Option Addr)(c2:Nat)(w:J)(hI:Cod.Is 0 w x n m)(hl:Cod.LB 1048576 x):Ec Q 75 #[Ag #[S n (N x.locs) c1,S m (N x.body) c2]] w λe w'=>∃k j,e=Z (Ag #[S (some ⟨k,0,none⟩) (N x.locs) (N x.locs),S (some ⟨j,0,none⟩) (N x.body) (N x.body)])/\Cod.Is w.heap.size w' x (some ⟨k,0,none⟩) (some ⟨j,0,none⟩)/\Below w.heap.size w w':=by
 obtain⟨q,E⟩:∃q,q=w.heap.size:=⟨_,rfl⟩;obtain⟨t,a⟩:∃V,V=((w.alloc (Fc #[S n (N x.locs) c1,S m (N x.body) c2] 121)).alloc (Fc #[S none 0 0,S none 0 0] 138)).alloc (Fc #[S none 0 0,S none 0 0] 138):=⟨_,rfl⟩;have g:Mo w.heap.size w [box 138 2 (q+2) [S none 0 0,S none 0 0],box 138 2 (q+1) [S none 0 0,S none 0 0],box 121 2 q [S n (N x.locs) c1,S m (N x.body) c2]] t:=by have h0:Mo w.heap.size w [] w:=⟨Own.nil _ _,bFz,lRz⟩;have:=((h0.box (cur:=#[S n (N x.locs) c1,S m (N x.body) c2]) 121 2 rfl).box (cur:=#[S none 0 0,S none 0 0]) 138 2 rfl).box (cur:=#[S none 0 0,S none 0 0]) 138 2 rfl;rw[a,E];simpa using this
 have ai:q+3<=t.heap.size:=by rw[a,E];simp
 have A:w.heap.size<=q+3:=by omega
 have HI:=Hm hI;have HL:=Hm hl;clear hI hl;go_enter func75,ntmps75;go_upto_region 2 with fail
 rw[<- a,<- E];clear a E;have d:=(g.tail.tail.b0 0 (u:=S n (N x.locs) c1)).1;have s:=Hm (toGrps_c n c1 x.locs t HL.o.1 ((HI.o.1).up (Qa g.b)));obtain⟨k,p⟩:∃B,B=t.heap.size:=⟨_,rfl⟩;rw[<- p]at s;have L:q+3<=k:=by omega
 have C:=Hm p;clear p;go_wp2_with fail
 refine s.o.mono ?_;rintro e W ⟨rfl,Y,l⟩;rw[C.o]at l;have c:=g.keep l;obtain⟨z,y⟩:=c.b0 0 (u:=S none 0 0);obtain⟨V1,a⟩:∃V,V=W.setCell ⟨q+2,0,none⟩ (S (some ⟨k,0,none⟩) (N x.locs) (N x.locs)):=⟨_,rfl⟩;have f:=c.set 0 (S (some ⟨k,0,none⟩) (N x.locs) (N x.locs));rw[<- a]at f;have U0:Hid (Up (q+3) t V1):=by rw[a];exact upS l (by omega)
 have ah:t.heap.size<=V1.heap.size:=by rw[a];simpa using l.size
 have N1:=Hm ((Y.mono L).up (show Up (q+3) W V1 by rw[a];exact Q5 (by omega)));clear g c l d Y s C;go_upto_region 3 with fail
 rw[<- a];clear a z y;have g:=f;clear f;have d:=(g.tail.tail.b0 1 (u:=S m (N x.body) c2)).1;have s:=Hm (toIns_c m c2 x.body V1 HL.o.2 ((HI.o.2).up (Qa g.b)));obtain⟨j,p⟩:∃B,B=V1.heap.size:=⟨_,rfl⟩;rw[<- p]at s;have I:q+3<=j:=by omega
 have C:=Hm p;clear p;go_wp2_with fail
 refine s.o.mono ?_;rintro e W ⟨rfl,X,l⟩;rw[C.o]at l;have c:=g.keep l;obtain⟨z,y⟩:=c.b0 1 (u:=S none 0 0);obtain⟨r,a⟩:∃V,V=W.setCell ⟨q+2,1,none⟩ (S (some ⟨j,0,none⟩) (N x.body) (N x.body)):=⟨_,rfl⟩;have f:=c.set 1 (S (some ⟨j,0,none⟩) (N x.body) (N x.body));rw[<- a]at f;have U1:Hid (Up (q+3) V1 r):=by rw[a];exact upS l (by omega)
 have H:V1.heap.size<=r.heap.size:=by rw[a];simpa using l.size
 have N2:=Hm ((X.mono I).up (show Up (q+3) W r by rw[a];exact Q5 (by omega)));clear g c l d X s C;go_upto_region 4 with fail
 rw[<- a];clear a z y;have g:=f;clear f;have D:=g.perm (Tw _ _ _);have k0:=(g.b0 0 (u:=S (some ⟨k,0,none⟩) (N x.locs) (N x.locs))).1;obtain⟨z0,y0⟩:=D.b0 0 (u:=S none 0 0);have k1:=(g.b0 1 (u:=S (some ⟨j,0,none⟩) (N x.body) (N x.body))).1;obtain⟨z1,y1⟩:=D.b0 1 (u:=S none 0 0);have HF:=Hm ((D.set 0 (S (some ⟨k,0,none⟩) (N x.locs) (N x.locs))).set 1 (S (some ⟨j,0,none⟩) (N x.body) (N x.body)));have R:Up (q+3) r r:=λ_ _ _=>rfl;have F1:=upT U1.o H R;have M1:=Hm (N1.o.up F1);have M2:=Hm (N2.o.up R);clear F1 R;clear D g;go_wp2;refine bgen (λM=>Mo w.heap.size w [box 138 2 (q+1) [S (some ⟨k,0,none⟩) (N x.locs) (N x.locs),S (some ⟨j,0,none⟩) (N x.body) (N x.body)],box 138 2 (q+2) [S (some ⟨k,0,none⟩) (N x.locs) (N x.locs),S (some ⟨j,0,none⟩) (N x.body) (N x.body)],box 121 2 q [S n (N x.locs) c1,S m (N x.body) c2]] M/\Up (q+3) r M) ⟨HF.o,JM (by omega) [S (some ⟨k,0,none⟩) (N x.locs) (N x.locs),S (some ⟨j,0,none⟩) (N x.body) (N x.body)] r 0⟩ ?_;rintro M ⟨F,hu⟩;have u0:=(F.b0 0 (u:=S (some ⟨k,0,none⟩) (N x.locs) (N x.locs))).1;have u1:=(F.b0 1 (u:=S (some ⟨j,0,none⟩) (N x.body) (N x.body))).1;exact bodyPost_ret (v:=Ag #[S (some ⟨k,0,none⟩) (N x.locs) (N x.locs),S (some ⟨j,0,none⟩) (N x.body) (N x.body)]) (by simp[results,results75,go_sem,u0,u1]) rfl ⟨k,j,rfl,⟨(M1.o.up hu).mono A,(M2.o.up hu).mono A⟩,F.b⟩
def PCod (B:Nat)(w:J)(x:Cod)(cs:List Vu):Prop:=∃a1 c1 a2 c2,cs=[S a1 (N x.locs) c1,S a2 (N x.body) c2]/\Cod.Is B w x a1 a2
theorem PCod.up (B:Nat)(w a:J)(x:Cod)(cs:List Vu):PCod B w x cs->Up B w a->PCod B a x cs:=λ⟨a1,c1,a2,c2,e,h⟩ u=>⟨a1,c1,a2,c2,e,h.up u⟩
theorem PCod.ls {xs:List Cod}(h:Cp PCod Cod.z 2 138 w g (N xs) (N xs) xs W):Cod.Ls g W (some ⟨g,0,none⟩) xs:=by
 refine .inr ⟨g,0,rfl,lRz,λi hi=>?_⟩;obtain⟨k,_,b,j,d,f,c,rfl,a⟩:=h.done i hi;rw[Hq];exact Cod.At.mono (show Cod.At (g+1) W g (i*2) (xs.getD i Cod.z)from⟨j,d,f,c,⟨b 0 _ rfl,b 1 _ rfl⟩,a⟩) (Mk g)
theorem nfCod:(Q.info? 138).map (λi=>(i.zero,i.size,i.bytes))=some (some (Ag #[S none 0 0,S none 0 0]),2,48):=by kernel_rfl
theorem toCods_c (a:Option Addr)(c:Nat)(xs:List Cod)(w:J)(L:N xs<=1048576/\∀i,i<N xs->Cod.LB 1048576 (xs.getD i Cod.z))(A:Cod.Ls 0 w a xs):Ec Q 31 #[S a (N xs) c] w λe w'=>e=Z (S (some ⟨w.heap.size,0,none⟩) (N xs) (N xs))/\Cod.Ls w.heap.size w' (some ⟨w.heap.size,0,none⟩) xs/\Below w.heap.size w w':=by
 obtain⟨H,p⟩:=L;have q:=XP underlying44 nfCod (by omega) (N xs) H;have D:=Hm A;have Hl:=Hm p;have C:Hid (Cp PCod Cod.z 2 138 w w.heap.size (N xs) 0 xs (w.alloc (Fc (madeCells #[S none 0 0,S none 0 0] (N xs*2)) 138))):=Cp.start (by simp[madeCells]);clear A p;go_enter func31,ntmps31;go_wp2;go_loopw [4] (λi wr=>∃k:Nat,k<=N xs/\i=U O k/\Cp PCod Cod.z 2 138 w w.heap.size (N xs) k xs wr) (λi _=>N xs-(intOf i).toNat)
 case atStart=>exact⟨0,Kz _,rfl,C.o⟩
 obtain⟨k,hk,rfl,f⟩:=hrel;clear C q;by_cases g:k<N xs
 . (have M:(k:Int)<(N xs:Int):=by omega);rcases D.o.up (Qa f.bel)with n|⟨b,o,V,_,v⟩
   . subst n;simp at g
   have m:=v k g;have l:=Hl.o k g;subst V;obtain⟨x,n⟩:∃x,x=xs.getD k Cod.z:=⟨_,rfl⟩;rw[<- n]at m l;obtain⟨a1,Y,a2,X,⟨F,E⟩,u⟩:=m;have B:=Hm (toCod_c x a1 Y a2 X wr u l);have HX:=Hm n;have s:=Hm f;clear n v f u D;(go_wp2_with fail);refine B.o.mono ?_;rintro e w1 ⟨b1,b2,rfl,t,y⟩;have d:=s.o.keep PCod.up y;obtain⟨I,j,R⟩:=d.cells;obtain⟨u0,e0⟩:=j (k*2) (by omega);obtain⟨u1,e1⟩:=j (k*2+1) (by omega);have r:=Hm (d.step PCod.up g [S (some ⟨b1,0,none⟩) (N x.locs) (N x.locs),S (some ⟨b2,0,none⟩) (N x.body) (N x.body)] rfl (by rw[<- HX.o];exact⟨_,_,_,_,rfl,t.mono (by have:=s.o.cells.1;omega)⟩));clear t y d j B s F E;go_wp2;(go_roundw);(case rel=>exact⟨k+1,by omega,by go_num,r.o⟩);case measure=>simp[intOf];omega
 have e:k=N xs:=by omega
 subst e;go_wp2;go_ret;exact⟨rfl,PCod.ls f,f.bel⟩
theorem toDat_c (x:Dat)(n:Option Addr)(c1:Nat)(m:Option Addr)(c2:Nat)(w:J)(hI:Dat.Is 0 w x n m)(hl:Dat.LB 1048576 x):Ec Q 76 #[Ag #[S n (N x.off) c1,S m (N x.bs) c2]] w λe w'=>∃k j,e=Z (Ag #[S (some ⟨k,0,none⟩) (N x.off) (N x.off),S (some ⟨j,0,none⟩) (N x.bs) (N x.bs)])/\Dat.Is w.heap.size w' x (some ⟨k,0,none⟩) (some ⟨j,0,none⟩)/\Below w.heap.size w w':=by
 obtain⟨q,E⟩:∃q,q=w.heap.size:=⟨_,rfl⟩;obtain⟨t,a⟩:∃V,V=((w.alloc (Fc #[S n (N x.off) c1,S m (N x.bs) c2] 125)).alloc (Fc #[S none 0 0,S none 0 0] 140)).alloc (Fc #[S none 0 0,S none 0 0] 140):=⟨_,rfl⟩;have g:Mo w.heap.size w [box 140 2 (q+2) [S none 0 0,S none 0 0],box 140 2 (q+1) [S none 0 0,S none 0 0],box 125 2 q [S n (N x.off) c1,S m (N x.bs) c2]] t:=by have h0:Mo w.heap.size w [] w:=⟨Own.nil _ _,bFz,lRz⟩;have:=((h0.box (cur:=#[S n (N x.off) c1,S m (N x.bs) c2]) 125 2 rfl).box (cur:=#[S none 0 0,S none 0 0]) 140 2 rfl).box (cur:=#[S none 0 0,S none 0 0]) 140 2 rfl;rw[a,E];simpa using this
 have ai:q+3<=t.heap.size:=by rw[a,E];simp
 have A:w.heap.size<=q+3:=by omega
 have HI:=Hm hI;have HL:=Hm hl;clear hI hl;go_enter func76,ntmps76;go_upto_region 2 with fail
 rw[<- a,<- E];clear a E;have d:=(g.tail.tail.b0 0 (u:=S n (N x.off) c1)).1;have s:=Hm (toIns_c n c1 x.off t HL.o.1 ((HI.o.1).up (Qa g.b)));obtain⟨k,p⟩:∃B,B=t.heap.size:=⟨_,rfl⟩;rw[<- p]at s;have L:q+3<=k:=by omega
 have C:=Hm p;clear p;go_wp2_with fail
 refine s.o.mono ?_;rintro e W ⟨rfl,Y,l⟩;rw[C.o]at l;have c:=g.keep l;obtain⟨z,y⟩:=c.b0 0 (u:=S none 0 0);obtain⟨V1,a⟩:∃V,V=W.setCell ⟨q+2,0,none⟩ (S (some ⟨k,0,none⟩) (N x.off) (N x.off)):=⟨_,rfl⟩;have f:=c.set 0 (S (some ⟨k,0,none⟩) (N x.off) (N x.off));rw[<- a]at f;have U0:Hid (Up (q+3) t V1):=by rw[a];exact upS l (by omega)
 have ah:t.heap.size<=V1.heap.size:=by rw[a];simpa using l.size
 have N1:=Hm ((Y.mono L).up (show Up (q+3) W V1 by rw[a];exact Q5 (by omega)));clear g c l d Y s C;go_upto_region 3 with fail
 rw[<- a];clear a z y;have g:=f;clear f;have d:=(g.tail.tail.b0 1 (u:=S m (N x.bs) c2)).1;have s:=Hm (rtBytes_c m c2 x.bs V1 HL.o.2 ((HI.o.2).up (Qa g.b)));obtain⟨j,p⟩:∃B,B=V1.heap.size:=⟨_,rfl⟩;rw[<- p]at s;have I:q+3<=j:=by omega
 have C:=Hm p;clear p;go_wp2_with fail
 refine s.o.mono ?_;rintro e W ⟨rfl,X,l⟩;rw[C.o]at l;have c:=g.keep l;obtain⟨z,y⟩:=c.b0 1 (u:=S none 0 0);obtain⟨r,a⟩:∃V,V=W.setCell ⟨q+2,1,none⟩ (S (some ⟨j,0,none⟩) (N x.bs) (N x.bs)):=⟨_,rfl⟩;have f:=c.set 1 (S (some ⟨j,0,none⟩) (N x.bs) (N x.bs));rw[<- a]at f;have U1:Hid (Up (q+3) V1 r):=by rw[a];exact upS l (by omega)
 have H:V1.heap.size<=r.heap.size:=by rw[a];simpa using l.size
 have N2:=Hm ((X.mono I).up (show Up (q+3) W r by rw[a];exact Q5 (by omega)));clear g c l d X s C;go_upto_region 4 with fail
 rw[<- a];clear a z y;have g:=f;clear f;have D:=g.perm (Tw _ _ _);have k0:=(g.b0 0 (u:=S (some ⟨k,0,none⟩) (N x.off) (N x.off))).1;obtain⟨z0,y0⟩:=D.b0 0 (u:=S none 0 0);have k1:=(g.b0 1 (u:=S (some ⟨j,0,none⟩) (N x.bs) (N x.bs))).1;obtain⟨z1,y1⟩:=D.b0 1 (u:=S none 0 0);have HF:=Hm ((D.set 0 (S (some ⟨k,0,none⟩) (N x.off) (N x.off))).set 1 (S (some ⟨j,0,none⟩) (N x.bs) (N x.bs)));have R:Up (q+3) r r:=λ_ _ _=>rfl;have F1:=upT U1.o H R;have M1:=Hm (N1.o.up F1);have M2:=Hm (N2.o.up R);clear F1 R;clear D g;go_wp2;refine bgen (λM=>Mo w.heap.size w [box 140 2 (q+1) [S (some ⟨k,0,none⟩) (N x.off) (N x.off),S (some ⟨j,0,none⟩) (N x.bs) (N x.bs)],box 140 2 (q+2) [S (some ⟨k,0,none⟩) (N x.off) (N x.off),S (some ⟨j,0,none⟩) (N x.bs) (N x.bs)],box 125 2 q [S n (N x.off) c1,S m (N x.bs) c2]] M/\Up (q+3) r M) ⟨HF.o,JM (by omega) [S (some ⟨k,0,none⟩) (N x.off) (N x.off),S (some ⟨j,0,none⟩) (N x.bs) (N x.bs)] r 0⟩ ?_;rintro M ⟨F,hu⟩;have u0:=(F.b0 0 (u:=S (some ⟨k,0,none⟩) (N x.off) (N x.off))).1;have u1:=(F.b0 1 (u:=S (some ⟨j,0,none⟩) (N x.bs) (N x.bs))).1;exact bodyPost_ret (v:=Ag #[S (some ⟨k,0,none⟩) (N x.off) (N x.off),S (some ⟨j,0,none⟩) (N x.bs) (N x.bs)]) (by simp[results,results76,go_sem,u0,u1]) rfl ⟨k,j,rfl,⟨(M1.o.up hu).mono A,(M2.o.up hu).mono A⟩,F.b⟩
def PDat (B:Nat)(w:J)(x:Dat)(cs:List Vu):Prop:=∃a1 c1 a2 c2,cs=[S a1 (N x.off) c1,S a2 (N x.bs) c2]/\Dat.Is B w x a1 a2
theorem PDat.up (B:Nat)(w a:J)(x:Dat)(cs:List Vu):PDat B w x cs->Up B w a->PDat B a x cs:=λ⟨a1,c1,a2,c2,e,h⟩ u=>⟨a1,c1,a2,c2,e,h.up u⟩
theorem PDat.ls {xs:List Dat}(h:Cp PDat Dat.z 2 140 w g (N xs) (N xs) xs W):Dat.Ls g W (some ⟨g,0,none⟩) xs:=by
 refine .inr ⟨g,0,rfl,lRz,λi hi=>?_⟩;obtain⟨k,_,b,j,d,f,c,rfl,a⟩:=h.done i hi;rw[Hq];exact Dat.At.mono (show Dat.At (g+1) W g (i*2) (xs.getD i Dat.z)from⟨j,d,f,c,⟨b 0 _ rfl,b 1 _ rfl⟩,a⟩) (Mk g)
theorem nfDat:(Q.info? 140).map (λi=>(i.zero,i.size,i.bytes))=some (some (Ag #[S none 0 0,S none 0 0]),2,48):=by kernel_rfl
theorem toDats_c (a:Option Addr)(c:Nat)(xs:List Dat)(w:J)(L:N xs<=1048576/\∀i,i<N xs->Dat.LB 1048576 (xs.getD i Dat.z))(A:Dat.Ls 0 w a xs):Ec Q 32 #[S a (N xs) c] w λe w'=>e=Z (S (some ⟨w.heap.size,0,none⟩) (N xs) (N xs))/\Dat.Ls w.heap.size w' (some ⟨w.heap.size,0,none⟩) xs/\Below w.heap.size w w':=by
 obtain⟨H,p⟩:=L;have q:=XP underlying45 nfDat (by omega) (N xs) H;have D:=Hm A;have Hl:=Hm p;have C:Hid (Cp PDat Dat.z 2 140 w w.heap.size (N xs) 0 xs (w.alloc (Fc (madeCells #[S none 0 0,S none 0 0] (N xs*2)) 140))):=Cp.start (by simp[madeCells]);clear A p;go_enter func32,ntmps32;go_wp2;go_loopw [4] (λi wr=>∃k:Nat,k<=N xs/\i=U O k/\Cp PDat Dat.z 2 140 w w.heap.size (N xs) k xs wr) (λi _=>N xs-(intOf i).toNat)
 case atStart=>exact⟨0,Kz _,rfl,C.o⟩
 obtain⟨k,hk,rfl,f⟩:=hrel;clear C q;by_cases g:k<N xs
 . (have M:(k:Int)<(N xs:Int):=by omega);rcases D.o.up (Qa f.bel)with n|⟨b,o,V,_,v⟩
   . subst n;simp at g
   have m:=v k g;have l:=Hl.o k g;subst V;obtain⟨x,n⟩:∃x,x=xs.getD k Dat.z:=⟨_,rfl⟩;rw[<- n]at m l;obtain⟨a1,Y,a2,X,⟨F,E⟩,u⟩:=m;have B:=Hm (toDat_c x a1 Y a2 X wr u l);have HX:=Hm n;have s:=Hm f;clear n v f u D;(go_wp2_with fail);refine B.o.mono ?_;rintro e w1 ⟨b1,b2,rfl,t,y⟩;have d:=s.o.keep PDat.up y;obtain⟨I,j,R⟩:=d.cells;obtain⟨u0,e0⟩:=j (k*2) (by omega);obtain⟨u1,e1⟩:=j (k*2+1) (by omega);have r:=Hm (d.step PDat.up g [S (some ⟨b1,0,none⟩) (N x.off) (N x.off),S (some ⟨b2,0,none⟩) (N x.bs) (N x.bs)] rfl (by rw[<- HX.o];exact⟨_,_,_,_,rfl,t.mono (by have:=s.o.cells.1;omega)⟩));clear t y d j B s F E;go_wp2;(go_roundw);(case rel=>exact⟨k+1,by omega,by go_num,r.o⟩);case measure=>simp[intOf];omega
 have e:k=N xs:=by omega
 subst e;go_wp2;go_ret;exact⟨rfl,PDat.ls f,f.bel⟩
theorem toCus_c (x:Cus)(j:Option Addr)(c1:Nat)(w:J)(L:Cus.Is 0 w x j)(I:Cus.LB 1048576 x):Ec Q 77 #[Ag #[U O x.aft,Xs x.nm,S j (N x.bs) c1]] w λe w'=>∃g,e=Z (Ag #[U O x.aft,Xs x.nm,S (some ⟨g,0,none⟩) (N x.bs) (N x.bs)])/\Cus.Is w.heap.size w' x (some ⟨g,0,none⟩)/\Below w.heap.size w w':=by
 obtain⟨q,t⟩:∃q,q=w.heap.size:=⟨_,rfl⟩;obtain⟨r,c⟩:∃V,V=((w.alloc (Fc #[U O x.aft,Xs x.nm,S j (N x.bs) c1] 128)).alloc (Fc #[U O 0,Xs ⟨#[]⟩,S none 0 0] 141)).alloc (Fc #[U O 0,Xs ⟨#[]⟩,S none 0 0] 141):=⟨_,rfl⟩;have f:Mo w.heap.size w [box 141 3 (q+2) [U O 0,Xs ⟨#[]⟩,S none 0 0],box 141 3 (q+1) [U O 0,Xs ⟨#[]⟩,S none 0 0],box 128 3 q [U O x.aft,Xs x.nm,S j (N x.bs) c1]] r:=by have h0:Mo w.heap.size w [] w:=⟨Own.nil _ _,bFz,lRz⟩;have:=((h0.box (cur:=#[U O x.aft,Xs x.nm,S j (N x.bs) c1]) 128 3 rfl).box (cur:=#[U O 0,Xs ⟨#[]⟩,S none 0 0]) 141 3 rfl).box (cur:=#[U O 0,Xs ⟨#[]⟩,S none 0 0]) 141 3 rfl;rw[c,t];simpa using this
 have af:q+3<=r.heap.size:=by rw[c,t];simp
 have A:w.heap.size<=q+3:=by omega
 have HI:=Hm L;have HL:=Hm I;clear L I;go_enter func77,ntmps77;go_upto_region 2 with fail
 rw[<- c,<- t];clear c t;have d:=(f.tail.tail.b0 0 (u:=U O x.aft)).1;obtain⟨z,y⟩:=f.b0 0 (u:=U O 0);obtain⟨V1,c⟩:∃V,V=r.setCell ⟨q+2,0,none⟩ (U O x.aft):=⟨_,rfl⟩;have a:=f.set 0 (U O x.aft);rw[<- c]at a;have U0:Hid (Up (q+3) r V1):=by rw[c];exact upS bFz (by omega)
 have ae:r.heap.size<=V1.heap.size:=by rw[c];simp
 go_upto_region 3 with fail
 rw[<- c];clear c f d z y;have f:=a;clear a;have d:=(f.tail.tail.b0 1 (u:=Xs x.nm)).1;obtain⟨z,y⟩:=f.b0 1 (u:=Xs ⟨#[]⟩);obtain⟨m,c⟩:∃V,V=V1.setCell ⟨q+2,1,none⟩ (Xs x.nm):=⟨_,rfl⟩;have a:=f.set 1 (Xs x.nm);rw[<- c]at a;have U1:Hid (Up (q+3) V1 m):=by rw[c];exact upS bFz (by omega)
 have ad:V1.heap.size<=m.heap.size:=by rw[c];simp
 go_upto_region 4 with fail
 rw[<- c];clear c f d z y;have f:=a;clear a;have d:=(f.tail.tail.b0 2 (u:=S j (N x.bs) c1)).1;have F:=Hm (rtBytes_c j c1 x.bs m HL.o.2 ((HI.o).up (Qa f.b)));obtain⟨g,D⟩:∃B,B=m.heap.size:=⟨_,rfl⟩;rw[<- D]at F;have C:q+3<=g:=by omega
 have M:=Hm D;clear D;go_wp2_with fail
 refine F.o.mono ?_;rintro e W ⟨rfl,H,p⟩;rw[M.o]at p;have k:=f.keep p;obtain⟨z,y⟩:=k.b0 2 (u:=S none 0 0);obtain⟨l,c⟩:∃V,V=W.setCell ⟨q+2,2,none⟩ (S (some ⟨g,0,none⟩) (N x.bs) (N x.bs)):=⟨_,rfl⟩;have a:=k.set 2 (S (some ⟨g,0,none⟩) (N x.bs) (N x.bs));rw[<- c]at a;have U2:Hid (Up (q+3) m l):=by rw[c];exact upS p (by omega)
 have ac:m.heap.size<=l.heap.size:=by rw[c];simpa using p.size
 have N1:=Hm ((H.mono C).up (show Up (q+3) W l by rw[c];exact Q5 (by omega)));clear f k p d H F M;go_upto_region 5 with fail
 rw[<- c];clear c z y;have f:=a;clear a;have n:=f.perm (Tw _ _ _);have k0:=(f.b0 0 (u:=U O x.aft)).1;obtain⟨z0,y0⟩:=n.b0 0 (u:=U O 0);have k1:=(f.b0 1 (u:=Xs x.nm)).1;obtain⟨z1,y1⟩:=n.b0 1 (u:=Xs ⟨#[]⟩);have k2:=(f.b0 2 (u:=S (some ⟨g,0,none⟩) (N x.bs) (N x.bs))).1;obtain⟨z2,y2⟩:=n.b0 2 (u:=S none 0 0);have HF:=Hm (((n.set 0 (U O x.aft)).set 1 (Xs x.nm)).set 2 (S (some ⟨g,0,none⟩) (N x.bs) (N x.bs)));have R:Up (q+3) l l:=λ_ _ _=>rfl;have M1:=Hm (N1.o.up R);clear R;clear n f;go_wp2;refine bgen (λE=>Mo w.heap.size w [box 141 3 (q+1) [U O x.aft,Xs x.nm,S (some ⟨g,0,none⟩) (N x.bs) (N x.bs)],box 141 3 (q+2) [U O x.aft,Xs x.nm,S (some ⟨g,0,none⟩) (N x.bs) (N x.bs)],box 128 3 q [U O x.aft,Xs x.nm,S j (N x.bs) c1]] E/\Up (q+3) l E) ⟨HF.o,JM (by omega) [U O x.aft,Xs x.nm,S (some ⟨g,0,none⟩) (N x.bs) (N x.bs)] l 0⟩ ?_;rintro E ⟨s,hu⟩;have u0:=(s.b0 0 (u:=U O x.aft)).1;have Y:=(s.b0 1 (u:=Xs x.nm)).1;have X:=(s.b0 2 (u:=S (some ⟨g,0,none⟩) (N x.bs) (N x.bs))).1;exact bodyPost_ret (v:=Ag #[U O x.aft,Xs x.nm,S (some ⟨g,0,none⟩) (N x.bs) (N x.bs)]) (by simp[results,results77,go_sem,u0,Y,X]) rfl ⟨g,rfl,(M1.o.up hu).mono A,s.b⟩
def PCus (B:Nat)(w:J)(x:Cus)(cs:List Vu):Prop:=∃a1 c1,cs=[U O x.aft,Xs x.nm,S a1 (N x.bs) c1]/\Cus.Is B w x a1
theorem PCus.up (B:Nat)(w a:J)(x:Cus)(cs:List Vu):PCus B w x cs->Up B w a->PCus B a x cs:=λ⟨a1,c1,e,h⟩ u=>⟨a1,c1,e,h.up u⟩
theorem PCus.ls {xs:List Cus}(h:Cp PCus Cus.z 3 141 w g (N xs) (N xs) xs W):Cus.Ls g W (some ⟨g,0,none⟩) xs:=by
 refine .inr ⟨g,0,rfl,lRz,λi hi=>?_⟩;obtain⟨f,_,b,d,c,rfl,a⟩:=h.done i hi;rw[Hq];exact Cus.At.mono (show Cus.At (g+1) W g (i*3) (xs.getD i Cus.z)from⟨d,c,⟨b 0 _ rfl,b 1 _ rfl,b 2 _ rfl⟩,a⟩) (Mk g)
theorem nfCus:(Q.info? 141).map (λi=>(i.zero,i.size,i.bytes))=some (some (Ag #[U O 0,Xs ⟨#[]⟩,S none 0 0]),3,48):=by kernel_rfl
theorem toCuss_c (a:Option Addr)(c:Nat)(xs:List Cus)(w:J)(M:N xs<=1048576/\∀i,i<N xs->Cus.LB 1048576 (xs.getD i Cus.z))(A:Cus.Ls 0 w a xs):Ec Q 33 #[S a (N xs) c] w λe w'=>e=Z (S (some ⟨w.heap.size,0,none⟩) (N xs) (N xs))/\Cus.Ls w.heap.size w' (some ⟨w.heap.size,0,none⟩) xs/\Below w.heap.size w w':=by
 obtain⟨I,p⟩:=M;have q:=XP underlying46 nfCus (by omega) (N xs) I;have D:=Hm A;have Hl:=Hm p;have C:Hid (Cp PCus Cus.z 3 141 w w.heap.size (N xs) 0 xs (w.alloc (Fc (madeCells #[U O 0,Xs ⟨#[]⟩,S none 0 0] (N xs*3)) 141))):=Cp.start (by simp[madeCells]);clear A p;go_enter func33,ntmps33;go_wp2;go_loopw [4] (λi wr=>∃k:Nat,k<=N xs/\i=U O k/\Cp PCus Cus.z 3 141 w w.heap.size (N xs) k xs wr) (λi _=>N xs-(intOf i).toNat)
 case atStart=>exact⟨0,Kz _,rfl,C.o⟩
 obtain⟨k,hk,rfl,f⟩:=hrel;clear C q;by_cases g:k<N xs
 . (have R:(k:Int)<(N xs:Int):=by omega);rcases D.o.up (Qa f.bel)with n|⟨b,o,X,_,v⟩
   . subst n;simp at g
   have m:=v k g;have l:=Hl.o k g;subst X;obtain⟨x,n⟩:∃x,x=xs.getD k Cus.z:=⟨_,rfl⟩;rw[<- n]at m l;obtain⟨a1,Y,⟨H,F,E⟩,u⟩:=m;have B:=Hm (toCus_c x a1 Y wr u l);have HX:=Hm n;have s:=Hm f;clear n v f u D;(go_wp2_with fail);refine B.o.mono ?_;rintro e w1 ⟨b1,rfl,t,y⟩;have d:=s.o.keep PCus.up y;obtain⟨L,j,V⟩:=d.cells;obtain⟨u0,e0⟩:=j (k*3) (by omega);obtain⟨u1,e1⟩:=j (k*3+1) (by omega);obtain⟨u2,e2⟩:=j (k*3+2) (by omega);have r:=Hm (d.step PCus.up g [U O x.aft,Xs x.nm,S (some ⟨b1,0,none⟩) (N x.bs) (N x.bs)] rfl (by rw[<- HX.o];exact⟨_,_,rfl,t.mono (by have:=s.o.cells.1;omega)⟩));clear t y d j B s H F E;go_wp2;(go_roundw);(case rel=>exact⟨k+1,by omega,by go_num,r.o⟩);case measure=>simp[intOf];omega
 have e:k=N xs:=by omega
 subst e;go_wp2;go_ret;exact⟨rfl,PCus.ls f,f.bel⟩
theorem toMd_c (md:Mod)(A:MdA)(w:J)(hI:Mod.Is 0 w md A.a1 A.a2 A.a3 A.a4 A.a5 A.a6 A.a7 A.a8 A.a9 A.a10 A.a11)(hl:Mod.LB 1048576 md):Ec Q 6 #[mdV md A] w λe w'=>∃B:MdA,e=Z (mdV md B)/\Mod.Is 0 w' md B.a1 B.a2 B.a3 B.a4 B.a5 B.a6 B.a7 B.a8 B.a9 B.a10 B.a11/\Below w.heap.size w w':=by
 obtain⟨q,hq⟩:∃q,q=w.heap.size:=⟨_,rfl⟩;have HQ:=Hm hq;obtain⟨V0,c⟩:∃V,V=((w.alloc (Fc (mdC md A) 33)).alloc (Fc #[S none 0 0,S none 0 0,S none 0 0,S none 0 0,S none 0 0,S none 0 0,S none 0 0,G false,U O 0,S none 0 0,S none 0 0,S none 0 0,S none 0 0] 48)).alloc (Fc #[S none 0 0,S none 0 0,S none 0 0,S none 0 0,S none 0 0,S none 0 0,S none 0 0,G false,U O 0,S none 0 0,S none 0 0,S none 0 0,S none 0 0] 48):=⟨_,rfl⟩;obtain⟨T,hT⟩:∃T:List Qc,T=[box 48 13 (q+1) (#[S none 0 0,S none 0 0,S none 0 0,S none 0 0,S none 0 0,S none 0 0,S none 0 0,G false,U O 0,S none 0 0,S none 0 0,S none 0 0,S none 0 0]:Array Vu).toList,box 33 13 q (mdC md A).toList]:=⟨_,rfl⟩;have l:Mo w.heap.size w (box 48 13 (q+2) (#[S none 0 0,S none 0 0,S none 0 0,S none 0 0,S none 0 0,S none 0 0,S none 0 0,G false,U O 0,S none 0 0,S none 0 0,S none 0 0,S none 0 0]:Array Vu).toList::T) V0:=by have h0:Mo w.heap.size w [] w:=⟨Own.nil _ _,bFz,lRz⟩;have:=((h0.box (cur:=mdC md A) 33 13 rfl).box (cur:=#[S none 0 0,S none 0 0,S none 0 0,S none 0 0,S none 0 0,S none 0 0,S none 0 0,G false,U O 0,S none 0 0,S none 0 0,S none 0 0,S none 0 0]) 48 13 rfl).box (cur:=#[S none 0 0,S none 0 0,S none 0 0,S none 0 0,S none 0 0,S none 0 0,S none 0 0,G false,U O 0,S none 0 0,S none 0 0,S none 0 0,S none 0 0]) 48 13 rfl;rw[c,hT,hq];simpa using this
 have dx:q+3<=V0.heap.size:=by rw[c,hq];simp
 have CM:Hid (∀{r:Qc} {W':J},Mo w.heap.size w (r::T) W'->∀j u,j<13->(mdC md A).toList[j]?=some u->W'.cell? ⟨q,j,none⟩=some u):=λh j u hj Y=>by rw[hT]at h;exact(h.bx (t:=33) (n:=13) (g:=q) (cs:=(mdC md A).toList) (by simp) j hj Y).1
 have HT:=Hm hT;have HI:=Hm hI;have HL:=Hm hl;clear hI hl hT;go_enter func6,ntmps6;go_upto_region 2 with fail
 rw[<- c,<- hq];clear c hq;have d:=CM.o l 0 (S A.a1 (N md.types) A.c1) (by omega) rfl;have s:=Hm (toFTypes_c A.a1 A.c1 md.types V0 (HL.o.1) ((HI.o.1).up (Qa l.b)));obtain⟨B1,p⟩:∃B,B=V0.heap.size:=⟨_,rfl⟩;rw[<- p]at s;have cb:q+3<=B1:=by omega
 have C:=Hm p;clear p;go_wp2_with fail
 refine s.o.mono ?_;rintro e W ⟨rfl,n1,m⟩;rw[C.o]at m;have f:=l.keep m;obtain⟨z,y⟩:=f.b0 0 (u:=S none 0 0);obtain⟨V1,c⟩:∃V,V=W.setCell ⟨q+2,0,none⟩ (S (some ⟨B1,0,none⟩) (N md.types) (N md.types)):=⟨_,rfl⟩;have a:=f.set 0 (S (some ⟨B1,0,none⟩) (N md.types) (N md.types));rw[<- c]at a;have U0:Hid (Up (q+3) V0 V1):=by rw[c];exact upS m (by omega)
 have b2:V0.heap.size<=V1.heap.size:=by rw[c];simpa using m.size
 have N1:=Hm ((n1.mono cb).up (show Up (q+3) W V1 by rw[c];exact Q5 (by omega)));clear l f m d n1 s C;go_upto_region 3 with fail
 rw[<- c];clear c z y;have l:=a;clear a;have d:=CM.o l 1 (S A.a2 (N md.imps) A.c2) (by omega) rfl;have s:=Hm (toImps_c A.a2 A.c2 md.imps V1 (HL.o.2.1) ((HI.o.2.1).up (Qa l.b)));obtain⟨B2,p⟩:∃B,B=V1.heap.size:=⟨_,rfl⟩;rw[<- p]at s;have ca:q+3<=B2:=by omega
 have C:=Hm p;clear p;go_wp2_with fail
 refine s.o.mono ?_;rintro e W ⟨rfl,n2,m⟩;rw[C.o]at m;have f:=l.keep m;obtain⟨z,y⟩:=f.b0 1 (u:=S none 0 0);obtain⟨V2,c⟩:∃V,V=W.setCell ⟨q+2,1,none⟩ (S (some ⟨B2,0,none⟩) (N md.imps) (N md.imps)):=⟨_,rfl⟩;have a:=f.set 1 (S (some ⟨B2,0,none⟩) (N md.imps) (N md.imps));rw[<- c]at a;have U1:Hid (Up (q+3) V1 V2):=by rw[c];exact upS m (by omega)
 have b1:V1.heap.size<=V2.heap.size:=by rw[c];simpa using m.size
 have N2:=Hm ((n2.mono ca).up (show Up (q+3) W V2 by rw[c];exact Q5 (by omega)));clear l f m d n2 s C;go_upto_region 4 with fail
 rw[<- c];clear c z y;have l:=a;clear a;have d:=CM.o l 2 (S A.a3 (N md.funcs) A.c3) (by omega) rfl;have s:=Hm (rtInts_c A.a3 A.c3 md.funcs V2 (HL.o.2.2.1) ((HI.o.2.2.1).up (Qa l.b)));obtain⟨B3,p⟩:∃B,B=V2.heap.size:=⟨_,rfl⟩;rw[<- p]at s;have b9:q+3<=B3:=by omega
 have C:=Hm p;clear p;go_wp2_with fail
 refine s.o.mono ?_;rintro e W ⟨rfl,n3,m⟩;rw[C.o]at m;have f:=l.keep m;obtain⟨z,y⟩:=f.b0 2 (u:=S none 0 0);obtain⟨V3,c⟩:∃V,V=W.setCell ⟨q+2,2,none⟩ (S (some ⟨B3,0,none⟩) (N md.funcs) (N md.funcs)):=⟨_,rfl⟩;have a:=f.set 2 (S (some ⟨B3,0,none⟩) (N md.funcs) (N md.funcs));rw[<- c]at a;have U2:Hid (Up (q+3) V2 V3):=by rw[c];exact upS m (by omega)
 have bz:V2.heap.size<=V3.heap.size:=by rw[c];simpa using m.size
 have N3:=Hm ((n3.mono b9).up (show Up (q+3) W V3 by rw[c];exact Q5 (by omega)));clear l f m d n3 s C;go_upto_region 5 with fail
 rw[<- c];clear c z y;have l:=a;clear a;have d:=CM.o l 3 (S A.a4 (N md.tabs) A.c4) (by omega) rfl;have s:=Hm (toLimitss_c A.a4 A.c4 md.tabs V3 (HL.o.2.2.2.1) ((HI.o.2.2.2.1).up (Qa l.b)));obtain⟨B4,p⟩:∃B,B=V3.heap.size:=⟨_,rfl⟩;rw[<- p]at s;have b8:q+3<=B4:=by omega
 have C:=Hm p;clear p;go_wp2_with fail
 refine s.o.mono ?_;rintro e W ⟨rfl,n4,m⟩;rw[C.o]at m;have f:=l.keep m;obtain⟨z,y⟩:=f.b0 3 (u:=S none 0 0);obtain⟨V4,c⟩:∃V,V=W.setCell ⟨q+2,3,none⟩ (S (some ⟨B4,0,none⟩) (N md.tabs) (N md.tabs)):=⟨_,rfl⟩;have a:=f.set 3 (S (some ⟨B4,0,none⟩) (N md.tabs) (N md.tabs));rw[<- c]at a;have U3:Hid (Up (q+3) V3 V4):=by rw[c];exact upS m (by omega)
 have bw:V3.heap.size<=V4.heap.size:=by rw[c];simpa using m.size
 have N4:=Hm ((n4.mono b8).up (show Up (q+3) W V4 by rw[c];exact Q5 (by omega)));clear l f m d n4 s C;go_upto_region 6 with fail
 rw[<- c];clear c z y;have l:=a;clear a;have d:=CM.o l 4 (S A.a5 (N md.mems) A.c5) (by omega) rfl;have s:=Hm (toLimitss_c A.a5 A.c5 md.mems V4 (HL.o.2.2.2.2.1) ((HI.o.2.2.2.2.1).up (Qa l.b)));obtain⟨B5,p⟩:∃B,B=V4.heap.size:=⟨_,rfl⟩;rw[<- p]at s;have b7:q+3<=B5:=by omega
 have C:=Hm p;clear p;go_wp2_with fail
 refine s.o.mono ?_;rintro e W ⟨rfl,n5,m⟩;rw[C.o]at m;have f:=l.keep m;obtain⟨z,y⟩:=f.b0 4 (u:=S none 0 0);obtain⟨V5,c⟩:∃V,V=W.setCell ⟨q+2,4,none⟩ (S (some ⟨B5,0,none⟩) (N md.mems) (N md.mems)):=⟨_,rfl⟩;have a:=f.set 4 (S (some ⟨B5,0,none⟩) (N md.mems) (N md.mems));rw[<- c]at a;have U4:Hid (Up (q+3) V4 V5):=by rw[c];exact upS m (by omega)
 have bv:V4.heap.size<=V5.heap.size:=by rw[c];simpa using m.size
 have N5:=Hm ((n5.mono b7).up (show Up (q+3) W V5 by rw[c];exact Q5 (by omega)));clear l f m d n5 s C;go_upto_region 7 with fail
 rw[<- c];clear c z y;have l:=a;clear a;have d:=CM.o l 5 (S A.a6 (N md.globs) A.c6) (by omega) rfl;have s:=Hm (toGlobs_c A.a6 A.c6 md.globs V5 (HL.o.2.2.2.2.2.1) ((HI.o.2.2.2.2.2.1).up (Qa l.b)));obtain⟨B6,p⟩:∃B,B=V5.heap.size:=⟨_,rfl⟩;rw[<- p]at s;have b6:q+3<=B6:=by omega
 have C:=Hm p;clear p;go_wp2_with fail
 refine s.o.mono ?_;rintro e W ⟨rfl,n6,m⟩;rw[C.o]at m;have f:=l.keep m;obtain⟨z,y⟩:=f.b0 5 (u:=S none 0 0);obtain⟨V6,c⟩:∃V,V=W.setCell ⟨q+2,5,none⟩ (S (some ⟨B6,0,none⟩) (N md.globs) (N md.globs)):=⟨_,rfl⟩;have a:=f.set 5 (S (some ⟨B6,0,none⟩) (N md.globs) (N md.globs));rw[<- c]at a;have U5:Hid (Up (q+3) V5 V6):=by rw[c];exact upS m (by omega)
 have bu:V5.heap.size<=V6.heap.size:=by rw[c];simpa using m.size
 have N6:=Hm ((n6.mono b6).up (show Up (q+3) W V6 by rw[c];exact Q5 (by omega)));clear l f m d n6 s C;go_upto_region 8 with fail
 rw[<- c];clear c z y;have l:=a;clear a;have d:=CM.o l 6 (S A.a7 (N md.exps) A.c7) (by omega) rfl;have s:=Hm (toExps_c A.a7 A.c7 md.exps V6 (HL.o.2.2.2.2.2.2.1) ((HI.o.2.2.2.2.2.2.1).up (Qa l.b)));obtain⟨B7,p⟩:∃B,B=V6.heap.size:=⟨_,rfl⟩;rw[<- p]at s;have b5:q+3<=B7:=by omega
 have C:=Hm p;clear p;go_wp2_with fail
 refine s.o.mono ?_;rintro e W ⟨rfl,n7,m⟩;rw[C.o]at m;have f:=l.keep m;obtain⟨z,y⟩:=f.b0 6 (u:=S none 0 0);obtain⟨V7,c⟩:∃V,V=W.setCell ⟨q+2,6,none⟩ (S (some ⟨B7,0,none⟩) (N md.exps) (N md.exps)):=⟨_,rfl⟩;have a:=f.set 6 (S (some ⟨B7,0,none⟩) (N md.exps) (N md.exps));rw[<- c]at a;have U6:Hid (Up (q+3) V6 V7):=by rw[c];exact upS m (by omega)
 have bt:V6.heap.size<=V7.heap.size:=by rw[c];simpa using m.size
 have N7:=Hm ((n7.mono b5).up (show Up (q+3) W V7 by rw[c];exact Q5 (by omega)));clear l f m d n7 s C;go_upto_region 9 with fail
 rw[<- c];clear c z y;have l:=a;clear a;have d:=CM.o l 7 (G md.hasS) (by omega) rfl;obtain⟨z,y⟩:=l.b0 7 (u:=G false);obtain⟨V8,c⟩:∃V,V=V7.setCell ⟨q+2,7,none⟩ (G md.hasS):=⟨_,rfl⟩;have a:=l.set 7 (G md.hasS);rw[<- c]at a;have U7:Hid (Up (q+3) V7 V8):=by rw[c];exact upS bFz (by omega)
 have bs:V7.heap.size<=V8.heap.size:=by rw[c];simp
 go_upto_region 10 with fail
 rw[<- c];clear c l d z y;have l:=a;clear a;have d:=CM.o l 8 (U O md.start) (by omega) rfl;obtain⟨z,y⟩:=l.b0 8 (u:=U O 0);obtain⟨V9,c⟩:∃V,V=V8.setCell ⟨q+2,8,none⟩ (U O md.start):=⟨_,rfl⟩;have a:=l.set 8 (U O md.start);rw[<- c]at a;have U8:Hid (Up (q+3) V8 V9):=by rw[c];exact upS bFz (by omega)
 have br:V8.heap.size<=V9.heap.size:=by rw[c];simp
 go_upto_region 11 with fail
 rw[<- c];clear c l d z y;have l:=a;clear a;have d:=CM.o l 9 (S A.a8 (N md.elems) A.c8) (by omega) rfl;have s:=Hm (toEles_c A.a8 A.c8 md.elems V9 (HL.o.2.2.2.2.2.2.2.1) ((HI.o.2.2.2.2.2.2.2.1).up (Qa l.b)));obtain⟨B8,p⟩:∃B,B=V9.heap.size:=⟨_,rfl⟩;rw[<- p]at s;have b4:q+3<=B8:=by omega
 have C:=Hm p;clear p;go_wp2_with fail
 refine s.o.mono ?_;rintro e W ⟨rfl,n8,m⟩;rw[C.o]at m;have f:=l.keep m;obtain⟨z,y⟩:=f.b0 9 (u:=S none 0 0);obtain⟨R,c⟩:∃V,V=W.setCell ⟨q+2,9,none⟩ (S (some ⟨B8,0,none⟩) (N md.elems) (N md.elems)):=⟨_,rfl⟩;have a:=f.set 9 (S (some ⟨B8,0,none⟩) (N md.elems) (N md.elems));rw[<- c]at a;have U9:Hid (Up (q+3) V9 R):=by rw[c];exact upS m (by omega)
 have bg:V9.heap.size<=R.heap.size:=by rw[c];simpa using m.size
 have N8:=Hm ((n8.mono b4).up (show Up (q+3) W R by rw[c];exact Q5 (by omega)));clear l f m d n8 s C;go_upto_region 12 with fail
 rw[<- c];clear c z y;have l:=a;clear a;have d:=CM.o l 10 (S A.a9 (N md.codes) A.c9) (by omega) rfl;have s:=Hm (toCods_c A.a9 A.c9 md.codes R (HL.o.2.2.2.2.2.2.2.2.1) ((HI.o.2.2.2.2.2.2.2.2.1).up (Qa l.b)));obtain⟨B9,p⟩:∃B,B=R.heap.size:=⟨_,rfl⟩;rw[<- p]at s;have b3:q+3<=B9:=by omega
 have C:=Hm p;clear p;go_wp2_with fail
 refine s.o.mono ?_;rintro e W ⟨rfl,n9,m⟩;rw[C.o]at m;have f:=l.keep m;obtain⟨z,y⟩:=f.b0 10 (u:=S none 0 0);obtain⟨M,c⟩:∃V,V=W.setCell ⟨q+2,10,none⟩ (S (some ⟨B9,0,none⟩) (N md.codes) (N md.codes)):=⟨_,rfl⟩;have a:=f.set 10 (S (some ⟨B9,0,none⟩) (N md.codes) (N md.codes));rw[<- c]at a;have ce:Hid (Up (q+3) R M):=by rw[c];exact upS m (by omega)
 have bf:R.heap.size<=M.heap.size:=by rw[c];simpa using m.size
 have N9:=Hm ((n9.mono b3).up (show Up (q+3) W M by rw[c];exact Q5 (by omega)));clear l f m d n9 s C;go_upto_region 13 with fail
 rw[<- c];clear c z y;have l:=a;clear a;have d:=CM.o l 11 (S A.a10 (N md.datas) A.c10) (by omega) rfl;have s:=Hm (toDats_c A.a10 A.c10 md.datas M (HL.o.2.2.2.2.2.2.2.2.2.1) ((HI.o.2.2.2.2.2.2.2.2.2.1).up (Qa l.b)));obtain⟨E,p⟩:∃B,B=M.heap.size:=⟨_,rfl⟩;rw[<- p]at s;have bl:q+3<=E:=by omega
 have C:=Hm p;clear p;go_wp2_with fail
 refine s.o.mono ?_;rintro e W ⟨rfl,bc,m⟩;rw[C.o]at m;have f:=l.keep m;obtain⟨z,y⟩:=f.b0 11 (u:=S none 0 0);obtain⟨L,c⟩:∃V,V=W.setCell ⟨q+2,11,none⟩ (S (some ⟨E,0,none⟩) (N md.datas) (N md.datas)):=⟨_,rfl⟩;have a:=f.set 11 (S (some ⟨E,0,none⟩) (N md.datas) (N md.datas));rw[<- c]at a;have cd:Hid (Up (q+3) M L):=by rw[c];exact upS m (by omega)
 have bd:M.heap.size<=L.heap.size:=by rw[c];simpa using m.size
 have cg:=Hm ((bc.mono bl).up (show Up (q+3) W L by rw[c];exact Q5 (by omega)));clear l f m d bc s C;go_upto_region 14 with fail
 rw[<- c];clear c z y;have l:=a;clear a;have d:=CM.o l 12 (S A.a11 (N md.customs) A.c11) (by omega) rfl;have s:=Hm (toCuss_c A.a11 A.c11 md.customs L (HL.o.2.2.2.2.2.2.2.2.2.2) ((HI.o.2.2.2.2.2.2.2.2.2.2).up (Qa l.b)));obtain⟨D,p⟩:∃B,B=L.heap.size:=⟨_,rfl⟩;rw[<- p]at s;have bj:q+3<=D:=by omega
 have C:=Hm p;clear p;go_wp2_with fail
 refine s.o.mono ?_;rintro e W ⟨rfl,bb,m⟩;rw[C.o]at m;have f:=l.keep m;obtain⟨z,y⟩:=f.b0 12 (u:=S none 0 0);obtain⟨F,c⟩:∃V,V=W.setCell ⟨q+2,12,none⟩ (S (some ⟨D,0,none⟩) (N md.customs) (N md.customs)):=⟨_,rfl⟩;have a:=f.set 12 (S (some ⟨D,0,none⟩) (N md.customs) (N md.customs));rw[<- c]at a;have cc:Hid (Up (q+3) L F):=by rw[c];exact upS m (by omega)
 have da:L.heap.size<=F.heap.size:=by rw[c];simpa using m.size
 have cf:=Hm ((bb.mono bj).up (show Up (q+3) W F by rw[c];exact Q5 (by omega)));clear l f m d bb s C;go_upto_region 15 with fail
 rw[<- c];clear c z y;have l:=a;clear a;have H:=l;rw[HT.o]at H;have I:=H.perm (Tw _ _ _);have c0:=(H.b0 0 (u:=S (some ⟨B1,0,none⟩) (N md.types) (N md.types))).1;obtain⟨z0,y0⟩:=I.b0 0 (u:=S none 0 0);have c1:=(H.b0 1 (u:=S (some ⟨B2,0,none⟩) (N md.imps) (N md.imps))).1;obtain⟨z1,y1⟩:=I.b0 1 (u:=S none 0 0);have c2:=(H.b0 2 (u:=S (some ⟨B3,0,none⟩) (N md.funcs) (N md.funcs))).1;obtain⟨z2,y2⟩:=I.b0 2 (u:=S none 0 0);have c3:=(H.b0 3 (u:=S (some ⟨B4,0,none⟩) (N md.tabs) (N md.tabs))).1;obtain⟨z3,y3⟩:=I.b0 3 (u:=S none 0 0);have c4:=(H.b0 4 (u:=S (some ⟨B5,0,none⟩) (N md.mems) (N md.mems))).1;obtain⟨z4,y4⟩:=I.b0 4 (u:=S none 0 0);have c5:=(H.b0 5 (u:=S (some ⟨B6,0,none⟩) (N md.globs) (N md.globs))).1;obtain⟨z5,y5⟩:=I.b0 5 (u:=S none 0 0);have c6:=(H.b0 6 (u:=S (some ⟨B7,0,none⟩) (N md.exps) (N md.exps))).1;obtain⟨z6,y6⟩:=I.b0 6 (u:=S none 0 0);have c7:=(H.b0 7 (u:=G md.hasS)).1;obtain⟨z7,y7⟩:=I.b0 7 (u:=G false);have c8:=(H.b0 8 (u:=U O md.start)).1;obtain⟨z8,y8⟩:=I.b0 8 (u:=U O 0);have c9:=(H.b0 9 (u:=S (some ⟨B8,0,none⟩) (N md.elems) (N md.elems))).1;obtain⟨z9,y9⟩:=I.b0 9 (u:=S none 0 0);have d1:=(H.b0 10 (u:=S (some ⟨B9,0,none⟩) (N md.codes) (N md.codes))).1;obtain⟨dh,dk⟩:=I.b0 10 (u:=S none 0 0);have d0:=(H.b0 11 (u:=S (some ⟨E,0,none⟩) (N md.datas) (N md.datas))).1;obtain⟨dg,dj⟩:=I.b0 11 (u:=S none 0 0);have dz:=(H.b0 12 (u:=S (some ⟨D,0,none⟩) (N md.customs) (N md.customs))).1;obtain⟨df,di⟩:=I.b0 12 (u:=S none 0 0)
 have HF:=Hm (((((((((((((I.set 0 (S (some ⟨B1,0,none⟩) (N md.types) (N md.types))).set 1 (S (some ⟨B2,0,none⟩) (N md.imps) (N md.imps))).set 2 (S (some ⟨B3,0,none⟩) (N md.funcs) (N md.funcs))).set 3 (S (some ⟨B4,0,none⟩) (N md.tabs) (N md.tabs))).set 4 (S (some ⟨B5,0,none⟩) (N md.mems) (N md.mems))).set 5 (S (some ⟨B6,0,none⟩) (N md.globs) (N md.globs))).set 6 (S (some ⟨B7,0,none⟩) (N md.exps) (N md.exps))).set 7 (G md.hasS)).set 8 (U O md.start)).set 9 (S (some ⟨B8,0,none⟩) (N md.elems) (N md.elems))).set 10 (S (some ⟨B9,0,none⟩) (N md.codes) (N md.codes))).set 11 (S (some ⟨E,0,none⟩) (N md.datas) (N md.datas))).set 12 (S (some ⟨D,0,none⟩) (N md.customs) (N md.customs)));have dw:∀n:Nat,True:=λ_=>trivial;have av:=cc.o;have aw:=upT cd.o bd av;have ax:=upT ce.o bf aw;have F9:=upT U9.o bg ax;have F8:=upT U8.o br F9;have F7:=upT U7.o bs F8;have F6:=upT U6.o bt F7;have F5:=upT U5.o bu F6;have F4:=upT U4.o bv F5;have F3:=upT U3.o bw F4;have F2:=upT U2.o bz F3;have F1:=upT U1.o b1 F2;have F0:=upT U0.o b2 F1;have HN:=Hm (show Up (q+3) F F from λ_ _ _=>rfl);have M1:=Hm (N1.o.up F1);have M2:=Hm (N2.o.up F2);have M3:=Hm (N3.o.up F3);have M4:=Hm (N4.o.up F4);have M5:=Hm (N5.o.up F5);have M6:=Hm (N6.o.up F6);have M7:=Hm (N7.o.up F7);have M8:=Hm (N8.o.up ax);have M9:=Hm (N9.o.up aw);have ci:=Hm (cg.o.up av);have ch:=Hm (cf.o.up HN.o);clear H I F0 F1 F2 F3 F4 F5 F6 F7 F8 F9 ax aw av
 have HU:Hid (Up (q+3) F (((((((((((((F.setCell ⟨q+1,0,none⟩ (S (some ⟨B1,0,none⟩) (N md.types) (N md.types))).setCell ⟨q+1,1,none⟩ (S (some ⟨B2,0,none⟩) (N md.imps) (N md.imps))).setCell ⟨q+1,2,none⟩ (S (some ⟨B3,0,none⟩) (N md.funcs) (N md.funcs))).setCell ⟨q+1,3,none⟩ (S (some ⟨B4,0,none⟩) (N md.tabs) (N md.tabs))).setCell ⟨q+1,4,none⟩ (S (some ⟨B5,0,none⟩) (N md.mems) (N md.mems))).setCell ⟨q+1,5,none⟩ (S (some ⟨B6,0,none⟩) (N md.globs) (N md.globs))).setCell ⟨q+1,6,none⟩ (S (some ⟨B7,0,none⟩) (N md.exps) (N md.exps))).setCell ⟨q+1,7,none⟩ (G md.hasS)).setCell ⟨q+1,8,none⟩ (U O md.start)).setCell ⟨q+1,9,none⟩ (S (some ⟨B8,0,none⟩) (N md.elems) (N md.elems))).setCell ⟨q+1,10,none⟩ (S (some ⟨B9,0,none⟩) (N md.codes) (N md.codes))).setCell ⟨q+1,11,none⟩ (S (some ⟨E,0,none⟩) (N md.datas) (N md.datas))).setCell ⟨q+1,12,none⟩ (S (some ⟨D,0,none⟩) (N md.customs) (N md.customs)))):=λk hk _=>by repeat rw[Below.heap_setCell _ _ _ _ (λe=>by simp at e;omega)]
 go_wp2;refine Qv (λW'=>Mo w.heap.size w [box 48 13 (q+1) [S (some ⟨B1,0,none⟩) (N md.types) (N md.types),S (some ⟨B2,0,none⟩) (N md.imps) (N md.imps),S (some ⟨B3,0,none⟩) (N md.funcs) (N md.funcs),S (some ⟨B4,0,none⟩) (N md.tabs) (N md.tabs),S (some ⟨B5,0,none⟩) (N md.mems) (N md.mems),S (some ⟨B6,0,none⟩) (N md.globs) (N md.globs),S (some ⟨B7,0,none⟩) (N md.exps) (N md.exps),G md.hasS,U O md.start,S (some ⟨B8,0,none⟩) (N md.elems) (N md.elems),S (some ⟨B9,0,none⟩) (N md.codes) (N md.codes),S (some ⟨E,0,none⟩) (N md.datas) (N md.datas),S (some ⟨D,0,none⟩) (N md.customs) (N md.customs)],box 48 13 (q+2) [S (some ⟨B1,0,none⟩) (N md.types) (N md.types),S (some ⟨B2,0,none⟩) (N md.imps) (N md.imps),S (some ⟨B3,0,none⟩) (N md.funcs) (N md.funcs),S (some ⟨B4,0,none⟩) (N md.tabs) (N md.tabs),S (some ⟨B5,0,none⟩) (N md.mems) (N md.mems),S (some ⟨B6,0,none⟩) (N md.globs) (N md.globs),S (some ⟨B7,0,none⟩) (N md.exps) (N md.exps),G md.hasS,U O md.start,S (some ⟨B8,0,none⟩) (N md.elems) (N md.elems),S (some ⟨B9,0,none⟩) (N md.codes) (N md.codes),S (some ⟨E,0,none⟩) (N md.datas) (N md.datas),S (some ⟨D,0,none⟩) (N md.customs) (N md.customs)],box 33 13 q (mdC md A).toList] W'/\Up (q+3) F W') ⟨HF.o,HU.o⟩ ?_
 rintro W' ⟨X,Y⟩;have u0:=(X.b0 0 (u:=S (some ⟨B1,0,none⟩) (N md.types) (N md.types))).1;have u1:=(X.b0 1 (u:=S (some ⟨B2,0,none⟩) (N md.imps) (N md.imps))).1;have u2:=(X.b0 2 (u:=S (some ⟨B3,0,none⟩) (N md.funcs) (N md.funcs))).1;have u3:=(X.b0 3 (u:=S (some ⟨B4,0,none⟩) (N md.tabs) (N md.tabs))).1;have u4:=(X.b0 4 (u:=S (some ⟨B5,0,none⟩) (N md.mems) (N md.mems))).1;have u5:=(X.b0 5 (u:=S (some ⟨B6,0,none⟩) (N md.globs) (N md.globs))).1;have u6:=(X.b0 6 (u:=S (some ⟨B7,0,none⟩) (N md.exps) (N md.exps))).1;have u7:=(X.b0 7 (u:=G md.hasS)).1;have u8:=(X.b0 8 (u:=U O md.start)).1;have u9:=(X.b0 9 (u:=S (some ⟨B8,0,none⟩) (N md.elems) (N md.elems))).1;have bq:=(X.b0 10 (u:=S (some ⟨B9,0,none⟩) (N md.codes) (N md.codes))).1;have bp:=(X.b0 11 (u:=S (some ⟨E,0,none⟩) (N md.datas) (N md.datas))).1;have bo:=(X.b0 12 (u:=S (some ⟨D,0,none⟩) (N md.customs) (N md.customs))).1
 exact bodyPost_ret (v:=Ag #[S (some ⟨B1,0,none⟩) (N md.types) (N md.types),S (some ⟨B2,0,none⟩) (N md.imps) (N md.imps),S (some ⟨B3,0,none⟩) (N md.funcs) (N md.funcs),S (some ⟨B4,0,none⟩) (N md.tabs) (N md.tabs),S (some ⟨B5,0,none⟩) (N md.mems) (N md.mems),S (some ⟨B6,0,none⟩) (N md.globs) (N md.globs),S (some ⟨B7,0,none⟩) (N md.exps) (N md.exps),G md.hasS,U O md.start,S (some ⟨B8,0,none⟩) (N md.elems) (N md.elems),S (some ⟨B9,0,none⟩) (N md.codes) (N md.codes),S (some ⟨E,0,none⟩) (N md.datas) (N md.datas),S (some ⟨D,0,none⟩) (N md.customs) (N md.customs)]) (by simp[results,results6,go_sem,u0,u1,u2,u3,u4,u5,u6,u7,u8,u9,bq,bp,bo]) rfl ⟨⟨some ⟨B1,0,none⟩,N md.types,some ⟨B2,0,none⟩,N md.imps,some ⟨B3,0,none⟩,N md.funcs,some ⟨B4,0,none⟩,N md.tabs,some ⟨B5,0,none⟩,N md.mems,some ⟨B6,0,none⟩,N md.globs,some ⟨B7,0,none⟩,N md.exps,some ⟨B8,0,none⟩,N md.elems,some ⟨B9,0,none⟩,N md.codes,some ⟨E,0,none⟩,N md.datas,some ⟨D,0,none⟩,N md.customs⟩,rfl,⟨(M1.o.up Y).mono (Kz _),(M2.o.up Y).mono (Kz _),(M3.o.up Y).mono (Kz _),(M4.o.up Y).mono (Kz _),(M5.o.up Y).mono (Kz _),(M6.o.up Y).mono (Kz _),(M7.o.up Y).mono (Kz _),(M8.o.up Y).mono (Kz _),(M9.o.up Y).mono (Kz _),(ci.o.up Y).mono (Kz _),(ch.o.up Y).mono (Kz _)⟩,X.b⟩
