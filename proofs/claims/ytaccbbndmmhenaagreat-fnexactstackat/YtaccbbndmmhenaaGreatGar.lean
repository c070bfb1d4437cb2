import Derived.Test.YtaccbbndmmhenaaGreatGaq
import Derived.Deep.CutRange
import Derived.Test.YtaccbbndmmhenaaGreatGap
import Derived.Test.YtaccbbndmmhenaaGreatGal
import Derived.Laws.Strings
import Derived.Carry
set_option linter.all false
set_option maxHeartbeats 400000000
set_option maxRecDepth 100000
namespace Go.Proofs
open Value renaming int->U,slice->S,bool->G,pointer->Yp,string->Xs,agg->Ag,nilIface->Nf
open IntKind renaming i64->O,u64->Ou
open Ending renaming returned->Z
open Obj renaming cells->Fc
open Go renaming World->J,Calls->Ec,Value->Vu,Addr->Ad
open Go.RowKit renaming Below->Bw
open Tryz renaming prog->Q
open Tryz
open List renaming perm_iff_count->Kn,count_cons->Th,getD->Kx,length_append->Lb,getElem?_eq_getElem->Kj,take_add_one->Mv,take_length->Kh,append_assoc->Kv,map_append->Tf,take_succ_cons->Ez,isEmpty_iff->Md,all_eq_true->Hf,getElem_of_mem->Mq,filter_append->Rj,length_filter_le->Lx,getElem?_eq_none->Hq,length_map->Ak,length->N
open List.Perm renaming swap->Kf
open Value renaming slice->Tv
open Act renaming eval->Tc,put->Hw
open Nat renaming le_trans->Kq,zero_le->Kw,add_zero->Iw,zero_add->Tx
open Int renaming toNat_natCast->Kc
open World renaming ownsRow_nil->Tq
open Bool renaming and_eq_true->Ky
namespace YtaccbbndmmhenaaGreat.Va
open Go.RowKit Go.Sort
variable {x:Ctx}{s:Fn}{a nl op fo go bd:Int}{w0 V W w':J}{gs:List Grp}{xs:List In}{ks:List Qb}{m:MS}{md:Mod}{D p i n Bm q b:Nat}{α:Type}{x0 x1 x2 x3 x4 x5 lv nv:Vu}
theorem info174:(Q.info? 174).map (λi=>(i.zero,i.size,i.bytes))=some (some (Ag #[S none 0 0,S none 0 0,U O 0,G false,G false,U O 0,G false]),7,80):=by kernel_rfl
theorem one7 {tv rv:Vu}{h:Int}{d i l:Bool}(f:tv.oneCell'=true)(c:rv.oneCell'=true):∀u∈mbk tv rv h d i a l,u.oneCell'=true:=by
 intro u b;simp at b;rcases b with rfl|rfl|rfl|rfl|rfl|rfl|rfl
 . exact f
 . exact c
 all_goals rfl
abbrev inC (op a b v:Int)(ll:List Int)(la:Option Ad)(lc:Nat):List Vu:=[U O op,U O a,U O b,U Ou v,S la (N ll) lc]
abbrev bz7:List Vu:=mbk (S none 0 0) (S none 0 0) 0 false false 0 false
theorem put7m {D w0 V}{e g:Nat}{cs:List Vu}(h:Mo D w0 (box e 7 g cs::ks) V)(m:N cs=7)(x0 x1 x2 x3 x4 x5 l:Vu):Mo D w0 (box e 7 g [x0,x1,x2,x3,x4,x5,l]::ks) (((((((V.setCell ⟨g,0,none⟩ x0).setCell ⟨g,1,none⟩ x1).setCell ⟨g,2,none⟩ x2).setCell ⟨g,3,none⟩ x3).setCell ⟨g,4,none⟩ x4).setCell ⟨g,5,none⟩ x5).setCell ⟨g,6,none⟩ l):=by
 have n:=((((((h.set 0 x0).set 1 x1).set 2 x2).set 3 x3).set 4 x4).set 5 x5).set 6 l;obtain⟨k,j,f,d,c,b,a,rfl⟩:∃k j f d c b a,cs=[k,j,f,d,c,b,a]:=by
  match cs,m with
  |[k,j,f,d,c,b,a],_=>exact⟨k,j,f,d,c,b,a,rfl⟩
 exact n
theorem z7 {D w0 V rs}{e g:Nat}{b:Vu}(h:Mo D w0 rs V)(a:box e 7 g [x0,x1,x2,x3,x4,x5,b]∈rs):(V.cell? ⟨g,0,none⟩=some x0/\V.cell? ⟨g,1,none⟩=some x1/\V.cell? ⟨g,2,none⟩=some x2/\V.cell? ⟨g,3,none⟩=some x3/\V.cell? ⟨g,4,none⟩=some x4/\V.cell? ⟨g,5,none⟩=some x5/\V.cell? ⟨g,6,none⟩=some b)/\V.frozen? ⟨g,0,none⟩=false/\V.frozen? ⟨g,1,none⟩=false/\V.frozen? ⟨g,2,none⟩=false/\V.frozen? ⟨g,3,none⟩=false/\V.frozen? ⟨g,4,none⟩=false/\V.frozen? ⟨g,5,none⟩=false/\V.frozen? ⟨g,6,none⟩=false :=
 ⟨⟨(h.bx a 0).1,(h.bx a 1).1,(h.bx a 2).1,(h.bx a 3).1,(h.bx a 4).1,(h.bx a 5).1,(h.bx a 6).1⟩,(h.bx a 0).2,(h.bx a 1).2,(h.bx a 2).2,(h.bx a 3).2,(h.bx a 4).2,(h.bx a 5).2,(h.bx a 6).2⟩
theorem swap1 {a b c:Qb}{T:List Qb}:(a::b::c::T).Perm (c::a::b::T):=by
 classical
 rw[Kn];intro x;simp[Th];omega
theorem swap2 {a b c:Qb}{T:List Qb}:(a::b::c::T).Perm (b::a::c::T):=Kf _ _ _
theorem sopen_2 (a b v:Int)(ll:List Int)(la:Option Ad)(lc:Nat)(h:MSt D w0 p lv nl ks m V)(i:Inv m.s)(bt:m.s.cq≠[])(a2:N m.s.cq<=1048577)(bs:N m.s.jj<=1099511627776):Ec Q 81 #[Yp (some ⟨p,0,none⟩),inV ⟨2,a,b,v,ll⟩ la lc] V λe w'=>e=Z (.tuple #[])/\∃ns,MSt D w0 p lv nl (ns++ks) (mopen m 2 (Qh a)) w':=by
 obtain⟨M,hM⟩:∃M,M=mopen m 2 (Qh a):=⟨_,rfl⟩;rw[<- hM];have hI:=h.bxn #[U O 2,U O a,U O b,U Ou v,S la (N ll) lc] 85 5 rfl;obtain⟨W,hW⟩:∃W,W=V.alloc (Fc #[U O 2,U O a,U O b,U Ou v,S la (N ll) lc] 85):=⟨_,rfl⟩;obtain⟨B,hB⟩:∃B,B=V.heap.size:=⟨_,rfl⟩;rw[<- hW,<- hB]at hI;have d0:=(hI.mo.b0 0).1;have a3:M=JE m (QI m.s 2 (Qh a)):=by rw[hM];rfl
 have cr:N m.s.cq<=1048577:=a2;have ca:=Hm a3;clear h hM a3 i bt a2 bs;go_enter func81,ntmps81;go_upto_region 1 with fail
 rw[<- hW,<- hB];clear hW hB;go_upto_region 3 with fail
 obtain⟨Y,sc,H,F,A,C,hm,hf⟩:=hI.opnS;obtain⟨⟨q0,q1,q2,q3,q4,q5⟩,f2,f3,f4,f5⟩:=Xn hm;have q:=hI.mo;have k0:W.drew.cell? ⟨B,0,none⟩=some (U O 2):=(q.b0 0).1;have k1:W.drew.cell? ⟨B,1,none⟩=some (U O a):=(q.b0 1).1;have k2:W.drew.cell? ⟨p,2,none⟩=some (S Y (N m.s.jj) sc):=q2;have k3:W.drew.cell? ⟨p,5,none⟩=some (U O C):=q5;have HF:=Hm hf;obtain⟨T,hT⟩:∃T:List Qb,T=(mxR p lv nl (S Y (N m.s.jj) sc) (S H (N m.s.cq) F) m.e C::stR m.s (S Y (N m.s.jj) sc)::mlR (N m.s.cq) (S H (N m.s.cq) F) A::box 85 5 B (inC 2 a b v ll la lc)::ks):=⟨_,rfl⟩;have X:Hid (∀ns w',Mo D w0 (ns++T) w'->w'.cell? ⟨B,0,none⟩=some (U O 2)/\w'.cell? ⟨B,1,none⟩=some (U O a)/\w'.cell? ⟨p,2,none⟩=some (S Y (N m.s.jj) sc)/\w'.cell? ⟨p,5,none⟩=some (U O C)):=λns w' h=>by rw[hT]at h;have b1:=λ(j:Nat) (u:Vu) (hj:j<5) (hu:(inC 2 a b v ll la lc)[j]?=some u)=>(h.bx (t:=85) (n:=5) (g:=B) (cs:=inC 2 a b v ll la lc) (by simp) j hj hu).1;have b2:=λ(j:Nat) (u:Vu) (hj:j<6) (hu:(sb lv nl (S Y (N m.s.jj) sc) (S H (N m.s.cq) F) m.e C)[j]?=some u)=>(h.bx (t:=89) (n:=6) (g:=p) (cs:=sb lv nl (S Y (N m.s.jj) sc) (S H (N m.s.cq) F) m.e C) (by simp) j hj hu).1;exact⟨b1 0 _ (by omega) rfl,b1 1 _ (by omega) rfl,b2 2 _ (by omega) rfl,b2 5 _ (by omega) rfl⟩
 have H0:Hid (Mo D w0 T W.drew):=by rw[hT];exact hm.drewN 1
 have HA:Hid (Mo D w0 (box 174 7 W.heap.size bz7::T) (W.alloc (Fc #[S none 0 0,S none 0 0,U O 0,G false,G false,U O 0,G false] 174)).drew):=Mo.box (cur:=#[S none 0 0,S none 0 0,U O 0,G false,G false,U O 0,G false]) H0.o 174 7 rfl;have SA:=Hm (X.o [_] _ HA.o);have HR:=Hm (λw=>sres_c a w);have HT:=Hm hT;obtain⟨n,hn⟩:∃n,n=(Qh a).length:=⟨_,rfl⟩;have HN:=Hm hn;rw[<- hn]at HR;clear hm hf q hI q0 q1 q2 q3 q4 q5 f2 f3 f4 f5 hn;go_cut [4]from 10 (λs V'=>∃g v1 v2,s=Yp (some ⟨g,0,none⟩)/\Mo D w0 (box 174 7 g (mbk v1 v2 (N m.s.jj) false false C false)::⟨2,1,n,v2,I (Qh a)⟩::⟨2,1,n,v1,I (Qh a)⟩::T) V')
 case first=>
  clear hT
  go_region_held3 (λw'=>w'.cell? ⟨B,0,none⟩=some (U O 2)/\w'.cell? ⟨B,1,none⟩=some (U O a)/\w'.cell? ⟨p,2,none⟩=some (S Y (N m.s.jj) sc)/\w'.cell? ⟨p,5,none⟩=some (U O C))
   (first|with_reducible exact⟨k0,k1,k2,k3⟩|with_reducible exact SA.o|with_reducible exact⟨Qf k0,Qf k1,Qf k2,Qf k3⟩|with_reducible exact SS.o)
   (first
    | (
     go_at_call 142
     refine Calls.mono (HR.o _) ?_
     rintro e w2 ⟨v1,rfl,aa,aq⟩;obtain⟨va,E,rfl⟩:=Qg aa
     first
      | (
       have y:Bw W.drew.heap.size W.drew w2:=by with_reducible exact aq
       have au:=Hm (H0.o.new (ns:=[⟨2,1,n,S va n E,I (Qh a)⟩]) y (Own.one aa));clear y;obtain⟨k0,k1,k2,k3⟩:=X.o [_] w2 au.o;have cd:=Hm (Mo.box (cur:=#[S none 0 0,S none 0 0,U O 0,G false,G false,U O 0,G false]) au.o 174 7 rfl))
      | (
       have y:Bw (W.alloc (Fc #[S none 0 0,S none 0 0,U O 0,G false,G false,U O 0,G false] 174)).drew.heap.size (W.alloc (Fc #[S none 0 0,S none 0 0,U O 0,G false,G false,U O 0,G false] 174)).drew w2:=by with_reducible exact aq
       have a8:=Hm (HA.o.new (ns:=[⟨2,1,n,S va n E,I (Qh a)⟩]) y (Own.one aa));clear y;obtain⟨k0,k1,k2,k3⟩:=X.o [_,_] w2 a8.o)
     clear H0 HA aa aq)
    | (
     go_at_call 142
     refine Calls.mono (HR.o _) ?_
     rintro e w3 ⟨v2,rfl,R,ac⟩;obtain⟨f,d,rfl⟩:=Qg R
     first
      | (
       have af:Bw (w2.alloc (Fc #[S none 0 0,S none 0 0,U O 0,G false,G false,U O 0,G false] 174)).heap.size (w2.alloc (Fc #[S none 0 0,S none 0 0,U O 0,G false,G false,U O 0,G false] 174)) w3:=by with_reducible exact ac
       have l:=Hm ((cd.o.new (ns:=[⟨2,1,n,S f n d,I (Qh a)⟩]) af (Own.one R)).perm swap2);clear af;obtain⟨k0,k1,k2,k3⟩:=X.o [_,_,_] w3 l.o;obtain⟨⟨z0,z1,z2,z3,z4,z5,z6⟩,y0,y1,y2,y3,y4,y5,y6⟩:=z7 l.o (mS ..);have a7:=Hm (put7m l.o rfl);have SS:=Hm (X.o [_,_,_] _ (put7m l.o rfl (S va n E) (S f n d) (U O (N m.s.jj)) (G false) (G false) (U O C) (G false))))
      | (
       have l:=Hm (au.o.new (ns:=[⟨2,1,n,S f n d,I (Qh a)⟩]) ac (Own.one R));obtain⟨k0,k1,k2,k3⟩:=X.o [_,_] w3 l.o;have cc:=Hm (fun x0 x1 x2 x3 x4 x5 x6=>Mo.box (cur:=#[x0,x1,x2,x3,x4,x5,x6]) l.o 174 7 rfl))
      | (
       have l:=Hm ((a8.o.new (ns:=[⟨2,1,n,S f n d,I (Qh a)⟩]) ac (Own.one R)).perm swap1);obtain⟨k0,k1,k2,k3⟩:=X.o [_,_,_] w3 l.o;obtain⟨⟨z0,z1,z2,z3,z4,z5,z6⟩,y0,y1,y2,y3,y4,y5,y6⟩:=z7 l.o (mS ..);have a7:=Hm (put7m l.o rfl);have SS:=Hm (X.o [_,_,_] _ (put7m l.o rfl (S va n E) (S f n d) (U O (N m.s.jj)) (G false) (G false) (U O C) (G false))))
     clear HR R ac))
  all_goals
   go_wp2_with fail
   go_meet
   first
    |exact⟨_,_,_,rfl,cc.o _ _ _ _ _ _ _⟩
    |exact⟨_,_,_,rfl,a7.o _ _ _ _ _ _ _⟩
 obtain⟨g,v1,v2,rfl,q⟩:=hcut;rw[HT.o]at q;have hn:=HN.o;subst hn;obtain⟨va,E,az⟩:=Qg (q.row (r:=⟨2,1,(Qh a).length,v1,I (Qh a)⟩) (by simp));obtain⟨f,d,ay⟩:=Qg (q.row (r:=⟨2,1,(Qh a).length,v2,I (Qh a)⟩) (by simp));dsimp only at az ay;subst az ay;obtain⟨⟨z0,z1,z2,z3,z4,z5,z6⟩,y0,y1,y2,y3,y4,y5,y6⟩:=z7 q (mS ..);have c0:=(X.o [_,_,_] wc (by rw[HT.o];exact q)).1;go_upto_region 7 with fail
 obtain⟨i0,hi,br,bq,bp⟩:=info_parts info174;obtain⟨KS,z⟩:∃KS:List Qb,KS=box 174 7 g (mbk (S va (Qh a).length E) (S f (Qh a).length d) (N m.s.jj) false false C false)::⟨2,1,(Qh a).length,S f (Qh a).length d,I (Qh a)⟩::⟨2,1,(Qh a).length,S va (Qh a).length E,I (Qh a)⟩::box 85 5 B (inC 2 a b v ll la lc)::ks:=⟨_,rfl⟩;have hm:Mo D w0 (mxR p lv nl (S Y (N m.s.jj) sc) (S H (N m.s.cq) F) m.e C::stR m.s (S Y (N m.s.jj) sc)::mlR (N m.s.cq) (S H (N m.s.cq) F) A::KS) wc:=by
  rw[z];refine q.perm ?_;classical
  rw[Kn];intro x;simp[Th];omega
 have hf:Fl (MRep D w0 KS) m.s.cq A:=HF.o.mono λb c ⟨tv,rv,x,e,t1,t2⟩=>⟨tv,rv,x,e,t1.sub λr hr=>by rw[z];exact mC (mC (mC hr)),t2.sub λr hr=>by rw[z];exact mC (mC (mC hr))⟩;have T2:Ty D w0 KS (S f (Qh a).length d) (Qh a):=.inr (by rw[z];simp);have T1:Ty D w0 KS (S va (Qh a).length E) (Qh a):=.inr (by rw[z];simp);obtain⟨⟨q0,q1,q2,q3,q4,q5⟩,f2,f3,f4,f5⟩:=Xn hm;have ad:wc.ownsRow D 174 7 (S H (N m.s.cq) F) (N m.s.cq) A:=hm.row (r:=mlR _ _ A) (by simp);have OW:=Hm ad;have bu:=hm.le;have HB:Hid (∀o,Bw wc.heap.size wc ((wc.alloc o).drew)):=λo=>⟨rfl,rfl,rfl,by show wc.heap.size<=(wc.alloc o).heap.size;simp,λk hk=>QN wc o k hk⟩;have b8:Hid (∀V1 W' v',Bw wc.heap.size wc V1->W'.ownsRow D 174 7 v' (N m.s.cq+1) (A++mbk (S va (Qh a).length E) (S f (Qh a).length d) (N m.s.jj) false false C false)->V1.grownBy W' (Tv H (N m.s.cq) F).ownBlock->(v'.ownBlock=(Tv H (N m.s.cq) F).ownBlock\/v'.ownBlock=some V1.heap.size)->MSt D w0 p lv nl KS M (W'.setCell ⟨p,3,none⟩ v')/\W'.cell? ⟨p,3,none⟩=some (S H (N m.s.cq) F)/\W'.frozen? ⟨p,3,none⟩=false):=λV1 W' v' hb ho hg hl=>by rw[ca.o];exact MSt.begun (b:=⟨2,Qh a,Qh a,N m.s.jj,false⟩) hm hf hb ho hg hl T1 T2
 have kd:∀o,(wc.alloc o).cell? ⟨p,3,none⟩=some (S H (N m.s.cq) F):=λo=>Qf q3;have kz:∀o,(wc.alloc o).cell? ⟨g,0,none⟩=some (S va (Qh a).length E):=λo=>Qf z0;have cb:=Hm z;clear hm hf ad q z T1 T2 q0 q1 q2 q4 q5 f2 f3 f4 f5 HT X HA H0 HR SA
 go_region_law (first
  | (
   refine Qs rfl (.tmp 39) (.tmp 41) 87 rfl D 174 i0 (Ag #[S none 0 0,S none 0 0,U O 0,G false,G false,U O 0,G false]) 7 80 underlying87 hi br bq bp rfl (by decide) (S H (N m.s.cq) F) (N m.s.cq) A (by first|rfl|simp[Tc,Hw]) (World.ownsRow.alloc OW.o _) ⟨wc.heap.size,0,none⟩ 1 1 (mbk (S va (Qh a).length E) (S f (Qh a).length d) (N m.s.jj) false false C false) (by first|rfl|simp[Tc,Hw]) (by first|rfl|simp) (Jo wc (mbk (S va (Qh a).length E) (S f (Qh a).length d) (N m.s.jj) false false C false) 174) (one7 rfl rfl) (by unfold maxLen;omega) (by omega) (Kq bu (HB.o _).size) ?_
   intro v5 w5 L a5 ae
   have HQ:=Hm (b8.o _ w5 v5 (HB.o _) L a5 ae);have c9:=HQ.o.2.1;have c8:=HQ.o.2.2;obtain⟨c4,c3,rfl⟩:=Qg L;clear L a5 ae))
 all_goals
  go_wp2_with fail
  go_end0
  have h9:=HQ.o.1;rw[cb.o]at h9
  exact⟨rfl,[_,_,_,_],h9⟩
structure Ctv where
 tv:Vu
 fv:Vu
 gv:Vu
 fcs:List Vu
variable {t:Ctv}
abbrev cxV (x:Ctx)(t:Ctv):Vu:=Ag #[t.tv,t.fv,t.gv,U O x.gw,U O x.jv,U O x.jz]
def FtL (D:Nat)(w0:J)(a:Option Ad)(xs:List Qc):Prop:=xs=[]\/∃b off,a=some ⟨b,off,none⟩/\b<D/\∀i,i<N xs->∃pv rv,w0.cell? ⟨b,off+i*2,none⟩=some pv/\w0.cell? ⟨b,off+i*2+1,none⟩=some rv/\Ty D w0 [] pv (xs.getD i Qc.z).ps/\Ty D w0 [] rv (xs.getD i Qc.z).rs
structure CtR (D:Nat)(w0:J)(x:Ctx)(t:Ctv)(ks:List Qb):Prop where
 ty:∃a c,t.tv=S a (N x.types) c/\FtL D w0 a x.types
 fr:(⟨76,2,N x.jk,t.fv,t.fcs⟩:Qb)∈ks
 ft:FTs D w0 x.jk t.fcs
 gr:(⟨176,2,N x.jx,t.gv,gCs x.jx⟩:Qb)∈ks
theorem CtR.sub {ks':List Qb}(h:CtR D w0 x t ks)(a:∀r∈ks,r∈ks'):CtR D w0 x t ks':=⟨h.ty,a _ h.fr,h.ft,a _ h.gr⟩
theorem CtR.shape (h:CtR D w0 x t ks)(j:Mo D w0 ks V):∃b a g f d c,t.tv=S b (N x.types) a/\t.fv=S g (N x.jk) f/\t.gv=S d (N x.jx) c:=by
 obtain⟨b,a,m,_⟩:=h.ty;obtain⟨g,f,l,_⟩:=Qu j h.fr;obtain⟨d,c,k,_⟩:=Qu j h.gr;exact⟨b,a,g,f,d,c,m,l,k⟩
def P2 (n:Int):Int:=2 ^ n.toNat
theorem spow_c (n:Int)(w:J)(c:0<=n)(j:n<=3):Ec Q 139 #[U O n] w λe w'=>e=Z (U Ou (P2 n))/\w=w':=by
 go_enter func139,ntmps139;go_wp2;go_loop [3,4] (λx i=>∃k:Int,0<=k/\k<=n/\i=U O k/\x=U Ou (P2 k)) (λ_ i=>(n-intOf i).toNat)
 case atStart=>exact⟨0,by omega,c,rfl,rfl⟩
 obtain⟨k,b,g,rfl,rfl⟩:=hrel;by_cases a:k<n
 . (have f:P2 k=1\/P2 k=2\/P2 k=4:=by rcases(by omega:k=0\/k=1\/k=2)with rfl|rfl|rfl<;>simp[P2]);(have d:Hid (P2 (k+1)=2*P2 k):=by show P2 (k+1)=_;rcases(by omega:k=0\/k=1\/k=2)with rfl|rfl|rfl<;>simp[P2]);generalize P2 k=pk at *;go_wp2;(go_round);(case rel=>exact⟨k+1,by omega,by omega,rfl,by rw[d.o,Int.mul_comm]⟩);case measure=>simp[intOf];omega
 have e:k=n:=by omega
 subst e;go_wp2;go_ret;exact⟨rfl,rfl⟩
theorem swid_c (op:Int)(w:J):Ec Q 140 #[U O op] w λe w'=>e=Z (U O (P2 (Jm op)))/\w=w':=by
 go_enter func140,ntmps140;go_wp2
 all_goals
  go_ret
  exact⟨by simp_all[Jm,P2],rfl⟩
theorem width_le (op:Int):0<=Jm op/\Jm op<=3:=by
 unfold Jm;split
 · omega
 split
 · omega
 split<;>omega
theorem align_iff (c:0<=a)(b:a<=3):(P2 (Jm op)<P2 a) ↔ Jm op<a:=by
 have:=width_le op;rcases(by omega:a=0\/a=1\/a=2\/a=3)with rfl|rfl|rfl|rfl<;>rcases(by omega:Jm op=0\/Jm op=1\/Jm op=2\/Jm op=3)with e|e|e|e<;>simp[e,P2]
theorem JT (h:m.e=0)(f:Int):fail m f=⟨m.s,f⟩:=by simp[fail,h]
theorem ms0 (h:m.e=0):m=⟨m.s,0⟩:=by cases m;simp at h;simp[h]
theorem JH (op a b v:Int)(l:List Int)(o:Option Ad)(n:Nat)(h:MSt D w0 p lv nl ks m V)(u:CtR D w0 x t ks):∃(d:Option Ad) (c:Nat) (k:Option Ad) (j:Nat) (g:Option Ad) (f:Nat) (fcs:List Vu) (W:J) (B:Nat),t=⟨S d (N x.types) c,S k (N x.jk) j,S g (N x.jx) f,fcs⟩/\W=(V.alloc (Fc #[S d (N x.types) c,S k (N x.jk) j,S g (N x.jx) f,U O x.gw,U O x.jv,U O x.jz] 80)).alloc (Fc #[U O op,U O a,U O b,U Ou v,S o (N l) n] 85)/\B=V.heap.size/\MSt D w0 p lv nl (box 85 5 (B+1) (inC op a b v l o n)::box 80 6 B [S d (N x.types) c,S k (N x.jk) j,S g (N x.jx) f,U O x.gw,U O x.jv,U O x.jz]::ks) m W:=by
 obtain⟨d,c,k,j,g,f,q,s,r⟩:=u.shape h.mo;obtain⟨y,A,z,fcs⟩:=t;dsimp only at q s r;subst q s r;refine⟨d,c,k,j,g,f,fcs,_,_,rfl,rfl,rfl,?_⟩;have:=(h.bxn #[S d (N x.types) c,S k (N x.jk) j,S g (N x.jx) f,U O x.gw,U O x.jv,U O x.jz] 80 6 rfl).bxn #[U O op,U O a,U O b,U Ou v,S o (N l) n] 85 5 rfl;simpa using this
theorem cl6 {b v:Int}{c:List Int}{f:Option Ad}{d B:Nat}(h:MSt D w0 p lv nl (box 85 5 (B+1) (inC op a b v c f d)::box 80 6 B [x0,x1,x2,x3,x4,x5]::ks) m W):(W.cell? ⟨B+1,0,none⟩=some (U O op)/\W.cell? ⟨B+1,1,none⟩=some (U O a)/\W.cell? ⟨B+1,4,none⟩=some (S f (N c) d))/\W.cell? ⟨B,0,none⟩=some x0/\W.cell? ⟨B,1,none⟩=some x1/\W.cell? ⟨B,2,none⟩=some x2/\W.cell? ⟨B,4,none⟩=some x4/\W.cell? ⟨B,5,none⟩=some x5:=by
 have y:=λj u hj hu=>(h.mo.b0 j (u:=u) hj hu).1;have z:=λj u hj hu=>(h.mo.tail.b0 j (u:=u) hj hu).1;exact⟨⟨y 0 _ (by omega) rfl,y 1 _ (by omega) rfl,y 4 _ (by omega) rfl⟩,z 0 _ (by omega) rfl,z 1 _ (by omega) rfl,z 2 _ (by omega) rfl,z 4 _ (by omega) rfl,z 5 _ (by omega) rfl⟩
def AkC (D:Nat)(w0:J)(p:Nat)(lv:Vu)(nl:Int)(x:Ctx)(t:Ctv)(s:Fn)(ks:List Qb)(V:J)(y:In)(la:Option Ad)(lc:Nat):Prop:=Ec Q 79 #[cxV x t,Yp (some ⟨p,0,none⟩),inV y la lc] V λe w'=>e=Z (.tuple #[])/\∃ns,MSt D w0 p lv nl (ns++ks) ⟨s,Qp x frm s y⟩ w'
theorem sask_12 (a b v:Int)(g:List Int)(H:Option Ad)(F:Nat)(h:MSt D w0 p lv nl ks m V)(I:CtR D w0 x t ks)(M:m.e=0)  :AkC D w0 p lv nl x t m.s ks V ⟨12,a,b,v,g⟩ H F:=by
 unfold AkC;obtain⟨ta,tc,fa,fc,ga,gc,ad,W,B,rfl,u,y,j⟩:=JH 12 a b v g H F h I;obtain⟨⟨d0,d1,d4⟩,c0,c1,c2,c4,c5⟩:=cl6 j;obtain⟨sa,sc,ba,bc,ax,po,L,l⟩:=j.opnS;obtain⟨⟨q0,q1,q2,q3,q4,Y⟩,f2,f3,f4,f5⟩:=Xn L;clear L l q0 q2 q4 Y f2 f3 f4 f5;have HI:=Hm j;have R:=Hm M;have A:=Hm (λf=>Q2 f j);have r:=Hm (λw=>QO 12 w);obtain⟨f,l⟩:∃f,f=Qi (Qa 12):=⟨_,rfl⟩;rw[<- l]at r;have c:f=2:=by rw[l];decide +kernel
 have af:(f==5)=false:=by rw[c];rfl
 have ae:(f==6)=false:=by rw[c];rfl
 clear l c h I M;by_cases z:a<(N m.s.cq:Int)
 . (have C:Hid ((⟨m.s,Qp x frm m.s ⟨12,a,b,v,g⟩⟩:MS)=m):=by show _=m;rw[show Qp x frm m.s ⟨12,a,b,v,g⟩=0 by simp[Qp,Qk,show frm 12=2 by decide +kernel,z]];exact(ms0 R.o).symm);(have k:¬((N m.s.cq:Int)<=a):=by omega);clear z j;go_enter func79,ntmps79;(go_upto_region 1 with fail);rw[<- u,<- y];clear u y;(go_upto_region 35 with (go_at_call 138;refine(r.o _).mono ?_;rintro e X ⟨rfl,rfl⟩));have d:=Hm (λn=>(r.o (W.drewN n)).mono (R':=λe w'=>e=Z (U O f)/\∃m,w'=W.drewN m) λe w' ⟨a,b⟩=>⟨a,n,b.symm⟩);(go_quiet (with_reducible exact d.o _));go_wp2;go_end0;rw[C.o];exact⟨rfl,[_,_],(HI.o).keep ⟨rfl,rfl,rfl,lRz,λ_ _=>rfl⟩⟩
 have C:Hid ((⟨m.s,Qp x frm m.s ⟨12,a,b,v,g⟩⟩:MS)=fail m 2):=by show _=fail m _;rw[show Qp x frm m.s ⟨12,a,b,v,g⟩=2 by simp[Qp,Qk,show frm 12=2 by decide +kernel,z]];exact(JT R.o _).symm
 have k:(N m.s.cq:Int)<=a:=by omega
 clear z j;go_enter func79,ntmps79;go_upto_region 1 with fail
 rw[<- u,<- y];clear u y;go_upto_region 35 with (first|(go_at_call 138;refine(r.o _).mono ?_;rintro e X ⟨rfl,rfl⟩)|(go_at_call 137;refine(A.o 2).mono ?_;rintro e E ⟨rfl,q⟩;obtain⟨⟨d0,d1,d4⟩,c0,c1,c2,c4,c5⟩:=cl6 q))
 have d:=Hm (λn=>(r.o (E.drewN n)).mono (R':=λe w'=>e=Z (U O f)/\∃m,w'=E.drewN m) λe w' ⟨a,b⟩=>⟨a,n,b.symm⟩);go_quiet (with_reducible exact d.o _)
 go_wp2;go_end0;rw[C.o];exact⟨rfl,[_,_],(q).keep ⟨rfl,rfl,rfl,lRz,λ_ _=>rfl⟩⟩
theorem MSt.lab (h:MSt D w0 p lv nl ks m V){j:Nat}(H:j<N m.s.cq):∃g k c d,N m.s.cq=k+1/\V.cell? ⟨p,3,none⟩=some (S (some ⟨g,0,none⟩) (k+1) c)/\V.cell? ⟨g,(k-j)*7,none⟩=some d/\Ty D w0 ks d (label m.s j).gj:=by
 obtain⟨C,n,b,F,q,z⟩:=h;obtain⟨k,f⟩:∃k,N m.s.cq=k+1:=⟨N m.s.cq-1,by omega⟩;have l:V.ownsRow D 174 7 n (N m.s.cq) b:=q.row (r:=mlR _ n b) (by simp);obtain⟨g,c,rfl⟩:∃g c,n=S (some ⟨g,0,none⟩) (k+1) c:=by
  rcases l.2 with ⟨_,I⟩|⟨g,cap,A,o,_⟩
  . omega
  rw[f]at o;exact⟨g,cap,o⟩
 have u:k-j<N m.s.cq:=by omega
 have v:m.s.cq[k-j]?=some (label m.s j):=by rw[label,Kc,f,Nat.add_sub_cancel];simp[Kx,u]
 obtain⟨L,⟨d,E,a,rfl,t,B⟩,y⟩:=Fl.at mrep_len z v;refine⟨g,k,c,d,f,(q.b0 3).1,?_,t⟩;have:=World.ownsRow.cellAt (by rw[f]at l;exact l) ((k-j)*7) (by omega);rw[this];exact y 0 _ rfl
theorem MSt.hd (h:MSt D w0 p lv nl ks m V)(o:m.s.cq≠[]):∃g n c k,V.cell? ⟨p,3,none⟩=some (S (some ⟨g,0,none⟩) (n+1) c)/\V.cell? ⟨g,1,none⟩=some k/\Ty D w0 ks k (m.s.cq.headD ⟨0,[],[],0,false⟩).results:=by
 obtain⟨F,q,j,H,v,A⟩:=h;obtain⟨b,d,f⟩:∃b d,m.s.cq=b::d:=by
  cases f:m.s.cq with
  |nil=>exact absurd f o
  |cons b d=>exact⟨b,d,rfl⟩
 have l:V.ownsRow D 174 7 q (N m.s.cq) j:=v.row (r:=mlR _ q j) (by simp);have u:N m.s.cq=N d+1:=by rw[f];simp
 obtain⟨g,c,rfl⟩:∃g c,q=S (some ⟨g,0,none⟩) (N d+1) c:=by
  rcases l.2 with ⟨_,I⟩|⟨g,cap,B,t,_⟩
  . omega
  rw[u]at t;exact⟨g,cap,t⟩
 obtain⟨L,⟨C,k,a,rfl,E,y⟩,z⟩:=Fl.at mrep_len A (i:=0) (b:=b) (by rw[f];rfl);refine⟨g,N d,c,k,(v.b0 3).1,?_,by rw[f];exact y⟩;have:=World.ownsRow.cellAt (by rw[u]at l;exact l) 1 (by omega);rw[this];exact z 1 _ rfl
def JK (gs:List Grp):List Vu:=gs.flatMap λg=>[U O g.n,U O g.ty]
theorem grCs_at:∀(gs:List Grp) (k:Nat) (g:Grp),gs[k]?=some g->(JK gs)[k*2]?=some (U O g.n)/\(JK gs)[k*2+1]?=some (U O g.ty)
 |[],k,g,h=>by simp at h
 |x::gs,0,g,h=>by simp at h;subst h;simp[JK]
 |x::gs,k+1,g,h=>by
  have:=grCs_at gs k g (by simpa using h)
  have a:(k+1)*2=k*2+1+1:=by omega
  simpa[JK,a]using this
theorem grCs_len (gs:List Grp):(JK gs).length=N gs*2:=by
 induction gs with
 |nil=>rfl
 |cons g gs ih=>rw[JK,List.flatMap_cons,Lb];rw[JK]at ih;rw[ih];simp;omega
def LoM (lv:Vu)(ks:List Qb)(gs:List Grp):Prop:=(⟨172,2,N gs,lv,JK gs⟩:Qb)∈ks
theorem slocal_c (i:Int)(gs:List Grp)(h:MSt D w0 p lv nl ks m V)(u:LoM lv ks gs)(M:0<=i)(h1:i<=4294967295)(hn:∀g∈gs,0<=g.n)(L:N gs<=2097154):Ec Q 89 #[Yp (some ⟨p,0,none⟩),U O i] V λe w'=>e=Z (U O (XU gs i))/\V=w':=by
 obtain⟨a,c,e,v⟩:=Qu h.mo u;obtain⟨sv,bv,R,po,t,_⟩:=h;have C:=(Xn t).1.1;rw[e]at C;have X:=Hm hn;have Y:=Hm v;clear t v hn e u;go_enter func89,ntmps89;go_wp2;go_loop [1,5] (λx y=>∃(k:Nat) (j:Int),k<=N gs/\y=U O k/\x=U O j/\0<=j/\j<=i/\XU (gs.drop k) j=XU gs i) (λ_ y=>N gs-(intOf y).toNat)
 case atStart=>exact⟨0,i,Kw _,rfl,rfl,M,Int.le_refl _,rfl⟩
 obtain⟨k,j,hk,rfl,rfl,I,H,b⟩:=hrel;by_cases l:k<N gs
 . (have F:(k:Int)<(N gs:Int):=by omega);obtain⟨g,rfl,f⟩:=Y.o (by omega);obtain⟨x,s⟩:∃x,x=gs[k]:=⟨_,rfl⟩;(have d:gs[k]?=some x:=by rw[s];exact Kj l);obtain⟨A,z⟩:=grCs_at gs k x d;have d1:=f _ _ A (by omega);have d2:=f _ _ z (by omega);have E:=X.o x (List.mem_of_getElem? d);(have q:gs.drop k=x::gs.drop (k+1):=by rw[List.drop_eq_getElem_cons l,s]);rw[q,XU]at b;clear f A z d s q;by_cases B:j<x.n
   . rw[if_pos B]at b;have r:=Hm b;clear b;go_wp2;go_ret;exact⟨by rw[<- r.o];rfl,rfl⟩
   rw[if_neg B]at b;have r:=Hm b;(have hw:IntKind.i64.wrap (j-x.n)=j-x.n:=by rw[IntKind.wrap_i64];omega);clear b;go_wp2;(go_round);(case rel=>exact⟨k+1,j-x.n,by omega,by go_num,rfl,by omega,by omega,r.o⟩);case measure=>simp[intOf];omega
 obtain rfl:k=N gs:=by omega
 rw[List.drop_length,XU]at b;have r:=Hm b;clear b;go_wp2;go_ret;exact⟨by rw[<- r.o];rfl,rfl⟩
theorem stable_c (j:Nat)(b v:Int)(d:List Int)(la:Option Ad)(lc:Nat)(h:MSt D w0 p lv nl ks m V)(i:Inv m.s)(hj:j<N m.s.cq)(ap:N m.s.cq<=1048577)(ai:N m.s.jj<=1099511627776)(a1:∀b∈m.s.cq,N b.gj<=1048576)(tL:Ty D w0 [] (S la (N d) lc) d)(dd:N d<=1048577)(bb:∀i∈d,0<=i/\i<N m.s.cq):Ec Q 87 #[Yp (some ⟨p,0,none⟩),inV ⟨14,(j:Int),b,v,d⟩ la lc] V λe w'=>e=Z (.tuple #[])/\∃ns,MSt D w0 p lv nl (ns++ks) (mtable m d j) w':=by
 have aj:m.s.cq≠[]:=λe=>by rw[e]at hj;simp at hj
 obtain⟨bx,ao⟩:∃bx:Qb,bx=box 85 5 V.heap.size (inC 14 j b v d la lc):=⟨_,rfl⟩;have hI:=h.bxn #[U O 14,U O (j:Int),U O b,U Ou v,S la (N d) lc] 85 5 rfl;obtain⟨W,hW⟩:∃W,W=V.alloc (Fc #[U O 14,U O (j:Int),U O b,U Ou v,S la (N d) lc] 85):=⟨_,rfl⟩;obtain⟨B,hB⟩:∃B,B=V.heap.size:=⟨_,rfl⟩;rw[<- hW,<- hB]at hI;rw[<- hB]at ao;have bd:MSt D w0 p lv nl (bx::ks) m W:=by rw[ao];exact hI
 have CL:Hid (∀{m':MS} {W':J},MSt D w0 p lv nl (bx::ks) m' W'->W'.cell? ⟨B,1,none⟩=some (U O (j:Int))/\W'.cell? ⟨B,4,none⟩=some (S la (N d) lc)):=λhI=>by have ak:=hI.mo;rw[ao]at ak;exact⟨(ak.b0 1).1,(ak.b0 4).1⟩
 have HP:=Hm (XJ 127 bd i aj ap ai);obtain⟨M,hM⟩:∃M,M=mtable m d j:=⟨_,rfl⟩;rw[<- hM];unfold mtable at hM;have R:=XO m 127;obtain⟨r1,a3⟩:∃r,r=QD m 127:=⟨_,rfl⟩;rw[<- a3]at HP hM R;obtain⟨z1,a⟩:=r1;dsimp only at HP hM R;obtain⟨u,ab⟩:∃u,u=(label a.s (j:Int)).gj:=⟨_,rfl⟩;have a2:N a.s.jj<=1099511627776:=Kq R.ln ai;have ae:N a.s.cq<=1048577:=by rw[R.bl];exact ap
 have a5:a.s.cq≠[]:=by rw[R.bl];exact aj
 have a6:j<N a.s.cq:=by rw[R.bl];exact hj
 have H:∀b∈a.s.cq,N b.gj<=1048576:=by rw[R.bl];exact a1
 have ba:∀i∈d,0<=i/\i<N a.s.cq:=by rw[R.bl];exact bb
 have i1:=R.iv i;have cr:N u<=1048576:=by rw[ab];exact H _ (Xc a6)
 have HM:Hid (M=mdie (Qq (if d.all (λi=>decide ((label a.s i).gj=u))then a else fail a 6) u)):=by show M=_;rw[hM,mtab,ab]
 have cf:=Hm ab;have HT:=Hm tL;have HX:=Hm (⟨ba,H⟩:(∀i∈d,0<=i/\i<N a.s.cq)/\∀b∈a.s.cq,N b.gj<=1048576);clear h hI bd hM a3 R i aj ap ai hj a1 bb ab tL ba H;go_enter func87,ntmps87;go_upto_region 1 with fail
 rw[<- hW,<- hB];clear hW hB;go_wp2_with fail
 refine HP.o.mono ?_;rintro e w1 ⟨rfl,I⟩;obtain⟨c1,c4⟩:=CL.o I;obtain⟨g,k,c,tv,hk,d3,dt,t1⟩:=I.lab a6;rw[<- cf.o]at t1;obtain⟨xa,xc,rfl,_⟩:=t1.ms I;have F:=Hm (slabel_c p g k c (j:Int) w1 d3 (by omega) (by omega) (by omega));have bq:=Hm I;have bm:=Hm t1;have ej:(k-(j:Int).toNat)*7=(k-j)*7:=by simp
 rw[ej]at F;clear I t1 HP ej;go_wp2_with fail
 refine F.o.mono ?_;rintro e w2 ⟨rfl,n1,rfl⟩;have bp:=Hm (bq.o.drewN n1);obtain⟨w3,ah⟩:∃w3,w3=w1.drewN n1:=⟨_,rfl⟩;have dh:w3.cell? ⟨g,(k-j)*7,none⟩=some (S xa (N u) xc):=by rw[ah];exact dt
 rw[<- ah]at bp⊢;clear ah dt d3 c1 c4 bq;go_wp2_with fail
 go_loopw [5] (λy wr=>∃q:Nat,q<=N d/\y=U O q/\MSt D w0 p lv nl (bx::ks) (if(d.take q).all (λi=>decide ((label a.s i).gj=u))then a else fail a 6) wr) (λy _=>N d-(intOf y).toNat)
 case atStart=>exact⟨0,Kw _,rfl,bp.o⟩
 obtain⟨q,hq,rfl,l⟩:=hrel;obtain⟨c1,c4⟩:=CL.o l;obtain⟨A,z⟩:∃A,A=(if(d.take q).all (λi=>decide ((label a.s i).gj=u))=true then a else fail a 6):=⟨_,rfl⟩;rw[<- z]at l;have f:A.s=a.s:=by
  rw[z];split
  · rfl
  exact fail_s _ _
 have E:=Hm z;clear z;by_cases ac:q<N d
 . (have dc:(q:Int)<(N d:Int):=by omega);obtain⟨a',c',e,hh⟩:=Ty.ms (HT.o.sub (ks':=bx::ks) (λr hr=>by cases hr)) l;cases e;rcases hh with hx|⟨b_,off,ea,hc⟩
   . subst hx;simp at ac
   rw[ea]at c4;have g1:=hc q ac;obtain⟨y,hy⟩:∃y,y=d.getD q 0:=⟨_,rfl⟩;rw[<- hy]at g1;have b7:=HX.o.1 y (by rw[hy];simp[Kx,ac]);obtain⟨X,rfl⟩:∃X:Nat,y=X:=⟨y.toNat,by omega⟩;(have az:X<N A.s.cq:=by rw[f];omega);obtain⟨g',k',c',c8,b9,bj,bh,Y⟩:=l.lab az;rw[f]at Y;have b8:(label a.s (X:Int)).gj.length<=1048576:=HX.o.2 _ (Xc (by rw[<- f];exact az));obtain⟨ys,ag⟩:∃ys,ys=(label a.s (X:Int)).gj:=⟨_,rfl⟩;rw[<- ag]at Y b8;obtain⟨ya,yc,rfl,a7⟩:=Y.ms l;obtain⟨c6,c5,e,a8⟩:=bm.o.ms l;cases e;(have de:N A.s.cq<=1048577:=by rw[f];exact ae);have F:=Hm (slabel_c p g' k' c' (X:Int) wr bj (by omega) (by omega) (by omega));(have ej:(k'-(X:Int).toNat)*7=(k'-X)*7:=by simp);rw[ej]at F;have bs:=Hm (λn=>ssame_c ya xa yc xc ys u (wr.drewN n) (by omega) a7 a8);(have af:(d.take (q+1)).all (λi=>decide ((label a.s i).gj=u))=((d.take q).all (λi=>decide ((label a.s i).gj=u))&&decide (ys=u)):=by rw[Mv,List.all_append,ag,hy];simp[Kx,ac]);have C:=Hm af;have bo:=Hm l;clear hc hy af l ea ej Y a7 a8 ag f b9 b7;(go_wp2_with fail);refine F.o.mono ?_;rintro e w4 ⟨rfl,n2,rfl⟩;have t:=Hm (bs.o n2);have cd:(wr.drewN n2).cell? ⟨g',(k'-X)*7,none⟩=some (S ya (N ys) yc):=bh;have L:=Hm (bo.o.drewN n2);obtain⟨w5,a0⟩:∃w5,w5=wr.drewN n2:=⟨_,rfl⟩;rw[<- a0]at t cd L⊢;clear a0 bs bh bj F bo c1 c4 g1;by_cases cy:ys=u
   . rw[decide_eq_true cy]at t;(have aq:Hid (A=if(d.take (q+1)).all (λi=>decide ((label a.s i).gj=u))then a else fail a 6):=by show A=_;rw[C.o,decide_eq_true cy,Bool.and_true];exact E.o);clear cy C E;(go_wp2_with (go_at_call 143;refine t.o.mono ?_;rintro e w6 ⟨rfl,ad⟩));(go_roundw);(case rel=>exact⟨q+1,by omega,by go_num,by rw[<- aq.o];exact L.o.keep ad⟩);case measure=>simp[intOf];omega
   rw[decide_eq_false cy]at t;have aq:Hid (fail A 6=if(d.take (q+1)).all (λi=>decide ((label a.s i).gj=u))then a else fail a 6):=by
    show fail A 6=_;rw[C.o,decide_eq_false cy,Bool.and_false,E.o];split
    · rfl
    have e6:(fail a 6).e≠0:=by
     unfold fail;split
     · show(6:Int)≠0;decide
     assumption
    rw[fail_e _ 6 e6];rfl
   clear cy C E;(go_wp2_with fail);refine t.o.mono ?_;rintro e w6 ⟨rfl,ad⟩;have br:=Hm (Q2 6 (L.o.keep ad));rw[aq.o]at br;clear ad t;(go_wp2_with (go_at_call 137;refine br.o.mono ?_;rintro e w7 ⟨rfl,cc⟩));(go_roundw);(case rel=>exact⟨q+1,by omega,by go_num,cc⟩);case measure=>simp[intOf];omega
 obtain rfl:q=N d:=by omega
 have z:=E.o;rw[Kh]at z;have cg:Hid (M=mdie (Qq A u)):=by show M=_;rw[HM.o,z]
 have ik:Inv A.s:=by rw[f];exact i1
 have a4:A.s.cq≠[]:=by rw[f];exact a5
 have a9:N A.s.cq<=1048577:=by rw[f];exact ae
 have aa:=JI A u;have bn:=Hm (Xa _ u l bm.o ik a4 a9 (by rw[f];exact a2) (by omega));have bt:Hid (∀w8,MSt D w0 p lv nl (bx::ks) (Qq A u) w8->Ec Q 80 #[Yp (some ⟨p,0,none⟩)] w8 λe w'=>e=Z (.tuple #[])/\MSt D w0 p lv nl (bx::ks) M w'):=λw8 h8=>by rw[cg.o];exact sdead_c h8 (aa.iv ik) (by rw[aa.bl];exact a4) (by rw[aa.bl];exact a9)
 clear l f E z aa ik HM;go_wp2_with fail
 refine bn.o.mono ?_;rintro e w8 ⟨rfl,bc⟩;have ch:=Hm (bt.o w8 bc);clear bc bt bn;go_wp2_with (go_at_call 80;refine ch.o.mono ?_;rintro e w9 ⟨rfl,cb⟩)
 go_end0;exact⟨rfl,[_],cb⟩
abbrev X1 (V:J)(B:Nat)(op a b v:Int)(ll:List Int)(la:Option Ad)(lc:Nat)(x0 x1 x2 x3 x4 x5:Vu):Prop:=(V.cell? ⟨B+1,0,none⟩=some (U O op)/\V.cell? ⟨B+1,1,none⟩=some (U O a)/\V.cell? ⟨B+1,2,none⟩=some (U O b)/\V.cell? ⟨B+1,3,none⟩=some (U Ou v)/\V.cell? ⟨B+1,4,none⟩=some (S la (N ll) lc))/\V.cell? ⟨B,0,none⟩=some x0/\V.cell? ⟨B,1,none⟩=some x1/\V.cell? ⟨B,2,none⟩=some x2/\V.cell? ⟨B,3,none⟩=some x3/\V.cell? ⟨B,4,none⟩=some x4/\V.cell? ⟨B,5,none⟩=some x5
section
variable {D:Nat}{w0:J}{p:Nat}{lv:Vu}{nl:Int}{ks:List Qb}{m:MS}{V W V1:J}
theorem MSt.pos (h:MSt D w0 p lv nl ks m V):∃a,(V.cell? ⟨p,5,none⟩=some (U O a)/\V.frozen? ⟨p,5,none⟩=false)/\∀u,MSt D w0 p lv nl ks m (V.setCell ⟨p,5,none⟩ (U O u)):=by
 obtain⟨d,g,b,a,c,f⟩:=h;exact⟨a,c.b0 5,λu=>⟨d,g,b,u,c.set 5 (U O u),f⟩⟩
theorem MSt.err (h:MSt D w0 p lv nl ks m V):V.cell? ⟨p,4,none⟩=some (U O m.e):=by
 obtain⟨c,g,b,d,a,f⟩:=h;exact(Xn a).1.2.2.2.2.1
theorem MSt.ins {ns:List Qb}{B:Nat}{b v:Int}{c:List Int}{f:Option Ad}{d:Nat}(h:MSt D w0 p lv nl (ns++(box 85 5 (B+1) (inC op a b v c f d)::box 80 6 B [x0,x1,x2,x3,x4,x5]::ks)) m V):X1 V B op a b v c f d x0 x1 x2 x3 x4 x5:=by
 have y:=λ(j:Nat) (u:Vu) (hj:j<5) (hu:(inC op a b v c f d)[j]?=some u)=>(h.mo.bx (t:=85) (n:=5) (g:=B+1) (cs:=inC op a b v c f d) (by simp) j hj hu).1;have z:=λ(j:Nat) (u:Vu) (hj:j<6) (hu:[x0,x1,x2,x3,x4,x5][j]?=some u)=>(h.mo.bx (t:=80) (n:=6) (g:=B) (cs:=[x0,x1,x2,x3,x4,x5]) (by simp) j hj hu).1;exact⟨⟨y 0 _ (by omega) rfl,y 1 _ (by omega) rfl,y 2 _ (by omega) rfl,y 3 _ (by omega) rfl,y 4 _ (by omega) rfl⟩,z 0 _ (by omega) rfl,z 1 _ (by omega) rfl,z 2 _ (by omega) rfl,z 3 _ (by omega) rfl,z 4 _ (by omega) rfl,z 5 _ (by omega) rfl⟩
end
theorem mpush_nil (m:MS):Xb m []=m:=by simp[Xb,JE,push]
theorem mpopAll_127 (m:MS)(a:List Int):Qq m (a++[127])=Qq (QD m 127).2 a:=by simp[Qq,JR]
def AskC (D:Nat)(w0:J)(p:Nat)(lv:Vu)(nl:Int)(x:Ctx)(t:Ctv)(s:Fn)(y:In)(la:Option Ad)(lc:Nat):Prop:=∀{ks':List Qb} {V':J},MSt D w0 p lv nl ks' ⟨s,0⟩ V'->CtR D w0 x t ks'->Ec Q 79 #[cxV x t,Yp (some ⟨p,0,none⟩),inV y la lc] V' λe w'=>e=Z (.tuple #[])/\∃ns,MSt D w0 p lv nl (ns++ks') ⟨s,Qp x frm s y⟩ w'
structure P7 (D:Nat)(w0:J)(p:Nat)(lv:Vu)(nl:Int)(ks:List Qb)(s:Fn)(V:J)(x:Ctx)(t:Ctv)(y:In)(la:Option Ad)(lc:Nat):Prop where
 h:MSt D w0 p lv nl ks ⟨s,0⟩ V
 hx:CtR D w0 x t ks
 hlo:LoM lv ks (QM s)
 B:Bd s
 C:CxB x
 hne:s.cq≠[]
 HK:AskC D w0 p lv nl x t s y la lc
def SpC (D:Nat)(w0:J)(p:Nat)(lv:Vu)(nl:Int)(ks:List Qb)(s:Fn)(V:J)(x:Ctx)(t:Ctv)(y:In)(la:Option Ad)(lc:Nat):Prop:=Ec Q 28 #[cxV x t,Yp (some ⟨p,0,none⟩),inV y la lc] V λe w'=>e=Z (.tuple #[])/\∃ns,MSt D w0 p lv nl (ns++ks) (Qt x frm oty s y) w'
theorem sstep_bad (op a b v:Int)(j:List Int)(n:Option Ad)(m:Nat)(H:P7 D w0 p lv nl ks s V x t ⟨op,a,b,v,j⟩ n m)(c:Qp x frm s ⟨op,a,b,v,j⟩≠0)  :SpC D w0 p lv nl ks s V x t ⟨op,a,b,v,j⟩ n m:=by
 obtain⟨h,l,k,B,C,ai,HK⟩:=H;unfold SpC;obtain⟨ta,tc,fa,fc,ga,gc,u,W,B_,rfl,A,E,q⟩:=JH op a b v j n m h l;have d:=Hm (HK q (l.sub (λr hr=>by simp[hr])));obtain⟨⟨R,M,L,I,F⟩,c0,c1,c2,c3,Y,X⟩:=MSt.ins (ns:=[]) q;obtain⟨f,z⟩:∃f,f=Qp x frm s ⟨op,a,b,v,j⟩:=⟨_,rfl⟩;have HR:Hid (Qt x frm oty s ⟨op,a,b,v,j⟩=⟨s,f⟩):=by show Qt x frm oty s ⟨op,a,b,v,j⟩=_;rw[Qt,if_pos c,z]
 rw[<- z]at d c;have k0:(f != 0)=true:=by simpa using c
 have HX:=Hm (⟨l,k⟩:CtR D w0 x ⟨S ta (N x.types) tc,S fa (N x.jk) fc,S ga (N x.jx) gc,u⟩ ks/\LoM lv ks (QM s));clear h l k q HK c;go_enter func28,ntmps28;go_upto_region 1 with fail
 rw[<- A,<- E];clear A E;go_wp2_with fail
 refine d.o.mono ?_;rintro e w1 ⟨rfl,ns,g⟩;have q9:=g.err;dsimp only at q9;clear d R M L I F c0 c1 c2 c3 Y X;obtain⟨⟨R,M,L,I,F⟩,c0,c1,c2,c3,Y,X⟩:=g.ins;have y:=Hm g;clear g;go_wp2;refine bodyPost_ret (results_none rfl _ _ _) rfl ?_;rw[HR.o];exact⟨rfl,ns++[_,_],by rw[Kv];exact y.o⟩
theorem sstep_0 (a b v:Int)(k:List Int)(u:Option Ad)(q:Nat)(H:P7 D w0 p lv nl ks s V x t ⟨0,a,b,v,k⟩ u q)(f:Qp x frm s ⟨0,a,b,v,k⟩=0)  :SpC D w0 p lv nl ks s V x t ⟨0,a,b,v,k⟩ u q:=by
 obtain⟨h,E,z,B,C,L,HK⟩:=H;unfold SpC;obtain⟨I,F,fa,fc,X,R,Y,W,B_,rfl,hW,hB,M⟩:=JH 0 a b v k u q h E;have j:=Hm (HK M (E.sub (λr hr=>by simp[hr])));obtain⟨⟨d0,d1,d2,d3,d4⟩,c0,c1,c2,c3,c4,c5⟩:=MSt.ins (ns:=[]) M;have HR:Hid (Qt x frm oty s ⟨0,a,b,v,k⟩=mdie ⟨s,0⟩):=by show Qt x frm oty s ⟨0,a,b,v,k⟩=_;rw[Qt,if_neg (λc=>c f)];simp[Q9]
 rw[f]at j;have HX:=Hm (⟨E,z⟩:CtR D w0 x ⟨S I (N x.types) F,S fa (N x.jk) fc,S X (N x.jx) R,Y⟩ ks/\LoM lv ks (QM s));clear h E z M HK f;go_enter func28,ntmps28;go_upto_region 1 with fail
 rw[<- hW,<- hB];clear hW hB;go_wp2_with fail
 refine j.o.mono ?_;rintro e w1 ⟨rfl,ns,d⟩;have q9:=d.err;dsimp only at q9;clear j d0 d1 d2 d3 d4 c0 c1 c2 c3 c4 c5;obtain⟨⟨d0,d1,d2,d3,d4⟩,c0,c1,c2,c3,c4,c5⟩:=d.ins;obtain⟨n,g⟩:∃n:List Qb,n=ns++(box 85 5 (B_+1) (inC 0 a b v k u q)::box 80 6 B_ [S I (N x.types) F,S fa (N x.jk) fc,S X (N x.jx) R,U O x.gw,U O x.jv,U O x.jz]::ks):=⟨_,rfl⟩;replace d:MSt D w0 p lv nl n ⟨s,0⟩ w1:=by rw[g];exact d
 have a4:Hid (∀(m':MS) (W':J) (ns':List Qb),MSt D w0 p lv nl (ns'++n) m' W'->X1 W' B_ 0 a b v k u q (S I (N x.types) F) (S fa (N x.jk) fc) (S X (N x.jx) R) (U O x.gw) (U O x.jv) (U O x.jz)):=λm' W' ns' h=>by rw[g,<- Kv]at h;exact h.ins
 have ad:Hid (∃m,n=m++ks):=⟨ns++[_,_],by rw[g,Kv];rfl⟩;have a2:Hid (∀r∈ks,r∈n):=λr hr=>by rw[g];simp[hr]
 clear g;have HC:=Hm (sdead_c d B.inv L B.bl);clear d;go_wp2_with fail
 refine HC.o.mono ?_;rintro e w9 ⟨rfl,A⟩;clear HC;obtain⟨po,⟨r5,a0⟩,l⟩:=A.pos;have ac:=Hm l;clear l A;go_wp2;go_end0;rw[HR.o];obtain⟨m,y⟩:=ad.o;exact⟨rfl,m,by rw[<- y];exact ac.o _⟩
theorem sstep_1 (a b v:Int)(k:List Int)(u:Option Ad)(q:Nat)(H:P7 D w0 p lv nl ks s V x t ⟨1,a,b,v,k⟩ u q)(f:Qp x frm s ⟨1,a,b,v,k⟩=0)  :SpC D w0 p lv nl ks s V x t ⟨1,a,b,v,k⟩ u q:=by
 obtain⟨h,E,z,B,C,a0,HK⟩:=H;unfold SpC;obtain⟨I,F,fa,Y,R,M,X,W,B_,rfl,hW,hB,L⟩:=JH 1 a b v k u q h E;have j:=Hm (HK L (E.sub (λr hr=>by simp[hr])));obtain⟨⟨d0,d1,d2,d3,d4⟩,c0,c1,c2,c3,c4,c5⟩:=MSt.ins (ns:=[]) L;have HR:Hid (Qt x frm oty s ⟨1,a,b,v,k⟩=⟨s,0⟩):=by
  show Qt x frm oty s ⟨1,a,b,v,k⟩=_;rw[Qt,if_neg (λc=>c f)];have e:Q9 x oty ⟨s,0⟩ ⟨1,a,b,v,k⟩=mapp ⟨s,0⟩ (oty 1):=by simp[Q9,QW]
  have e1:(oty 1).ps=[]:=by decide +kernel
  have e2:(oty 1).rs=[]:=by decide +kernel
  rw[e,mapp,e1,e2];exact mpush_nil _
 rw[f]at j;have HX:=Hm (⟨E,z⟩:CtR D w0 x ⟨S I (N x.types) F,S fa (N x.jk) Y,S R (N x.jx) M,X⟩ ks/\LoM lv ks (QM s));clear h E z L HK f;go_enter func28,ntmps28;go_upto_region 1 with fail
 rw[<- hW,<- hB];clear hW hB;go_wp2_with fail
 refine j.o.mono ?_;rintro e w1 ⟨rfl,ns,d⟩;have q9:=d.err;dsimp only at q9;clear j d0 d1 d2 d3 d4 c0 c1 c2 c3 c4 c5;obtain⟨⟨d0,d1,d2,d3,d4⟩,c0,c1,c2,c3,c4,c5⟩:=d.ins;obtain⟨n,g⟩:∃n:List Qb,n=ns++(box 85 5 (B_+1) (inC 1 a b v k u q)::box 80 6 B_ [S I (N x.types) F,S fa (N x.jk) Y,S R (N x.jx) M,U O x.gw,U O x.jv,U O x.jz]::ks):=⟨_,rfl⟩;replace d:MSt D w0 p lv nl n ⟨s,0⟩ w1:=by rw[g];exact d
 have a5:Hid (∀(m':MS) (W':J) (ns':List Qb),MSt D w0 p lv nl (ns'++n) m' W'->X1 W' B_ 1 a b v k u q (S I (N x.types) F) (S fa (N x.jk) Y) (S R (N x.jx) M) (U O x.gw) (U O x.jv) (U O x.jz)):=λm' W' ns' h=>by rw[g,<- Kv]at h;exact h.ins
 have ac:Hid (∃m,n=m++ks):=⟨ns++[_,_],by rw[g,Kv];rfl⟩;have a3:Hid (∀r∈ks,r∈n):=λr hr=>by rw[g];simp[hr]
 clear g;have A:=d;clear d;obtain⟨po,⟨r5,ay⟩,l⟩:=A.pos;have ab:=Hm l;clear l A;go_wp2;go_end0;rw[HR.o];obtain⟨m,y⟩:=ac.o;exact⟨rfl,m,by rw[<- y];exact ab.o _⟩
theorem info172:(Q.info? 172).map (λi=>(i.zero,i.size,i.bytes))=some (some (Ag #[U O 0,U O 0]),2,16):=by kernel_rfl
abbrev bgB (lv:Vu)(n:Int):List Vu:=[lv,U O n,S none 0 0,S none 0 0,U O 0,U O 0]
def BSt (D:Nat)(w0:J)(p:Nat)(gs:List Grp)(n:Int)(ks:List Qb)(V:J):Prop:=∃lv,Mo D w0 (box 89 6 p (bgB lv n)::⟨172,2,N gs,lv,JK gs⟩::ks) V
theorem grCs_app (a b:List Grp):JK (a++b)=JK a++JK b:=by simp[JK]
theorem BSt.keep {n:Int}(h:BSt D w0 p gs n ks V)(a:Bw V.heap.size V W):BSt D w0 p gs n ks W:=by
 obtain⟨lv,b⟩:=h;exact⟨lv,b.keep a⟩
theorem BSt.app {D}{V1:J}{gs':List Grp}{n:Int}{v':Vu}(h:Mo D w0 (box 89 6 p (bgB lv n)::⟨172,2,N gs,lv,JK gs⟩::ks) V)(f:Bw V.heap.size V V1)(b:W.ownsRow D 172 2 v' (N gs+N gs') (JK gs++JK gs'))(d:V1.grownBy W lv.ownBlock)(c:v'.ownBlock=lv.ownBlock\/v'.ownBlock=some V1.heap.size):(W.cell? ⟨p,0,none⟩=some lv/\W.frozen? ⟨p,0,none⟩=false)/\BSt D w0 p (gs++gs') n ks (W.setCell ⟨p,0,none⟩ v'):=by
 have a:=((h.perm (Kf _ _ _)).push (r':=⟨172,2,N gs+N gs',v',JK gs++JK gs'⟩) f d b c).perm (Kf _ _ _);refine⟨a.b0 0,v',?_⟩;have g:=a.set 0 v';rw[grCs_app,Lb];exact g
theorem GrL.src {ks}{a:Option Ad}(h:GrL D w0 a gs)(f:Mo D w0 ks V):SrcC V a (JK gs):=by
 by_cases c:gs=[]
 . subst c;cases a with
   |none=>exact .inl ⟨rfl,rfl⟩
   |some ad=>exact .inr ⟨ad,rfl,λj u hu=>by simp[JK]at hu⟩
 rcases h with h|⟨b,off,rfl,k,g⟩
 . exact absurd h c
 refine .inr ⟨_,rfl,λj u hu=>?_⟩;have q:j<N gs*2:=by rw[<- grCs_len];exact(List.getElem?_eq_some_iff.1 hu).1
 have d:j / 2<N gs:=by omega
 obtain⟨m,l⟩:=grCs_at gs (j / 2) (gs.getD (j / 2) Grp.z) (by simp[Kx,d]);obtain⟨o,n⟩:=g (j / 2) d;rw[Addr.add_lit];rw[f.b.cell (p:=⟨b,off+j,none⟩) k];rcases(by omega:j=j / 2*2\/j=j / 2*2+1)with e|e
 . rw[e]at hu⊢;rw[m]at hu;cases hu;exact o
 rw[e]at hu⊢;rw[l]at hu;cases hu;rw[show off+(j / 2*2+1)=off+j / 2*2+1 by omega];exact n
theorem oneG (gs:List Grp):∀u∈JK gs,u.oneCell'=true:=by
 intro u a;simp[JK]at a;obtain⟨g,_,rfl|rfl⟩:=a<;>rfl
theorem sbegin_c {D w0 ks V}(t:Qc)(pv rv:Vu)(ga:Option Ad)(gc:Nat)(gs:List Grp)(hm:Mo D w0 ks V)(tp:Ty D w0 [] pv t.ps)(tr:Ty D w0 [] rv t.rs)(hg:GrL D w0 ga gs)(cl:N t.ps<=1048577)(cn:N gs<=1048577)(hs:∀k,k<=N gs->0<=QJ (gs.take k)/\QJ (gs.take k)<=4503599627370496*4):Ec Q 25 #[Ag #[pv,rv],S ga (N gs) gc] V λe w'=>∃p lv ns,e=Z (Yp (some ⟨p,0,none⟩))/\MSt D w0 p lv (Xj (fn0 t gs)) (ns++ks) ⟨fn0 t gs,0⟩ w'/\LoM lv (ns++ks) (QM (fn0 t gs)):=by
 obtain⟨pa,pc,rfl,_⟩:=tp.shape hm (λr hr=>by cases hr);obtain⟨g,f,rfl,_⟩:=tr.shape hm (λr hr=>by cases hr);obtain⟨i0,hi,az,ay,ax⟩:=info_parts info172;obtain⟨q,hq⟩:∃q,q=V.heap.size:=⟨_,rfl⟩;obtain⟨H,a2⟩:∃H:Qb,H=box 76 2 q [S pa (N t.ps) pc,S g (N t.rs) f]:=⟨_,rfl⟩;obtain⟨W,hW⟩:∃W,W=(V.alloc (Fc #[S pa (N t.ps) pc,S g (N t.rs) f] 76)).alloc (Fc #[S none 0 0,U O 0,S none 0 0,S none 0 0,U O 0,U O 0] 89):=⟨_,rfl⟩;have a3:BSt D w0 (q+1) [] 0 (H::ks) W:=by have h1:=(hm.box (cur:=#[S pa (N t.ps) pc,S g (N t.rs) f]) 76 2 rfl).box (cur:=#[S none 0 0,U O 0,S none 0 0,S none 0 0,U O 0,U O 0]) 89 6 rfl;have h2:=(h1.new (ns:=[⟨172,2,0,S none 0 0,[]⟩]) bFz (Own.one (Tq _ _ _ _))).perm (Kf _ _ _);refine⟨S none 0 0,?_⟩;rw[hW,a2,hq];simpa[JK]using h2
 have CL:Hid (∀{L:List Grp} {n:Int} {W':J},BSt D w0 (q+1) L n (H::ks) W'->W'.cell? ⟨q,0,none⟩=some (S pa (N t.ps) pc)/\W'.cell? ⟨q,1,none⟩=some (S g (N t.rs) f)):=λh=>by obtain⟨lv,h1⟩:=h;rw[a2]at h1;exact⟨(h1.tail.tail.b0 0).1,(h1.tail.tail.b0 1).1⟩
 have ao:=Hm a3;have Y:=Hm tp;have F:=Hm tr;have HG:=Hm hg;have HS:=Hm hs;clear a3 tp tr hg hs hm;go_enter func25,ntmps25;go_upto_region 2 with fail
 rw[<- hW,<- hq];clear hW hq;go_wp2_with fail
 go_loopw [6] (λi wr=>∃k:Nat,k<=N t.ps/\i=U O k/\BSt D w0 (q+1) ((t.ps.take k).map λy=>⟨1,y⟩) 0 (H::ks) wr) (λi _=>N t.ps-(intOf i).toNat)
 case atStart=>exact⟨0,Kw _,rfl,ao.o⟩
 obtain⟨k,hk,rfl,s⟩:=hrel;obtain⟨e0,e1⟩:=CL.o s;obtain⟨L,hL⟩:∃L:List Grp,L=(t.ps.take k).map λy=>⟨1,y⟩:=⟨_,rfl⟩;rw[<- hL]at s;have co:N L<=1048577:=by rw[hL];simp;omega
 by_cases m:k<N t.ps
 . (have br:(k:Int)<(N t.ps:Int):=by omega);obtain⟨lv,a⟩:=s;obtain⟨a',c',e,hh⟩:=Y.o.shape a (λr hr=>by cases hr);cases e;rcases hh with hx|⟨b_,off,rfl,hc⟩
   . rw[hx]at m;simp at m
   have g1:=hc k m;obtain⟨y,hy⟩:∃y,y=t.ps.getD k 0:=⟨_,rfl⟩;rw[<- hy]at g1;have c:wr.ownsRow D 172 2 lv (N L) (JK L):=a.row (r:=⟨172,2,N L,lv,JK L⟩) (by simp);obtain⟨la,lc,rfl⟩:=Qg c;have q0:=(a.b0 0).1;have kd:∀o,(wr.alloc o).cell? ⟨q+1,0,none⟩=some (S la (N L) lc):=λo=>Qf q0;have a8:Hid (∀o,Bw wr.heap.size wr ((wr.alloc o).drew)):=λo=>⟨rfl,rfl,rfl,by show wr.heap.size<=(wr.alloc o).heap.size;simp,λk hk=>QN wr o k hk⟩;have HP:Hid (∀V1 W' v',Bw wr.heap.size wr V1->W'.ownsRow D 172 2 v' (N L+1) (JK L++[U O 1,U O y])->V1.grownBy W' (Tv la (N L) lc).ownBlock->(v'.ownBlock=(Tv la (N L) lc).ownBlock\/v'.ownBlock=some V1.heap.size)->(W'.cell? ⟨q+1,0,none⟩=some (S la (N L) lc)/\W'.frozen? ⟨q+1,0,none⟩=false)/\BSt D w0 (q+1) (L++[⟨1,y⟩]) 0 (H::ks) (W'.setCell ⟨q+1,0,none⟩ v')):=λV1 W' v' hb ho hg hl=>BSt.app (gs':=[⟨1,y⟩]) a hb ho hg hl;(have B:L++[⟨1,y⟩]=(t.ps.take (k+1)).map λy=>(⟨1,y⟩:Grp):=by(have e:t.ps.take (k+1)=t.ps.take k++[t.ps.getD k 0]:=by rw[Mv];simp[Kx,m]);rw[hL,hy,e,Tf];rfl);have ai:=Hm B;have OW:=Hm c;have X:=a.le;clear a c hc hy hL B Y F HG HS ao CL;go_wp2_with fail
   go_region_law (first
    | (
     refine Qs rfl (.tmp 21) (.tmp 28) 69 rfl D 172 i0 (Ag #[U O 0,U O 0]) 2 16 underlying69 hi az ay ax rfl (by decide) (S la (N L) lc) (N L) (JK L) (by first|rfl|simp[Tc,Hw]) (World.ownsRow.alloc OW.o _) ⟨wr.heap.size,0,none⟩ 1 1 [U O 1,U O y] (by first|rfl|simp[Tc,Hw]) (by first|rfl|simp) (Jo wr [U O 1,U O y] 172) (one2 rfl rfl) (by unfold maxLen;omega) (by omega) (Kq X (a8.o _).size) ?_
     intro v2 w5 u a5 d
     have HQ:=Hm (HP.o _ w5 v2 (a8.o _) u a5 d);have c0:=HQ.o.1.1;have cx:=HQ.o.1.2;obtain⟨ch,cf,rfl⟩:=Qg u;clear u a5 d))
   all_goals
    go_wp2_with fail
    go_roundw
    case rel=>exact⟨k+1,by omega,by go_num,by rw[<- ai.o];exact HQ.o.2⟩
    case measure=>simp[intOf];omega
 obtain rfl:k=N t.ps:=by omega
 rw[Kh]at hL;obtain⟨lv,a⟩:=s;have c:wr.ownsRow D 172 2 lv (N L) (JK L):=a.row (r:=⟨172,2,N L,lv,JK L⟩) (by simp);obtain⟨la,lc,rfl⟩:=Qg c;have q0:=a.b0 0;obtain⟨q0,f0⟩:=q0;have HP:=Hm (λW' v'=>BSt.app (W:=W') (v':=v') (gs':=gs) a bFz);have a6:=Hm (HG.o.src a);have OW:=Hm c;have X:=a.le;have a0:=grCs_len gs;have b4:=Hm (oneG gs);have aj:=Hm hL;clear a c hL ao hk;go_wp2_with (at_builtin;refine XP rfl _ _ 69 rfl D 172 i0 (Ag #[U O 0,U O 0]) 2 16 underlying69 hi az ay ax rfl (by decide) _ _ _ rfl OW.o ga (N gs) gc (JK gs) rfl a0 a6.o b4.o (by unfold maxLen;omega) (by omega) X ?_;intro v' w2 A C d;have HQ:=Hm (HP.o w2 v' A C d);have d4:=HQ.o.1.1;have df:=HQ.o.1.2;obtain⟨va,vc,rfl⟩:=Qg A;clear A C d)
 obtain⟨b,E⟩:∃b,b=L++gs:=⟨_,rfl⟩;have ag:=HQ.o.2;rw[<- E]at ag;generalize w2.setCell ⟨q+1,0,none⟩ (S va (N L+N gs) vc)=W2 at *;have cb:N b<=2097154:=by rw[E,Lb];omega
 have a7:Hid (b=QM (fn0 t gs)):=by show b=_;rw[E,aj.o];rfl
 have ah:Hid (∀k,k<=N b->0<=QJ (b.take k)/\QJ (b.take k)<=4503599627370496*4+1048577):=λk hk=>by
  rw[E,List.take_append];have e1:∀(l:List Int) (j:Nat),QJ ((l.map λy=>(⟨1,y⟩:Grp)).take j)=((min j (N l):Nat):Int):=λl=>by
   induction l with
   |nil=>intro j;simp[QJ]
   |cons z l ih =>
    intro j
    cases j with
    |zero=>simp[QJ]
    |succ j=>rw[List.map_cons,Ez,Gb,ih j];simp;omega
  have e3:QJ (L.take k++gs.take (k-N L))=QJ (L.take k)+QJ (gs.take (k-N L)):=by simp[QJ]
  rw[e3,aj.o,e1];have e4:=HS.o (min (k-(t.ps.map λy=>(⟨1,y⟩:Grp)).length) (N gs)) (by omega);have e5:gs.take (min (k-(t.ps.map λy=>(⟨1,y⟩:Grp)).length) (N gs))=gs.take (k-(t.ps.map λy=>(⟨1,y⟩:Grp)).length):=by rw[List.take_eq_take_iff];omega
  rw[e5]at e4;omega
 have ak:=Hm ag;clear ag HQ d4 df E HP a6 OW q0 f0 aj HG HS X e0 e1;go_loopw [7] (λi wr=>∃k:Nat,k<=N b/\i=U O k/\BSt D w0 (q+1) b (QJ (b.take k)) (H::ks) wr) (λi _=>N b-(intOf i).toNat)
 case atStart=>exact⟨0,Kw _,rfl,ak.o⟩
 obtain⟨k,hk,rfl,s⟩:=hrel;obtain⟨e0,e1⟩:=CL.o s;obtain⟨lv,a⟩:=s;have c:wr.ownsRow D 172 2 lv (N b) (JK b):=a.row (r:=⟨172,2,N b,lv,JK b⟩) (by simp);obtain⟨M,I,bq,ae⟩:=Qu a (e:=172) (sz:=2) (n:=N b) (v:=lv) (cs:=JK b) (by simp);subst bq;have q0:=(a.b0 0).1;by_cases m:k<N b
 . (have br:(k:Int)<(N b:Int):=by omega);obtain⟨g2,rfl,a1⟩:=ae (by omega);have q1:=a.b0 1;obtain⟨q1,f1⟩:=q1;have g1:=a1 _ _ (grCs_at b k (b.getD k Grp.z) (by simp[Kx,m])).1 (by omega);(have R:QJ (b.take (k+1))=QJ (b.take k)+(b.getD k Grp.z).n:=by(have e:b.take (k+1)=b.take k++[b.getD k Grp.z]:=by rw[Mv];simp[Kx,m]);rw[e];simp[QJ]);have b0:=ah.o k hk;have b1:=ah.o (k+1) (by omega);obtain⟨n0,ad⟩:∃n0,n0=QJ (b.take k):=⟨_,rfl⟩;obtain⟨xn,ac⟩:∃xn,xn=(b.getD k Grp.z).n:=⟨_,rfl⟩;rw[R]at b1;rw[<- ad,<- ac]at b1 R;rw[<- ad]at b0 q1;rw[<- ac]at g1;(have hw:IntKind.i64.wrap (n0+xn)=n0+xn:=by rw[IntKind.wrap_i64];omega);(have ai:Hid (BSt D w0 (q+1) b (QJ (b.take (k+1))) (H::ks) (wr.setCell ⟨q+1,1,none⟩ (U O (n0+xn)))):=by rw[R];exact⟨_,a.set 1 (U O (n0+xn))⟩);clear a c ae a1 R ad ac b0 b1 ak Y F CL;(go_wp2_with fail);go_region
   all_goals
    go_wp2_with fail
    go_roundw
    case rel=>exact⟨k+1,by omega,by go_num,ai.o.keep ⟨rfl,rfl,rfl,lRz,λ_ _=>rfl⟩⟩
    case measure=>simp[intOf];omega
 obtain rfl:k=N b:=by omega
 rw[Kh]at a;have aa:QJ b=Xj (fn0 t gs):=by rw[a7.o,QJ];exact nloc_eq _
 rw[aa]at a;have q3:=a.b0 3;obtain⟨q3,f3⟩:=q3;have kd:∀o,(wr.alloc o).cell? ⟨q+1,3,none⟩=some (S none 0 0):=λo=>Qf q3;have kf:∀o,(wr.alloc o).frozen? ⟨q+1,3,none⟩=false:=λo=>((a.keep (bFz.alloc lRz o)).b0 3).2;have HF:Hid (MSt D w0 (q+1) (S M (N b) I) (Xj (fn0 t gs)) ([⟨172,2,N b,S M (N b) I,JK b⟩,H]++ks) ⟨fn0 t gs,0⟩ ((wr.alloc (Fc #[S g (N t.rs) f,S g (N t.rs) f,U O 0,G false,G false,U O (-1),G false] 174)).setCell ⟨q+1,3,none⟩ (S (some ⟨wr.heap.size,0,none⟩) 1 1))):=by
  have hb:Bw wr.heap.size wr (wr.alloc (Fc #[S g (N t.rs) f,S g (N t.rs) f,U O 0,G false,G false,U O (-1),G false] 174)):=bFz.alloc lRz _;have h2:=a.new (ns:=[⟨2,1,0,S none 0 0,[]⟩,⟨174,7,1,S (some ⟨wr.heap.size,0,none⟩) 1 1,mbk (S g (N t.rs) f) (S g (N t.rs) f) 0 false false (-1) false⟩]) hb (Own.two (Tq _ _ _ _) (World.ownsRow_lit (base:=wr.heap.size) (e:=174) (size:=7) wr #[S g (N t.rs) f,S g (N t.rs) f,U O 0,G false,G false,U O (-1),G false] 1 lRz (by unfold maxLen;omega) rfl) (λi h=>by cases h));have h3:=h2.perm (rs':=box 89 6 (q+1) (bgB (S M (N b) I) (Xj (fn0 t gs)))::⟨2,1,0,S none 0 0,[]⟩::⟨174,7,1,S (some ⟨wr.heap.size,0,none⟩) 1 1,mbk (S g (N t.rs) f) (S g (N t.rs) f) 0 false false (-1) false⟩::⟨172,2,N b,S M (N b) I,JK b⟩::H::ks) (by
   classical
   rw[Kn];intro x;simp[Th];omega)
  have h4:=h3.set 3 (S (some ⟨wr.heap.size,0,none⟩) 1 1);refine⟨S none 0 0,S (some ⟨wr.heap.size,0,none⟩) 1 1,mbk (S g (N t.rs) f) (S g (N t.rs) f) 0 false false (-1) false,0,h4,?_⟩;exact Fl.one ⟨_,_,-1,rfl,F.o.sub (λr hr=>by cases hr),F.o.sub (λr hr=>by cases hr)⟩
 clear a c ae aa ak Y F CL ah;go_wp2_with fail
 go_ret;exact⟨q+1,_,[_,_],rfl,HF.o,by rw[<- a7.o];exact mS ..⟩
def ctyM (x:Ctx)(y:In):Int:=if y.op=35 then(Q6 x y.a).ty else (oty y.op).rs.headD 0
def constE (x:Ctx)(xs:List In)(k:Nat)(want:Int):Int :=
 if(xs.getD k I0).op=11 then(if k≠1\/ctyM x (xs.getD 0 I0)≠want then 6 else 0)else
 if 65<=(xs.getD k I0).op/\(xs.getD k I0).op<=68 then 0 else
 if(xs.getD k I0).op≠35 then 5 else
 if(x.gw:Int)<=(xs.getD k I0).a then 2 else if(Q6 x (xs.getD k I0).a).mu then 5 else 0
def cgood (x:Ctx)(y:In):Prop:=(65<=y.op/\y.op<=68)\/(y.op=35/\y.a<x.gw)
theorem rng4 (op:Int)(b:65<=op)(a:op<=68):(frm op=7\/frm op=8\/frm op=9\/frm op=10)/\∃t,(oty op).rs=[t]:=by
 rcases(by omega:op=65\/op=66\/op=67\/op=68)with rfl|rfl|rfl|rfl
 . exact⟨.inl (by decide +kernel),127,by decide +kernel⟩
 . exact⟨.inr (.inl (by decide +kernel)),126,by decide +kernel⟩
 . exact⟨.inr (.inr (.inl (by decide +kernel))),125,by decide +kernel⟩
 exact⟨.inr (.inr (.inr (by decide +kernel))),124,by decide +kernel⟩
theorem frm_4 (op:Int)(h:frm op=7\/frm op=8\/frm op=9\/frm op=10):65<=op/\op<=68:=by
 by_cases a:0<=op/\op<192
 . have e:=of_decide_eq_true (rng 0 192 (λi=>decide ((Qi (tbl.getD i Z0)=7\/Qi (tbl.getD i Z0)=8\/Qi (tbl.getD i Z0)=9\/Qi (tbl.getD i Z0)=10)->(65<=i/\i<=68))) (by decide +kernel) op (by omega) (by omega));(have er:Qa op=tbl.getD op.toNat Z0:=by simp only[Qa,a,and_self,if_true]);rw[<- er]at e;have:=e h;omega
 have er:Qa op=Z0:=by simp only[Qa,a,if_false]
 have:frm op=-1:=by show Qi (Qa op)=-1;rw[er];decide
 omega
theorem cst_eq {want:Int}{k:Nat}{g:List Int}{y:In}(u:y=xs.getD k I0)(s:k<N xs)(r:g=(xs.take k).map (ctyM x)):(Xf x x.gw want g y=.ok (g++[ctyM x y])/\constE x xs k want=0/\y.op≠11/\cgood x y)\/(Xf x x.gw want g y=.ok g/\constE x xs k want=0/\y.op=11)\/∃f,Xf x x.gw want g y=.error f/\constE x xs k want=f/\f≠0:=by
 unfold Xf constE;rw[<- u];have q:N g=k:=by rw[r];simp;omega
 by_cases b:y.op=11
 . (have p:¬(frm y.op=7\/frm y.op=8\/frm y.op=9\/frm y.op=10):=λh=>by have:=frm_4 _ h;omega);rw[if_neg p,if_neg (by omega),if_pos b,if_pos b];by_cases c:k≠1\/ctyM x (xs.getD 0 I0)≠want
   . right;right;rw[if_pos c];refine⟨6,?_,rfl,by decide⟩;rw[if_neg];intro e;(have j:k=1:=by rw[<- q,e];rfl);rcases c with c|c
     . exact c j
     subst j;apply c
     have:g=[ctyM x (xs.getD 0 I0)]:=by
      rw[r];cases xs with
      |nil=>simp at s
      |cons a l=>simp
     rw[this]at e;simpa using e
   right;left;rw[if_neg c];refine⟨?_,rfl,b⟩;rw[if_pos];(have j:k=1:=by by_cases e:k=1;exact e;exact absurd (.inl e) c);(have v:ctyM x (xs.getD 0 I0)=want:=by by_cases e:ctyM x (xs.getD 0 I0)=want;exact e;exact absurd (.inr e) c);subst j;rw[r,<- v];cases xs with
   |nil=>simp at s
   |cons a l=>simp
 rw[if_neg b,if_neg b];by_cases m:65<=y.op/\y.op<=68
 . obtain⟨A,t,z⟩:=rng4 y.op m.1 m.2;left;rw[if_pos A,if_pos m];refine⟨?_,rfl,b,.inl m⟩;rw[ctyM,if_neg (by omega),z];rfl
 have p:¬(frm y.op=7\/frm y.op=8\/frm y.op=9\/frm y.op=10):=λh=>m (frm_4 _ h);rw[if_neg p,if_neg m];by_cases d:y.op=35
 . rw[if_pos d,if_neg (λc=>c d),XI];by_cases o:(x.gw:Int)<=y.a
   . right;right;rw[if_pos o,if_pos o];exact⟨2,rfl,rfl,by decide⟩
   rw[if_neg o,if_neg o];by_cases n:(Q6 x y.a).mu=true
   . right;right;exact⟨5,by rw[if_pos n],by rw[if_pos n],by decide⟩
   left;exact⟨by rw[if_neg n,ctyM,if_pos d],by rw[if_neg n],b,.inr ⟨d,by omega⟩⟩
 right;right;rw[if_neg d,if_pos d];exact⟨5,rfl,rfl,by decide⟩
theorem goM_all:∀(n:List Bool) (xs:List In),goM n xs=true->∀y∈xs,gd y=true
 |n,[],_,y,h=>by cases h
 |n,x::xs,h,y,a=>by
  rw[goM]at h
  split at h
  · rename_i c
    split at h
    · cases h
    . rename_i b _
      rcases List.mem_cons.1 a with rfl|a
      . exact c
      . exact goM_all b xs h y a
  . cases h
theorem gd_inb {y:In}(h:gd y=true)(a:N y.l<=1048576):InB y:=by
 unfold gd Qr at h;split at h
 . simp only[Ky,decide_eq_true_eq,Md]at h;exact⟨by omega,by omega,a,by rw[h.2];simp⟩
 split at h
 . simp only[Ky,Bool.or_eq_true,decide_eq_true_eq,Md,tyB]at h;exact⟨by omega,by omega,a,by rw[h.2];simp⟩
 split at h
 . simp only[Ky,decide_eq_true_eq,Md,Qz]at h;exact⟨by omega,by omega,a,by rw[h.2];simp⟩
 split at h
 . simp only[Ky,decide_eq_true_eq,Qz,Hf]at h;exact⟨by omega,by omega,a,λi hi=>(h.1.1.1 i hi).1⟩
 split at h
 . simp only[Ky,decide_eq_true_eq,Md,Qz]at h;exact⟨by omega,by omega,a,by rw[h.2];simp⟩
 split at h
 . simp only[Ky,decide_eq_true_eq,Md]at h;exact⟨by omega,by omega,a,by rw[h.2];simp⟩
 split at h
 . simp only[Ky,decide_eq_true_eq,Md]at h;exact⟨by omega,by omega,a,by rw[h.2];simp⟩
 cases h
theorem XB (h:QF xs=true)(b:∀i,i<N xs->In.LB 1048576 (xs.getD i I0)):∀y∈xs,InB y:=λy hy=>by
 refine gd_inb (goM_all _ _ h y hy) ?_
 obtain⟨i,a,e⟩:=Mq hy
 have:=b i a
 simp only[Kx,Kj a,Option.getD_some,e]at this
 exact this
theorem locs_nn:∀(gs:List Grp) (n:Int),XE gs n=true->∀g∈gs,0<=g.n
 |[],_,_,g,h=>by cases h
 |x::gs,n,h,g,a=>by
  simp only[XE,Ky,grpB,Qz,decide_eq_true_eq]at h
  rcases List.mem_cons.1 a with rfl|a
  . omega
  . exact locs_nn gs _ h.2 g a
theorem locs_sum:∀(gs:List Grp) (n:Int),XE gs n=true->0<=n->n<=4294967295->∀k,0<=QJ (gs.take k)/\n+QJ (gs.take k)<=4294967295
 |[],n,_,h0,h1,k=>by simp[QJ];omega
 |x::gs,n,h,h0,h1,0=>by simp[QJ];omega
 |x::gs,n,h,h0,h1,k+1=>by
  simp only[XE,Ky,grpB,Qz,decide_eq_true_eq]at h
  have:=locs_sum gs (n+x.n) h.2 (by omega) (by omega) k
  rw[Ez,Gb]
  omega
theorem XS {x:Mod}(h:wfB x=true):(∀y∈x.types,ftB y=true)/\(∀y∈x.cj,QP y=true)/\(∀y∈x.jk,Qz y=true)/\(∀y∈x.cw,Jn y=true)/\(∀y∈x.jz,Jn y=true)/\(∀y∈x.ck,QY y=true)/\(∀y∈x.cv,Jr y=true)/\stB x.gz x.start=true/\(∀y∈x.fq,JD y=true)/\(∀y∈x.fj,Jl y=true)/\(∀y∈x.fx,JL y=true)/\N x.fj=N x.jk:=by
 simp only[wfB,Ky,Hf,decide_eq_true_eq]at h;obtain⟨o,n,m,l,k,j,g,f,d,c,b,a,_⟩:=h;exact⟨o,n,m,l,k,j,g,f,d,c,b,a⟩
theorem Qv {xs:List α}{z:α}(h:i<N xs):xs.getD i z∈xs:=by simp[Kx,h]
structure St where
 x:Ctx
 fo:Int
 go:Int
 bd:Int
 ns:List (List UInt8)
def Je (md:Mod)(t:Int):Qc:=md.types.getD t.toNat Qc.z
def Q4 (md:Mod)(k:Nat):List Qc:=((md.cj.take k).filter (λy=>decide (y.kind=0))).map λy=>Je md y.ty
def Jf (md:Mod)(k:Nat):List Qx:=((md.cj.take k).filter (λy=>decide (y.kind=3))).map (·.gl)
def Q0 (md:Mod)(kd:Int)(k:Nat):Nat:=((md.cj.take k).filter (λy=>decide (y.kind=kd))).length
def cxA (md:Mod)(k1 k2 k3 k4 k5 k6:Nat):Ctx:=⟨md.types.take k1,Q4 md k2++(md.jk.take k3).map (Je md),Jf md k2++(md.ck.take k6).map (·.ty),(Jf md (N md.cj)).length,Q0 md 1 k2+k4,Q0 md 2 k2+k5⟩
def QG (md:Mod)(n:Nat):Nat:=if n=1 then(N md.types)else if n=2 then(N md.cj)else if n=3 then(N md.jk)else if n=4 then(N md.cw)else if n=5 then(N md.jz)else if n=6 then(N md.ck)else if n=7 then(N md.cv)else if n=8 then(if md.gz then 1 else 0)else if n=9 then(N md.fq)else if n=10 then(N md.fj)else if n=11 then(N md.fx)else 0
def kk (md:Mod)(n i j:Nat):Nat:=if j<n then QG md j else if j=n then i else 0
def enm (y:Exp):List UInt8:=y.nm.data.toList
def Qy (md:Mod)(n i:Nat):St:=⟨cxA md (kk md n i 1) (kk md n i 2) (kk md n i 3) (kk md n i 4) (kk md n i 5) (kk md n i 6),(Q4 md (kk md n i 2)).length,(Jf md (kk md n i 2)).length,kk md n i 10,((md.cv.take (kk md n i 7)).map enm).reverse⟩
theorem kk_next (md:Mod)(n j:Nat):kk md n (QG md n) j=kk md (n+1) 0 j:=by
 unfold kk;by_cases h:j<n
 . rw[if_pos h,if_pos (by omega)]
 by_cases e:j=n
 . subst e;simp
 rw[if_neg h,if_neg e,if_neg (by omega)];split<;>rfl
theorem stAt_next (md:Mod)(n:Nat):Qy md n (QG md n)=Qy md (n+1) 0:=by simp only[Qy,kk_next]
def J9 (md:Mod)(n i:Nat)(s:St):Except Er (Ctx × Int × Int × Int) :=
 if n=1 then .ok ({ s.x with types:=s.x.types++[md.types.getD i Qc.z] },s.fo,s.go,s.bd)else
 if n=2 then lift (impM s.x s.fo s.go s.bd (md.cj.getD i Imp.z))else
 if n=3 then lift ((Xe s.x (md.jk.getD i 0)).map λx'=>(x',s.fo,s.go,s.bd))else
 if n=4 then lift ((X6 s.x.jv (md.cw.getD i Qd.z) 4294967295).map λk=>({ s.x with jv:=k },s.fo,s.go,s.bd))else
 if n=5 then lift ((X6 s.x.jz (md.jz.getD i Qd.z) 65536).map λk=>({ s.x with jz:=k },s.fo,s.go,s.bd))else
 if n=6 then globM s.x s.fo s.go s.bd (md.ck.getD i Qm.z)else
 if n=8 then lift (X5 s.x s.fo s.go s.bd md.start)else
 if n=9 then elemM s.x s.fo s.go s.bd (md.fq.getD i Ele.z).off (md.fq.getD i Ele.z).fs else
 if n=10 then codeM s.x s.fo s.go s.bd (Je md (md.jk.getD i 0)) (md.fj.getD i Cod.z).gq (md.fj.getD i Cod.z).body else
 dataM s.x s.fo s.go s.bd (md.fx.getD i Dat.z).off
def Js (md:Mod)(n i:Nat)(s:St):Except Er St :=
 if n=7 then(match expM s.x s.ns (enm (md.cv.getD i Exp.z)) (md.cv.getD i Exp.z).kind.toNat (md.cv.getD i Exp.z).ix with|some f=>.error (f,none)|none=>.ok { s with ns:=enm (md.cv.getD i Exp.z)::s.ns })
 else (J9 md n i s).map λr=>⟨r.1,r.2.1,r.2.2.1,r.2.2.2,s.ns⟩
theorem JG (xs:List α)(i:Nat)(z:α)(h:i<N xs):xs.take (i+1)=xs.take i++[xs.getD i z]:=by
 rw[Mv];simp[Kx,h]
theorem lift_ok {r:R (Ctx × Int × Int × Int)}{v:Ctx × Int × Int × Int}(h:lift r=.ok v):r=.ok v:=by
 unfold lift at h;split at h
 . cases h
 cases h;rfl
theorem Jz {β ε:Type}{r:Except ε α}{f:α->β}{v:β}(h:r.map f=.ok v):∃a,r=.ok a/\v=f a:=by
 cases r with
 |error e=>cases h
 |ok a=>cases h;exact⟨a,rfl,rfl⟩
theorem one_ok {l:Qd}{a:Int}{k:Nat}(h:X6 n l a=.ok k):n=0/\k=1:=by
 unfold X6 at h;split at h
 . cases h
 split at h
 . cases h
 cases h;omega
theorem func_ok {a:Ctx}{i:Int}(h:Xe x i=.ok a):a={ x with jk:=x.jk++[x.types.getD i.toNat Qc.z] }:=by
 unfold Xe at h;split at h
 . cases h;rfl
 cases h
theorem impFs_succ (md:Mod)(i:Nat)(h:i<N md.cj):Q4 md (i+1)=Q4 md i++(if(md.cj.getD i Imp.z).kind=0 then [Je md (md.cj.getD i Imp.z).ty]else []):=by
 rw[Q4,JG md.cj i Imp.z h,Rj,Tf];congr 1
 generalize md.cj.getD i Imp.z=y;by_cases e:y.kind=0<;>simp[e]
theorem impGs_succ (md:Mod)(i:Nat)(h:i<N md.cj):Jf md (i+1)=Jf md i++(if(md.cj.getD i Imp.z).kind=3 then [(md.cj.getD i Imp.z).gl]else []):=by
 rw[Jf,JG md.cj i Imp.z h,Rj,Tf];congr 1
 generalize md.cj.getD i Imp.z=y;by_cases e:y.kind=3<;>simp[e]
theorem Gh (md:Mod)(a:Int)(i:Nat)(h:i<N md.cj):Q0 md a (i+1)=Q0 md a i+(if(md.cj.getD i Imp.z).kind=a then 1 else 0):=by
 rw[Q0,JG md.cj i Imp.z h,Rj,Lb];congr 1
 generalize md.cj.getD i Imp.z=y;by_cases e:y.kind=a<;>simp[e]
theorem Gg {y:Imp}(h:QP y=true):0<=y.kind/\y.kind<=3/\0<=y.ty:=by
 simp only[QP,Ky]at h;have:=h.2;unfold XW at this;split at this
 . simp only[Ky,Qz,decide_eq_true_eq]at this;omega
 split at this
 . simp only[Ky,beq_iff_eq]at this;omega
 split at this
 . simp only[Ky,beq_iff_eq]at this;omega
 cases this
theorem ent_ok (C:wfB md=true)(H:1<=n)(E:n<=11)(d:i<QG md n){s:St}(h:Js md n i (Qy md n i)=.ok s):s=Qy md n (i+1)/\((Qy md n i).x.jv<=1->s.x.jv<=1)/\((Qy md n i).x.jz<=1->s.x.jz<=1):=by
 rcases(by omega:n=1\/n=2\/n=3\/n=4\/n=5\/n=6\/n=7\/n=8\/n=9\/n=10\/n=11)with rfl|rfl|rfl|rfl|rfl|rfl|rfl|rfl|rfl|rfl|rfl
 . simp only[QG,if_true]at d;rw[Js,if_neg (by omega),J9,if_pos rfl]at h;cases h;refine⟨?_,λh=>h,λh=>h⟩;simp[Qy,kk,cxA,JG md.types i Qc.z d]
 . simp only[QG,if_true,show((2:Nat)=1)=False by simp,if_false]at d;rw[Js,if_neg (by omega),J9,if_neg (by omega),if_pos rfl]at h;obtain⟨r,b,rfl⟩:=Jz h;have a:=lift_ok b;have D:=Gg ((XS C).2.1 _ (Qv (z:=Imp.z) d));have o:=impFs_succ md i d;have m:=impGs_succ md i d;have q:=Gh md 1 i d;have p:=Gh md 2 i d;(have j:md.types.take (QG md 1)=md.types:=by simp[QG]);obtain⟨y,B⟩:∃y,y=md.cj.getD i Imp.z:=⟨_,rfl⟩;rw[<- B]at a D o m q p;(have v:Qy md 2 i=⟨cxA md (QG md 1) i 0 0 0 0,(Q4 md i).length,(Jf md i).length,0,[]⟩:=by simp[Qy,kk]);(have t:Qy md 2 (i+1)=⟨cxA md (QG md 1) (i+1) 0 0 0 0,(Q4 md (i+1)).length,(Jf md (i+1)).length,0,[]⟩:=by simp[Qy,kk]);rw[v]at a⊢;rw[t];unfold impM at a;split at a
   . rename_i k;obtain⟨l,c,rfl⟩:=Jz a;have:=func_ok c;subst this;refine⟨?_,λh=>h,λh=>h⟩;simp[cxA,o,m,q,p,k,j,Je]
   split at a
   . rename_i u k;obtain⟨l,c,rfl⟩:=Jz a;obtain⟨f,rfl⟩:=one_ok c;simp only[cxA]at f;refine⟨?_,λh=>lRz,λh=>h⟩;simp[cxA,o,m,q,p,k,j];omega
   split at a
   . rename_i u A k;obtain⟨l,c,rfl⟩:=Jz a;obtain⟨f,rfl⟩:=one_ok c;simp only[cxA]at f;refine⟨?_,λh=>h,λh=>lRz⟩;simp[cxA,o,m,q,p,k,j];omega
   rename_i u A F;cases a;(have k:y.kind=3:=by omega);refine⟨?_,λh=>h,λh=>h⟩;simp[cxA,o,m,q,p,k,j]
 . simp only[QG,if_true,show((3:Nat)=1)=False by simp,show((3:Nat)=2)=False by simp,if_false]at d;rw[Js,if_neg (by omega),J9,if_neg (by omega),if_neg (by omega),if_pos rfl]at h;obtain⟨r,b,rfl⟩:=Jz h;obtain⟨l,c,rfl⟩:=Jz (lift_ok b);have:=func_ok c;subst this;(have j:md.types.take (QG md 1)=md.types:=by simp[QG]);refine⟨?_,λh=>h,λh=>h⟩;simp[Qy,kk,cxA,JG md.jk i 0 d,Je,j]
 . simp only[QG,if_true,show((4:Nat)=1)=False by simp,show((4:Nat)=2)=False by simp,show((4:Nat)=3)=False by simp,if_false]at d;rw[Js,if_neg (by omega),J9,if_neg (by omega),if_neg (by omega),if_neg (by omega),if_pos rfl]at h;obtain⟨r,b,rfl⟩:=Jz h;obtain⟨l,c,rfl⟩:=Jz (lift_ok b);obtain⟨f,rfl⟩:=one_ok c;simp[Qy,kk,cxA]at f;refine⟨?_,λh=>lRz,λh=>h⟩;simp[Qy,kk,cxA];omega
 . rw[Js,if_neg (by omega),J9,if_neg (by omega),if_neg (by omega),if_neg (by omega),if_neg (by omega),if_pos rfl]at h;obtain⟨r,b,rfl⟩:=Jz h;obtain⟨l,c,rfl⟩:=Jz (lift_ok b);obtain⟨f,rfl⟩:=one_ok c;simp[Qy,kk,cxA]at f;refine⟨?_,λh=>h,λh=>lRz⟩;simp[Qy,kk,cxA];omega
 . (have g:i<N md.ck:=by simpa[QG]using d);rw[Js,if_neg (by omega),J9,if_neg (by omega),if_neg (by omega),if_neg (by omega),if_neg (by omega),if_neg (by omega),if_pos rfl]at h;obtain⟨r,b,rfl⟩:=Jz h;unfold globM at b;split at b
   . cases b
   cases b;refine⟨?_,λh=>h,λh=>h⟩;simp[Qy,kk,cxA,JG md.ck i Qm.z g]
 . (have g:i<N md.cv:=by simpa[QG]using d);rw[Js,if_pos rfl]at h;split at h
   . cases h
   cases h;refine⟨?_,λh=>h,λh=>h⟩;simp[Qy,kk,JG md.cv i Exp.z g]
 . rw[Js,if_neg (by omega),J9,if_neg (by omega),if_neg (by omega),if_neg (by omega),if_neg (by omega),if_neg (by omega),if_neg (by omega),if_pos rfl]at h;obtain⟨r,b,rfl⟩:=Jz h;have a:=lift_ok b;unfold X5 at a;split at a
   . split at a
     . cases a;exact⟨by simp[Qy,kk],λh=>h,λh=>h⟩
     cases a
   cases a
 . rw[Js,if_neg (by omega),J9,if_neg (by omega),if_neg (by omega),if_neg (by omega),if_neg (by omega),if_neg (by omega),if_neg (by omega),if_neg (by omega),if_pos rfl]at h;obtain⟨r,b,rfl⟩:=Jz h;unfold elemM at b;split at b
   . cases b
   split at b
   . cases b
   split at b
   . cases b;exact⟨by simp[Qy,kk],λh=>h,λh=>h⟩
   cases b
 . rw[Js,if_neg (by omega),J9,if_neg (by omega),if_neg (by omega),if_neg (by omega),if_neg (by omega),if_neg (by omega),if_neg (by omega),if_neg (by omega),if_neg (by omega),if_pos rfl]at h;obtain⟨r,b,rfl⟩:=Jz h;unfold codeM at b;split at b
   . cases b
   cases b;exact⟨by simp[Qy,kk],λh=>h,λh=>h⟩
 rw[Js,if_neg (by omega),J9,if_neg (by omega),if_neg (by omega),if_neg (by omega),if_neg (by omega),if_neg (by omega),if_neg (by omega),if_neg (by omega),if_neg (by omega),if_neg (by omega)]at h;obtain⟨r,b,rfl⟩:=Jz h;unfold dataM at b;split at b
 . cases b
 split at b
 . cases b
 cases b;exact⟨by simp[Qy,kk],λh=>h,λh=>h⟩
abbrev cx6 (x:Ctx)(ta:Option Ad)(tc:Nat)(fa:Option Ad)(fc:Nat)(ga:Option Ad)(gc:Nat):List Vu:=[S ta (N x.types) tc,S fa (N x.jk) fc,S ga (N x.jx) gc,U O x.gw,U O x.jv,U O x.jz]
theorem CtR.gl {tv fv:Vu}{c:Option Ad}{f:Nat}{fcs:List Vu}(h:CtR D w0 x ⟨tv,fv,S c (N x.jx) f,fcs⟩ ks)(d:Mo D w0 ks V)(hn:n<N x.jx):∃g,c=some ⟨g,0,none⟩/\V.cell? ⟨g,n*2,none⟩=some (U O (Q6 x n).ty)/\V.cell? ⟨g,n*2+1,none⟩=some (G (Q6 x n).mu):=by
 obtain⟨k,j,e,a⟩:=Qu d h.gr;cases e;obtain⟨g,e,a⟩:=a (by omega);have b:=Gr (gs:=x.jx) (i:=n) (g:=Q6 x n) (by simp[Q6,Kx,hn]);exact⟨g,e,a _ _ b.1 (by omega),a _ _ b.2 (by omega)⟩
theorem sctype_c {D w0 ks V}(y:In)(s:Option Ad)(p:Nat)(F:Mo D w0 ks V)(k:CtR D w0 x t ks)(hg:cgood x y)(R:0<=y.a)(hi:x.gw<=N x.jx):Ec Q 240 #[cxV x t,inV y s p] V λe w'=>e=Z (U O (ctyM x y))/\Bw V.heap.size V w':=by
 obtain⟨E,C,M,L,I,H,et,ef,eg⟩:=k.shape F;obtain⟨tv,fv,gv,ar⟩:=t;dsimp only at et ef eg;subst et ef eg;obtain⟨op,a,b,v,j⟩:=y;dsimp only at hg R;obtain⟨q,u⟩:∃q,q=V.heap.size:=⟨_,rfl⟩;obtain⟨W,m⟩:∃W,W=(V.alloc (Fc #[S E (N x.types) C,S M (N x.jk) L,S I (N x.jx) H,U O x.gw,U O x.jv,U O x.jz] 80)).alloc (Fc #[U O op,U O a,U O b,U Ou v,S s (N j) p] 85):=⟨_,rfl⟩;have c:Mo D w0 (box 85 5 (q+1) (inC op a b v j s p)::box 80 6 q (cx6 x E C M L I H)::ks) W:=by have:=(F.box (cur:=#[S E (N x.types) C,S M (N x.jk) L,S I (N x.jx) H,U O x.gw,U O x.jv,U O x.jz]) 80 6 rfl).box (cur:=#[U O op,U O a,U O b,U Ou v,S s (N j) p]) 85 5 rfl;rw[m,u];simpa using this
 have d0:=(c.b0 0).1;have d1:=(c.b0 1).1;have c2:=(c.tail.b0 2).1;have HB:Hid (Bw V.heap.size V W):=by show Bw V.heap.size V W;rw[m];exact(bFz.alloc lRz _).alloc (by simp) _
 rcases hg with B|⟨f,A⟩
 . replace B:65<=op/\op<=68:=B;obtain⟨_,T,X⟩:=rng4 op B.1 B.2;(have e:ctyM x ⟨op,a,b,v,j⟩=T:=by rw[ctyM,if_neg (by show op≠35;omega)];show(oty op).rs.headD 0=T;rw[X];rfl);rw[e];(have k0:(op==35)=false:=by simp;omega);have HO:=Hm (stype_c op W);have HT:=Hm X;clear F c k B e X c2;go_enter func240,ntmps240;(go_upto_region 1 with fail);rw[<- m,<- u];clear m u;(go_wp2_with fail);refine HO.o.mono ?_;rintro e w2 ⟨pv,rv,rfl,d,z⟩;obtain⟨pa,pc,ra,rc,rfl,rfl⟩:=d.shape;have l:=d.hr;have en:nz [(Qa op).g]=[T]:=HT.o;(have el:(nz [(Qa op).g]).length=1:=by rw[en];rfl);rw[el]at l⊢;rw[en]at l;obtain⟨a',c',e,hh⟩:=XQ (xs:=[T]) l;cases e;rcases hh with k|⟨b_,o,rfl,hc⟩
   . cases k
   have g0:=hc 0 (by simp);simp only[Iw,List.getD_cons_zero]at g0;have Y:=Hm z;have fF:=fieldF (S pa (nz [(Qa op).a,(Qa op).b]).length pc) (S (some ⟨b_,o,none⟩) 1 rc) ⟨_,_,_,rfl⟩ ⟨_,_,_,rfl⟩;clear d l hc z en el HO HT;(go_wp2_with fail);go_ret;exact⟨rfl,HB.o.trans (Y.o.mono HB.o.size)⟩
 replace f:op=35:=f;replace A:a<x.gw:=A;subst f;obtain⟨n,rfl⟩:∃n:Nat,a=n:=⟨a.toNat,by omega⟩;obtain⟨g,rfl,gt,_⟩:=(k.sub (ks':=box 85 5 (q+1) (inC 35 n b v j s p)::box 80 6 q (cx6 x E C M L I H)::ks) (λr l=>by simp[l])).gl c (n:=n) (by omega);have e:ctyM x ⟨35,n,b,v,j⟩=(Q6 x n).ty:=by rw[ctyM,if_pos rfl]
 rw[e];have i5:(n:Int)<(N x.jx:Int):=by omega
 clear F c k e;go_enter func240,ntmps240;go_upto_region 1 with fail
 rw[<- m,<- u];clear m u;go_wp2_with fail
 go_ret;exact⟨rfl,HB.o⟩
theorem sconst_c {D w0 ks V}(a:Option Ad)(c:Nat)(xs:List In)(k:Nat)(want:Int)(hm:Mo D w0 ks V)(hx:CtR D w0 x t ks)(hL:InL D w0 a xs)(hk:k<N xs)(cl:N xs<=1048576)(hI:∀y∈xs,InB y)(hg:k=1->cgood x (xs.getD 0 I0))(hi:x.gw<=N x.jx):Ec Q 192 #[cxV x t,S a (N xs) c,U O (k:Int),U O want] V λe w'=>e=Z (U O (constE x xs k want))/\Bw V.heap.size V w':=by
 obtain⟨ta,tc,fa,fc,ga,gc,et,ef,eg⟩:=hx.shape hm;obtain⟨tv,fv,gv,b3⟩:=t;dsimp only at et ef eg;subst et ef eg;rcases hL with bt|⟨b_,off,rfl,hb,hc⟩
 . subst bt;simp at hk
 obtain⟨la,lc,c0,c1,c2,c3,c4,tL⟩:=hc k hk;obtain⟨az,ay,z0,z1,z2,z3,z4,bq⟩:=hc 0 (by omega);have a3:=hI _ (Qv (z:=I0) hk);have M:=hI (xs.getD 0 I0) (Qv (z:=I0) (by omega));obtain⟨E,j⟩:∃E,E=constE x xs k want:=⟨_,rfl⟩;rw[<- j];unfold constE at j;obtain⟨y,hy⟩:∃y,y=xs.getD k I0:=⟨_,rfl⟩;obtain⟨y0,ab⟩:∃y,y=xs.getD 0 I0:=⟨_,rfl⟩;rw[<- hy,<- ab]at j;rw[<- hy]at c0 c1 c2 c3 c4 a3;rw[<- ab]at z0 z1 z2 z3 z4 M hg;obtain⟨q,C⟩:∃q,q=V.heap.size:=⟨_,rfl⟩;obtain⟨W,B⟩:∃W,W=V.alloc (Fc #[S ta (N x.types) tc,S fa (N x.jk) fc,S ga (N x.jx) gc,U O x.gw,U O x.jv,U O x.jz] 80):=⟨_,rfl⟩;have ae:Mo D w0 (box 80 6 q (cx6 x ta tc fa fc ga gc)::ks) W:=by have:=hm.box (cur:=#[S ta (N x.types) tc,S fa (N x.jk) fc,S ga (N x.jx) gc,U O x.gw,U O x.jv,U O x.jz]) 80 6 rfl;rw[B,C];simpa using this
 have kp:=λ(o:Nat) (u:Vu) (hu:w0.cell? ⟨b_,o,none⟩=some u)=>(ae.b.cell (p:=⟨b_,o,none⟩) hb).trans hu;have d0:=kp _ _ c0;have R:=kp _ _ c1;have d2:=kp _ _ c2;have d3:=kp _ _ c3;have d4:=kp _ _ c4;obtain⟨L,d⟩:∃L,L=W.alloc (Fc #[U O y.op,U O y.a,U O y.b,U Ou y.v,S la (N y.l) lc] 85):=⟨_,rfl⟩;obtain⟨q2,f⟩:∃q2,q2=W.heap.size:=⟨_,rfl⟩;have m:Mo D w0 (box 85 5 q2 (inC y.op y.a y.b y.v y.l la lc)::box 80 6 q (cx6 x ta tc fa fc ga gc)::ks) L:=by have:=ae.box (cur:=#[U O y.op,U O y.a,U O y.b,U Ou y.v,S la (N y.l) lc]) 85 5 rfl;rw[d,f];exact this
 have r0:=(m.b0 0).1;have r1:=(m.b0 1).1;have x0:=(m.tail.b0 0).1;have x1:=(m.tail.b0 1).1;have x2:=(m.tail.b0 2).1;have x3:=(m.tail.b0 3).1;have x4:=(m.tail.b0 4).1;have x5:=(m.tail.b0 5).1;have H:=λ(o:Nat) (u:Vu) (hu:w0.cell? ⟨b_,o,none⟩=some u)=>(m.b.cell (p:=⟨b_,o,none⟩) hb).trans hu;have bp:=H _ _ z0;have bo:=H _ _ z1;have bn:=H _ _ z2;have bm:=H _ _ z3;have bl:=H _ _ z4;have HB:Hid (Bw V.heap.size V L):=by show Bw V.heap.size V L;rw[d,B];exact(bFz.alloc lRz _).alloc (by simp) _
 have cn:(k:Int)<(N xs:Int):=by omega
 have co:(0:Int)<(N xs:Int):=by omega
 have ac:=hx.sub (ks':=box 85 5 q2 (inC y.op y.a y.b y.v y.l la lc)::box 80 6 q (cx6 x ta tc fa fc ga gc)::ks) (λr hr=>by simp[hr]);have A:Hid (k=1->∀n,Ec Q 240 #[cxV x ⟨S ta (N x.types) tc,S fa (N x.jk) fc,S ga (N x.jx) gc,b3⟩,inV y0 az ay] (L.drewN n) λe w'=>e=Z (U O (ctyM x y0))/\Bw L.heap.size L w'):=λh1 n=>(sctype_c y0 az ay (m.drewN n) ac (hg h1) M.a0 hi).mono λe w' ⟨h1,h2⟩=>⟨h1,⟨h2.os,h2.tape,h2.output,h2.size,h2.block⟩⟩;have X:Hid (∀n:Nat,y.a=n->n<N x.jx->∃g,ga=some ⟨g,0,none⟩/\L.cell? ⟨g,n*2+1,none⟩=some (G (Q6 x n).mu)):=λn hn hl=>by obtain⟨g,e,_,h⟩:=ac.gl m hl;exact⟨g,e,h⟩
 clear hm ae m hx ac hc hI hy ab c0 c1 c2 c3 c4 z0 z1 z2 z3 z4 tL bq kp H hg;simp only[Nat.zero_mul,Iw]at bp bo bn bm bl;by_cases s:y.op=11
 . (have br:(y.op==11)=true:=by simp[s]);rw[if_pos s]at j;by_cases af:k=1
   . subst af;(have n1:(((1:Nat):Int) != 1)=false:=by simp);(have cc:0<N xs:=by omega);have Y:=Hm (A.o rfl 1);obtain⟨ct,a1⟩:∃ct,ct=ctyM x y0:=⟨_,rfl⟩;rw[<- a1]at Y j;obtain⟨nw,ad⟩:∃nw:Bool,nw=(ct != want):=⟨_,rfl⟩;have I:Hid (E=if nw then 6 else 0):=by
      show E=_;rw[j,ad];by_cases c:ct=want
      . simp[c]
      simp[c]
     have cb:(ct != want)=nw:=ad.symm;clear j a1 ad X A s;cases nw
     all_goals
      go_enter func192,ntmps192
      go_upto_region 1 with fail
      rw[<- B,<- C];clear B C
      go_upto_region 2 with fail
      rw[<- d,<- f];clear d f d0 R d2 d3 d4
      go_upto_region 3 with fail
      go_region_law (first
       | (
        go_simp
        go_at_call 240
        refine Y.o.mono ?_
        rintro e w3 ⟨rfl,a2⟩;have ca:=Hm a2;clear a2))
      all_goals
       go_wp2
       go_ret
       rw[I.o]
       exact⟨rfl,HB.o.trans (ca.o.mono HB.o.size)⟩
   (have n1:((k:Int) != 1)=true:=by simp;omega);rw[if_pos (.inl af)]at j;have I:=Hm j;clear j X A s af;go_enter func192,ntmps192;(go_upto_region 1 with fail);rw[<- B,<- C];clear B C;(go_upto_region 2 with fail);rw[<- d,<- f];clear d f d0 R d2 d3 d4;(go_upto_region 3 with fail);(go_quiet (fail));go_wp2;go_ret;rw[I.o];exact⟨rfl,HB.o.trans ⟨rfl,rfl,rfl,lRz,λ_ _=>rfl⟩⟩
 have br:(y.op==11)=false:=by simp[s]
 rw[if_neg s]at j;by_cases a5:65<=y.op
 . by_cases a4:y.op<=68
   . rw[if_pos ⟨a5,a4⟩]at j;have I:=Hm j;clear j X A s;go_enter func192,ntmps192;(go_upto_region 1 with fail);rw[<- B,<- C];clear B C;(go_upto_region 2 with fail);rw[<- d,<- f];clear d f d0 R d2 d3 d4;go_wp2;go_ret;rw[I.o];exact⟨rfl,HB.o⟩
   rw[if_neg (λc=>a4 c.2),if_pos (by omega)]at j;(have ax:(y.op != 35)=true:=by simp;omega);have I:=Hm j;clear j X A s;go_enter func192,ntmps192;(go_upto_region 1 with fail);rw[<- B,<- C];clear B C;(go_upto_region 2 with fail);rw[<- d,<- f];clear d f d0 R d2 d3 d4;go_wp2;go_ret;rw[I.o];exact⟨rfl,HB.o⟩
 rw[if_neg (λc=>a5 c.1)]at j;by_cases F:y.op=35
 . (have ax:(y.op != 35)=false:=by simp[F]);rw[if_neg (λc=>c F)]at j;by_cases ci:(x.gw:Int)<=y.a
   . rw[if_pos ci]at j;have I:=Hm j;clear j X A s F;go_enter func192,ntmps192;(go_upto_region 1 with fail);rw[<- B,<- C];clear B C;(go_upto_region 2 with fail);rw[<- d,<- f];clear d f d0 R d2 d3 d4;go_wp2;go_ret;rw[I.o];exact⟨rfl,HB.o⟩
   rw[if_neg ci]at j;obtain⟨n,hn⟩:∃n:Nat,y.a=n:=⟨y.a.toNat,by have:=a3.a0;omega⟩;rw[hn]at r1 j ci R d;obtain⟨g,rfl,gm⟩:=X.o n hn (by omega);(have i5:(n:Int)<(N x.jx:Int):=by omega);have I:=Hm j;clear j X A s F hn;cases cm:(Q6 x (n:Int)).mu
   all_goals
    rw[cm]at gm
    go_enter func192,ntmps192
    go_upto_region 1 with fail
    rw[<- B,<- C];clear B C
    go_upto_region 2 with fail
    rw[<- d,<- f];clear d f d0 R d2 d3 d4
    go_wp2
    go_ret
    rw[I.o,cm]
    exact⟨rfl,HB.o⟩
 have ax:(y.op != 35)=true:=by simp[F]
 rw[if_pos F]at j;have I:=Hm j;clear j X A s F;go_enter func192,ntmps192;go_upto_region 1 with fail
 rw[<- B,<- C];clear B C;go_upto_region 2 with fail
 rw[<- d,<- f];clear d f d0 R d2 d3 d4;go_wp2;go_ret;rw[I.o];exact⟨rfl,HB.o⟩
def CD (D:Nat)(w0:J):Prop:=∀b o u,w0.cell? ⟨b,o,none⟩=some u->b<D
theorem CD.at (w:J):CD w.heap.size w:=λb o u h=>World.block_lt_of_cell? w _ h
theorem CD.sc {w:J}(h:CD D w)(e:Sc w w'):CD D w':=λb o u hu=>h b o u (by rw[<- show w'.cell?=w.cell? from e];exact hu)
theorem Sc.mod {w:J}(e:Sc w w')(h:Mod.At 0 w Bm 0 md):Mod.At 0 w' Bm 0 md:=by
 have a:w'.cell?=w.cell?:=e;simp only[Mod.At,Mod.Is,Qc.Ls,Imp.Ls,Qd.Ls,Qm.Ls,Exp.Ls,Ele.Ls,Cod.Ls,Dat.Ls,Cus.Ls,Qc.At,Imp.At,Qd.At,Qm.At,Exp.At,Ele.At,Cod.At,Dat.At,Cus.At,Qc.Is,Imp.Is,Qd.Is,Qm.Is,Exp.Is,Ele.Is,Cod.Is,Dat.Is,Cus.Is,In.Ls,In.At,In.Is,Grp.Ls,Grp.At,Grp.Is,HI]at h⊢;rw[a];exact h
theorem HI.ty {a xs}(g:CD D w0)(c:Nat)(h:HI O 0 w0 a xs):Ty D w0 [] (S a (N xs) c) xs:=by
 refine .inl ⟨a,c,rfl,?_⟩;rcases h with h|⟨b,o,e,_,f⟩
 . exact .inl h
 by_cases d:xs=[]
 . exact .inl d
 exact .inr ⟨b,o,e,g _ _ _ (f 0 (List.length_pos_iff.2 d)),f⟩
theorem In.Ls.inl {a:Option Ad}(j:CD D w0)(h:In.Ls 0 w0 a xs):InL D w0 a xs:=by
 rcases h with h|⟨b,o,e,_,g⟩
 . exact .inl h
 by_cases f:xs=[]
 . exact .inl f
 obtain⟨_,_,⟨c,_⟩,_⟩:=g 0 (List.length_pos_iff.2 f);refine .inr ⟨b,o,e,j _ _ _ c,λi hi=>?_⟩;obtain⟨k,d,⟨c,q,p,n,m⟩,l⟩:=g i hi;exact⟨k,d,c,q,p,n,m,HI.ty j d l⟩
theorem Grp.Ls.grl {a:Option Ad}{xs:List Grp}(f:CD D w0)(h:Grp.Ls 0 w0 a xs):GrL D w0 a xs:=by
 rcases h with h|⟨b,o,e,_,d⟩
 . exact .inl h
 by_cases c:xs=[]
 . exact .inl c
 exact .inr ⟨b,o,e,f _ _ _ (d 0 (List.length_pos_iff.2 c)).1.1,λi hi=>(d i hi).1⟩
theorem SeP.ret {r:Except Er (Ctx × Int × Int × Int)}{e:Ending}(h:SeP D w0 q ks nv r e w'):∃rv,e=Z rv:=by
 rcases h with ⟨_,_,h,_⟩|⟨_,_,_,_,_,h,_⟩
 . exact⟨_,h⟩
 exact⟨_,h⟩
theorem ExP.ret {ns:List (List UInt8)}{s:List UInt8}{r:Option Int}{e:Ending}(h:ExP D w0 q x fo go bd b ks ns s r e w'):∃rv,e=Z rv:=by
 rcases h with ⟨_,_,h,_⟩|⟨_,h,_⟩
 . exact⟨_,h⟩
 exact⟨_,h⟩
theorem iimp_c (y:Imp)(h:SSt D w0 q x fo go bd nv ks V)(g:0<=y.kind/\y.kind<=3)(j:0<=y.ty)(f:N x.jk<=4194304)(d:N x.jx<=4194304)(k:x.jv<=1)(l:x.jz<=1):Ec Q 210 #[Yp (some ⟨q,0,none⟩),Ag #[Xs y.mod,Xs y.nm,U O y.kind,U O y.ty,U O y.lim.min,U O y.lim.max,G y.lim.has,U O y.gl.ty,G y.gl.mu]] V (SsP D w0 q ks nv (impM x fo go bd y)):=by
 obtain⟨mod,c,a,ty,b,gl⟩:=y;dsimp only at g j;obtain⟨n,m⟩:=g;rcases(by omega:a=0\/a=1\/a=2\/a=3)with rfl|rfl|rfl|rfl
 . exact iimp_0 mod c ty b gl h j f
 . exact iimp_1 mod c ty b gl h k
 . exact iimp_2 mod c ty b gl h l
 exact iimp_3 mod c ty b gl h d
theorem ient_1 (hA:Mod.At 0 w0 Bm 0 md)(C:CD D w0)(i:Nat)(hi:i<N md.types)(hl:N md.types<=1048576)(y:Qc)(hy:md.types.getD i Qc.z=y)(h:SSt D w0 q x fo go bd nv ks V)(bt:N x.types<=1048576):Ec Q 172 #[Yp (some ⟨q,0,none⟩),Yp (some ⟨Bm,0,none⟩),U O 1,U O (i:Int)] V (SeP D w0 q ks nv (.ok ({ x with types:=x.types++[y] },fo,go,bd))):=by
 obtain⟨a1,c1,a2,c2,a3,c3,a4,c4,a5,c5,a6,c6,a7,c7,a8,c8,a9,c9,b4,b2,b3,b1,⟨m0,m1,m2,m3,m4,m5,m6,m7,m8,m9,L,I,H⟩,r1,r2,r3,r4,r5,r6,r7,r8,r9,az,ay⟩:=hA;have B:=λ(b o:Nat) (u:Vu) (hu:w0.cell? ⟨b,o,none⟩=some u)=>(h.mo.b.cell (p:=⟨b,o,none⟩) (C b o u hu)).trans hu;have f0:=B _ _ _ m0;clear m0 m1 m2 m3 m4 m5 m6 m7 m8 m9 L I H;rcases r1 with hx|⟨b_,off,rfl,_,hc⟩
 . rw[hx]at hi;simp at hi
 have l:=hc i hi;rw[hy]at l;obtain⟨F,A,E,v,⟨k0,k1⟩,hG,hF⟩:=l;have d0:=B _ _ _ k0;have d1:=B _ _ _ k1;have tp:=HI.ty C A hG;have tr:=HI.ty C v hF;obtain⟨i0,aa,X,R,M⟩:=info_parts info76;obtain⟨m,e,g,j⟩:=h;subst e;obtain⟨q0,q1,q2,q3,q4⟩:=(SSt.spr (q:=q) (fo:=fo) (go:=go) (bd:=bd) (ks:=ks) j).cells g;have a:V.ownsRow D 76 2 m.tv (N x.types) m.tcs:=g.row (r:=⟨76,2,N x.types,m.tv,m.tcs⟩) (by simp);obtain⟨t,s,d⟩:=Qg a;rw[d]at q0 a;have OW:=Hm a;have Y:=g.le;have HB:Hid (∀o,Bw V.heap.size V ((V.alloc o).drew)):=λo=>⟨rfl,rfl,rfl,by show V.heap.size<=(V.alloc o).heap.size;simp,λk hk=>QN V o k hk⟩;have HP:Hid (∀V1 W' v',Bw V.heap.size V V1->W'.ownsRow D 76 2 v' (N x.types+1) (m.tcs++[S F (N y.ps) A,S E (N y.rs) v])->V1.grownBy W' (Tv t (N x.types) s).ownBlock->(v'.ownBlock=(Tv t (N x.types) s).ownBlock\/v'.ownBlock=some V1.heap.size)->(W'.cell? ⟨q,0,none⟩=some (S t (N x.types) s)/\W'.frozen? ⟨q,0,none⟩=false)/\SSt D w0 q { x with types:=x.types++[y] } fo go bd m.nv ks (W'.setCell ⟨q,0,none⟩ v')):=λV1 W' v' hb ho hg hl=>by have:=SSt.pushT (y:=y) g hb ho (by rw[d];exact hg) (by rw[d];exact hl) ⟨FTs.snoc j.tt tp tr,j.ft,j.gt⟩;rw[d]at this;exact this
 have kd:∀o,(V.alloc o).cell? ⟨q,0,none⟩=some (S t (N x.types) s):=λo=>Qf q0;have bu:(i:Int)<(N md.types:Int):=by omega
 clear g j d a q1 q2 q3 q4 hc C B k0 k1 hG hF tp tr hy;go_enter func172,ntmps172;go_upto_region 3 with fail
 go_region_law (first
  | (
   refine Qs rfl (.tmp 16) (.tmp 24) 38 rfl D 76 i0 (Ag #[S none 0 0,S none 0 0]) 2 48 underlying38 aa X R M rfl (by decide) (S t (N x.types) s) (N x.types) m.tcs (by first|rfl|simp[Tc,Hw]) (World.ownsRow.alloc OW.o _) ⟨V.heap.size,0,none⟩ 1 1 [S F (N y.ps) A,S E (N y.rs) v] (by first|rfl|simp[Tc,Hw]) (by first|rfl|simp) (Jo V [S F (N y.ps) A,S E (N y.rs) v] 76) (one2 rfl rfl) (by unfold maxLen;omega) (by omega) (Kq Y (HB.o _).size) ?_
   intro v2 w5 c n f
   have HQ:=Hm (HP.o _ w5 v2 (HB.o _) c n f);have bz:=HQ.o.1.1;have bw:=HQ.o.1.2;obtain⟨aw,av,rfl⟩:=Qg c;clear c n f))
 all_goals
  go_wp2_with fail
  go_ret
  exact .inr ⟨_,_,_,_,rfl,rfl,HQ.o.2⟩
theorem ient_2 (hA:Mod.At 0 w0 Bm 0 md)(Y:CD D w0)(i:Nat)(k:i<N md.cj)(hl:N md.cj<=1048576)(y:Imp)(R:md.cj.getD i Imp.z=y)(h:SSt D w0 q x fo go bd nv ks V)(hk:0<=y.kind/\y.kind<=3)(h0:0<=y.ty)(m:N x.jk<=4194304)(l:N x.jx<=4194304)(ht:x.jv<=1)(hm:x.jz<=1):Ec Q 172 #[Yp (some ⟨q,0,none⟩),Yp (some ⟨Bm,0,none⟩),U O 2,U O (i:Int)] V (SeP D w0 q ks nv (lift (impM x fo go bd y))):=by
 obtain⟨a1,c1,a2,c2,a3,c3,a4,c4,a5,c5,a6,c6,a7,c7,a8,c8,a9,c9,bc,ba,bb,a0,⟨m0,t,m2,m3,m4,m5,m6,m7,m8,m9,j,g,f⟩,r1,r2,r3,r4,r5,r6,r7,r8,r9,ae,ad⟩:=hA;have a:=λ(b o:Nat) (u:Vu) (hu:w0.cell? ⟨b,o,none⟩=some u)=>(h.mo.b.cell (p:=⟨b,o,none⟩) (Y b o u hu)).trans hu;have f0:=a _ _ _ t;simp only[Tx]at f0;clear m0 t m2 m3 m4 m5 m6 m7 m8 m9 j g f;rcases r2 with d|⟨b_,off,rfl,_,X⟩
 . rw[d]at k;simp at k
 have c:=X i k;rw[R]at c;obtain⟨⟨L,I,H,F,E,C,B,A,v⟩,_⟩:=c;have d0:=a _ _ _ L;have d1:=a _ _ _ I;have d2:=a _ _ _ H;have d3:=a _ _ _ F;have d4:=a _ _ _ E;have d5:=a _ _ _ C;have d6:=a _ _ _ B;have d7:=a _ _ _ A;have d8:=a _ _ _ v;have HC:=Hm (iimp_c y h hk h0 m l ht hm);obtain⟨M,n⟩:∃M,M=lift (impM x fo go bd y):=⟨_,rfl⟩;rw[<- n];have r:=Hm n;have aw:(i:Int)<(N md.cj:Int):=by omega
 clear n R X h Y a L I H F E C B A v ;go_enter func172,ntmps172;go_wp2_with fail
 refine HC.o.mono ?_;intro e s d;have HX:Hid (SeP D w0 q ks nv M e s):=by show SeP D w0 q ks nv M e s;rw[r.o];exact d.se
 clear d HC;obtain⟨rv,rfl⟩:=HX.o.ret;go_wp2;go_ret;exact HX.o
theorem ient_3 (hA:Mod.At 0 w0 Bm 0 md)(A:CD D w0)(i:Nat)(k:i<N md.jk)(hl:N md.jk<=1048576)(y:Int)(v:md.jk.getD i 0=y)(h:SSt D w0 q x fo go bd nv ks V)(h0:0<=y)(l:N x.jk<=4194304):Ec Q 172 #[Yp (some ⟨q,0,none⟩),Yp (some ⟨Bm,0,none⟩),U O 3,U O (i:Int)] V (SeP D w0 q ks nv (lift ((Xe x y).map λx'=>(x',fo,go,bd)))):=by
 obtain⟨a1,c1,a2,c2,a3,c3,a4,c4,a5,c5,a6,c6,a7,c7,a8,c8,a9,c9,ao,aj,ak,ai,⟨m0,m1,s,m3,m4,Y,X,R,L,I,g,f,d⟩,r1,r2,E,r4,r5,r6,r7,r8,r9,H,F⟩:=hA;have j:=λ(b o:Nat) (u:Vu) (hu:w0.cell? ⟨b,o,none⟩=some u)=>(h.mo.b.cell (p:=⟨b,o,none⟩) (A b o u hu)).trans hu;have f0:=j _ _ _ s;simp only[Tx]at f0;clear m0 m1 s m3 m4 Y X R L I g f d;rcases E with c|⟨b_,off,rfl,_,z⟩
 . rw[c]at k;simp at k
 have a:=z i k;rw[v]at a;have t:=a;have d0:=j _ _ _ t;have C:=Hm (ifunction_c y h h0 l);obtain⟨M,m⟩:∃M,M=lift ((Xe x y).map λx'=>(x',fo,go,bd)):=⟨_,rfl⟩;rw[<- m];have n:=Hm m;have ae:(i:Int)<(N md.jk:Int):=by omega
 clear m v z h A j t ;go_enter func172,ntmps172;go_wp2_with fail
 refine C.o.mono ?_;intro e r c;have B:Hid (SeP D w0 q ks nv M e r):=by show SeP D w0 q ks nv M e r;rw[n.o];exact c.se
 clear c C;obtain⟨rv,rfl⟩:=B.o.ret;go_wp2;go_ret;exact B.o
theorem ient_4 (hA:Mod.At 0 w0 Bm 0 md)(E:CD D w0)(i:Nat)(k:i<N md.cw)(hl:N md.cw<=1048576)(y:Qd)(B:md.cw.getD i Qd.z=y)(h:SSt D w0 q x fo go bd nv ks V)(hn:x.jv<=1):Ec Q 172 #[Yp (some ⟨q,0,none⟩),Yp (some ⟨Bm,0,none⟩),U O 4,U O (i:Int)] V (SeP D w0 q ks nv (lift ((X6 x.jv y 4294967295).map λn=>({ x with jv:=n },fo,go,bd)))):=by
 obtain⟨a1,c1,a2,c2,a3,c3,a4,c4,a5,c5,a6,c6,a7,c7,a8,c8,a9,c9,aq,ao,ap,ak,⟨m0,m1,m2,s,m4,m5,m6,m7,Y,X,j,g,f⟩,r1,r2,r3,I,r5,r6,r7,r8,r9,R,L⟩:=hA;have a:=λ(b o:Nat) (u:Vu) (hu:w0.cell? ⟨b,o,none⟩=some u)=>(h.mo.b.cell (p:=⟨b,o,none⟩) (E b o u hu)).trans hu;have f0:=a _ _ _ s;simp only[Tx]at f0;clear m0 m1 m2 s m4 m5 m6 m7 Y X j g f;rcases I with d|⟨b_,off,rfl,_,C⟩
 . rw[d]at k;simp at k
 have c:=C i k;rw[B]at c;obtain⟨⟨A,v,t⟩,_⟩:=c;have d0:=a _ _ _ A;have d1:=a _ _ _ v;have d2:=a _ _ _ t;have H:=Hm (itable_c y h hn);obtain⟨M,l⟩:∃M,M=lift ((X6 x.jv y 4294967295).map λn=>({ x with jv:=n },fo,go,bd)):=⟨_,rfl⟩;rw[<- l];have m:=Hm l;have ah:(i:Int)<(N md.cw:Int):=by omega
 clear l B C h E a A v t ;go_enter func172,ntmps172;go_wp2_with fail
 refine H.o.mono ?_;intro e r d;have F:Hid (SeP D w0 q ks nv M e r):=by show SeP D w0 q ks nv M e r;rw[m.o];exact d.se
 clear d H;obtain⟨rv,rfl⟩:=F.o.ret;go_wp2;go_ret;exact F.o
structure MdA where
 a1:Option Ad
 c1:Nat
 a2:Option Ad
 c2:Nat
 a3:Option Ad
 c3:Nat
 a4:Option Ad
 c4:Nat
 a5:Option Ad
 c5:Nat
 a6:Option Ad
 c6:Nat
 a7:Option Ad
 c7:Nat
 a8:Option Ad
 c8:Nat
 a9:Option Ad
 c9:Nat
 a10:Option Ad
 c10:Nat
 a11:Option Ad
 c11:Nat
variable {A:MdA}
abbrev mdC (x:Mod)(A:MdA):Array Vu:=#[S A.a1 (N x.types) A.c1,S A.a2 (N x.cj) A.c2,S A.a3 (N x.jk) A.c3,S A.a4 (N x.cw) A.c4,S A.a5 (N x.jz) A.c5,S A.a6 (N x.ck) A.c6,S A.a7 (N x.cv) A.c7,G x.gz,U O x.start,S A.a8 (N x.fq) A.c8,S A.a9 (N x.fj) A.c9,S A.a10 (N x.fx) A.c10,S A.a11 (N x.fw) A.c11]
abbrev mdV (x:Mod)(A:MdA):Vu:=Ag (mdC x A)
structure MdI (D:Nat)(w0:J)(x:Mod)(A:MdA):Prop where
 is:Mod.Is 0 w0 x A.a1 A.a2 A.a3 A.a4 A.a5 A.a6 A.a7 A.a8 A.a9 A.a10 A.a11
 cd:CD D w0
def limE (l:Qd)(mem:Bool):Int:=if(l.has=true/\l.max<l.min)\/(mem=true/\(65536<l.min\/65536<l.max))then 3 else 0
theorem slim_c (l:Qd)(c:Bool)(w:J):Ec Q 190 #[Ag #[U O l.min,U O l.max,G l.has],G c] w λe w'=>e=Z (U O (limE l c))/\Bw w.heap.size w w':=by
 obtain⟨b,a,has⟩:=l;dsimp only;obtain⟨W,d⟩:∃W,W=w.alloc (Fc #[U O b,U O a,G has] 175):=⟨_,rfl⟩;have kk:Bk W w.heap.size [U O b,U O a,G has]:=by rw[d];exact Bk.new
 have r:=kk.2.1 0 _ rfl;have q:=kk.2.1 1 _ rfl;have p:=kk.2.1 2 _ rfl;have n:Hid (Bw w.heap.size w W):=by show Bw w.heap.size w W;rw[d];exact bFz.alloc lRz _
 have k:Hid (∀h m:Bool,limE ⟨b,a,h⟩ m=if(h=true/\a<b)\/(m=true/\(65536<b\/65536<a))then 3 else 0):=λh m=>rfl;clear kk;by_cases j:a<b<;>by_cases g:65536<b<;>by_cases f:65536<a<;>cases has<;>cases c
 all_goals
  first
   |(exfalso;omega)
   | (
    go_enter func190,ntmps190
    go_upto_region 1 with fail
    rw[<- d];clear d
    go_wp2
    go_ret
    refine⟨?_,n.o⟩
    rw[k.o]
    simp[j,g,f])
theorem sbefore_c {D w0 ks V}(n:Nat)(a:Int)(E:Mo D w0 ks V)(H:MdI D w0 md A)(hn:n<=N md.cj)(hl:N md.cj<=1048576):Ec Q 191 #[mdV md A,U O (n:Int),U O a] V λe w'=>e=Z (U O (Q0 md a n))/\Bw V.heap.size V w':=by
 obtain⟨W,r⟩:∃W,W=V.alloc (Fc (mdC md A) 48):=⟨_,rfl⟩;have c:Mo D w0 (box 48 13 V.heap.size (mdC md A).toList::ks) W:=by rw[r];exact E.box (cur:=mdC md A) 48 13 rfl
 obtain⟨q,t⟩:∃q,q=V.heap.size:=⟨_,rfl⟩;rw[<- t]at c;have e1:=(c.b0 1).1;have HB:Hid (Bw V.heap.size V W):=by show Bw V.heap.size V W;rw[r];exact bFz.alloc lRz _
 have j:=Hm H;have B:=Hm c;clear E c H;go_enter func191,ntmps191;go_upto_region 1 with fail
 rw[<- r,<- t];clear r t;go_wp2_with fail
 go_loop [7,8] (λx y=>∃k:Nat,k<=n/\y=U O k/\x=U O (Q0 md a k)) (λ_ y=>n-(intOf y).toNat)
 case atStart=>exact⟨0,Kw _,rfl,by simp[Q0]⟩
 obtain⟨k,hk,rfl,rfl⟩:=hrel;by_cases M:k<n
 . (have X:(k:Int)<(n:Int):=by omega);(have R:(k:Int)<(N md.cj:Int):=by omega);rcases j.o.is.2.1 with L|⟨b,off,Y,_,F⟩
   . rw[L]at hn;simp at hn;omega
   obtain⟨⟨_,_,v,_⟩,_⟩:=F k (by omega);have d2:=(B.o.b.cell (p:=⟨b,off+k*9+2,none⟩) (j.o.cd _ _ _ v)).trans v;have m:=Gh md a k (by omega);(have u:Q0 md a k<=k:=by unfold Q0;exact Kq (Lx _ _) (by simp;omega));obtain⟨y,C⟩:∃y,y=(md.cj.getD k Imp.z).kind:=⟨_,rfl⟩;rw[<- C]at d2 m;rw[Y]at e1;obtain⟨l,g⟩:∃l,l=Q0 md a k:=⟨_,rfl⟩;rw[<- g]at u m⊢;have s:=Hm m;clear F v C m g;by_cases f:y=a
   . (have I:(y==a)=true:=by simp[f]);(have d:Hid (Q0 md a (k+1)=l+1):=by show _=_;rw[s.o,if_pos f]);clear s f;go_wp2;(go_round);(case rel=>exact⟨k+1,by omega,by go_num,by rw[d.o];go_num⟩);case measure=>simp[intOf];omega
   (have I:(y==a)=false:=by simp[f]);(have d:Hid (Q0 md a (k+1)=l):=by show _=_;rw[s.o,if_neg f];rfl);clear s f;go_wp2;(go_round);(case rel=>exact⟨k+1,by omega,by go_num,by rw[d.o]⟩);case measure=>simp[intOf];omega
 obtain rfl:k=n:=by omega
 go_wp2;go_ret;exact⟨rfl,HB.o⟩
theorem fin2 {V W}{c b:Vu}(d:Bw V.heap.size V W)(a:V.heap.size<=q)(c0:W.cell? ⟨q,0,none⟩=some c)(c1:W.cell? ⟨q,1,none⟩=some b):((W.setCell ⟨q,0,none⟩ x0).setCell ⟨q,1,none⟩ x1).cell? ⟨q,0,none⟩=some x0/\((W.setCell ⟨q,0,none⟩ x0).setCell ⟨q,1,none⟩ x1).cell? ⟨q,1,none⟩=some x1/\Bw V.heap.size V ((W.setCell ⟨q,0,none⟩ x0).setCell ⟨q,1,none⟩ x1) :=
 ⟨QE (QS c0) (by decide),QS (QE c1 (by decide)),(d.setCell a _).setCell a _⟩
theorem stypeAt_v (t:Int)(u:MdI D w0 md A)(h0:0<=t)(hl:N md.types<=1048576):∃m k l j,Ty D w0 [] (S m (Je md t).ps.length k) (Je md t).ps/\Ty D w0 [] (S l (Je md t).rs.length j) (Je md t).rs/\∀(ks:List Qb) (V:J),Mo D w0 ks V->Ec Q 26 #[mdV md A,U O t] V λe w'=>e=Z (Ag #[S m (Je md t).ps.length k,S l (Je md t).rs.length j])/\Bw V.heap.size V w':=by
 obtain⟨n,rfl⟩:∃n:Nat,t=n:=⟨t.toNat,by omega⟩;have E:Hid (∀(ks:List Qb) (V W:J) (q:Nat),Mo D w0 ks V->W=(V.alloc (Fc (mdC md A) 48)).alloc (Fc #[S none 0 0,S none 0 0] 76)->q=V.heap.size->Mo D w0 (box 76 2 (q+1) [S none 0 0,S none 0 0]::box 48 13 q (mdC md A).toList::ks) W/\Bw V.heap.size V W):=λks V W q hm f d=>by have:=(hm.box (cur:=mdC md A) 48 13 rfl).box (cur:=#[S none 0 0,S none 0 0]) 76 2 rfl;rw[f,d];exact⟨by simpa using this,(bFz.alloc lRz _).alloc (by simp) _⟩
 by_cases s:n<N md.types
 . (have X:(n:Int)<(N md.types:Int):=by omega);rcases u.is.1 with hx|⟨b,off,ea,_,hc⟩
   . rw[hx]at s;simp at s
   obtain⟨m,k,l,j,⟨C,B⟩,hp,hr⟩:=hc n s;have R:=HI.ty u.cd k hp;have M:=HI.ty u.cd j hr;obtain⟨T,Y⟩:∃T,T=md.types.getD n Qc.z:=⟨_,rfl⟩;(have c:Je md (n:Int)=T:=by rw[Je,Kc,Y]);rw[c];rw[<- Y]at R M C B;refine⟨m,k,l,j,R,M,λks V hm=>?_⟩;obtain⟨W,f⟩:∃W,W=(V.alloc (Fc (mdC md A) 48)).alloc (Fc #[S none 0 0,S none 0 0] 76):=⟨_,rfl⟩;obtain⟨q,d⟩:∃q,q=V.heap.size:=⟨_,rfl⟩;obtain⟨a,y⟩:=E.o ks V W q hm f d;have HB:=Hm y;have e0:=(a.tail.b0 0).1;obtain⟨H,y0⟩:=a.b0 0;obtain⟨F,y1⟩:=a.b0 1;(have r:V.heap.size<=q+1:=by omega);have d0:=(a.b.cell (p:=⟨b,off+n*2,none⟩) (u.cd _ _ _ C)).trans C;have d1:=(a.b.cell (p:=⟨b,off+n*2+1,none⟩) (u.cd _ _ _ B)).trans B;rw[ea]at e0;have HF:=Hm (fin2 (x0:=S m (N T.ps) k) (x1:=S l (N T.rs) j) HB.o r H F);clear hm a u hc C B hp hr R M Y c E y;go_enter func26,ntmps26;(go_upto_region 1 with fail);rw[<- f,<- d];clear f d;go_wp2;refine QC (λg=>g.cell? ⟨q+1,0,none⟩=some (S m (N T.ps) k)/\g.cell? ⟨q+1,1,none⟩=some (S l (N T.rs) j)/\Bw V.heap.size V g) HF.o ?_;rintro g ⟨L,I,h1⟩;exact bodyPost_ret (v:=Ag #[S m (N T.ps) k,S l (N T.rs) j]) (by simp[results,results26,go_sem,L,I]) rfl ⟨rfl,h1⟩
 have X:¬((n:Int)<(N md.types:Int)):=by omega
 have c:Je md (n:Int)=Qc.z:=by rw[Je,Kc];simp[Kx,Hq (by omega:N md.types<=n)]
 rw[c];refine⟨none,0,none,0,Ty.nil _ _ _ _ _,Ty.nil _ _ _ _ _,λks V hm=>?_⟩;show Ec Q 26 #[mdV md A,U O n] V λe w'=>e=Z (Ag #[S none 0 0,S none 0 0])/\Bw V.heap.size V w';obtain⟨W,f⟩:∃W,W=(V.alloc (Fc (mdC md A) 48)).alloc (Fc #[S none 0 0,S none 0 0] 76):=⟨_,rfl⟩;obtain⟨q,d⟩:∃q,q=V.heap.size:=⟨_,rfl⟩;obtain⟨a,y⟩:=E.o ks V W q hm f d;have HB:=Hm y;have e0:=(a.tail.b0 0).1;obtain⟨H,y0⟩:=a.b0 0;obtain⟨F,y1⟩:=a.b0 1;have r:V.heap.size<=q+1:=by omega
 have HF:=Hm (fin2 (x0:=S none 0 0) (x1:=S none 0 0) HB.o r H F);clear hm a u c E y;go_enter func26,ntmps26;go_upto_region 1 with fail
 rw[<- f,<- d];clear f d;go_wp2;refine QC (λg=>g.cell? ⟨q+1,0,none⟩=some (S none 0 0)/\g.cell? ⟨q+1,1,none⟩=some (S none 0 0)/\Bw V.heap.size V g) HF.o ?_;rintro g ⟨L,I,h1⟩;exact bodyPost_ret (v:=Ag #[S none 0 0,S none 0 0]) (by simp[results,results26,go_sem,L,I]) rfl ⟨rfl,h1⟩
def XG (md:Mod)(i:Nat)(y:Imp):Int :=
 if y.kind=0 then(if(N md.types:Int)<=y.ty then 2 else 0)else
 if y.kind=1\/y.kind=2 then(if limE y.lim (decide (y.kind=2))=0 then(if 0<Q0 md y.kind i then 4 else 0)else limE y.lim (decide (y.kind=2)))else 0
theorem Ql {D w0 V rs}(h:Mo D w0 rs V)(a:box 48 13 q (mdC md A).toList∈rs)(j:Nat){u:Vu}(b:j<13:=by omega)(hu:(mdC md A).toList[j]?=some u:=by exact rfl):V.cell? ⟨q,j,none⟩=some u:=(h.bx a j b hu).1
theorem simp_0 {D w0 ks V}(n:Nat)(mod l:ByteArray)(ty:Int)(a:Qd)(gl:Qx)(hm:Mo D w0 ks V)(y:MdI D w0 md A)(hn:n<N md.cj)(hl:N md.cj<=1048576)(hy:md.cj.getD n Imp.z=⟨mod,l,0,ty,a,gl⟩):Ec Q 130 #[mdV md A,U O (n:Int)] V λe w'=>e=Z (U O (XG md n ⟨mod,l,0,ty,a,gl⟩))/\Bw V.heap.size V w':=by
 obtain⟨W,m⟩:∃W,W=V.alloc (Fc (mdC md A) 48):=⟨_,rfl⟩;obtain⟨q,r⟩:∃q,q=V.heap.size:=⟨_,rfl⟩;have k:Mo D w0 (box 48 13 q (mdC md A).toList::ks) W:=by rw[m,r];exact hm.box (cur:=mdC md A) 48 13 rfl
 rcases y.is.2.1 with hx|⟨b,off,ea,_,hc⟩
 . rw[hx]at hn;simp at hn
 have s:=hc n hn;rw[hy]at s;obtain⟨⟨k0,k1,k2,k3,k4,k5,k6,k7,k8⟩,_⟩:=s;have g:=λ(o:Nat) (u:Vu) (hu:w0.cell? ⟨b,o,none⟩=some u)=>(k.b.cell (p:=⟨b,o,none⟩) (y.cd _ _ _ hu)).trans hu;have X:=g _ _ k0;have R:=g _ _ k1;have M:=g _ _ k2;have L:=g _ _ k3;have I:=g _ _ k4;have H:=g _ _ k5;have F:=g _ _ k6;have E:=g _ _ k7;have C:=g _ _ k8;dsimp only at X R M L I H F E C;have B:=Ql k (mS ..) 1;rw[ea]at B;obtain⟨t,d⟩:∃t,t=W.alloc (Fc #[Xs mod,Xs l,U O 0,U O ty,U O a.min,U O a.max,G a.has,U O gl.ty,G gl.mu] 178):=⟨_,rfl⟩;obtain⟨v,f⟩:∃v,v=W.heap.size:=⟨_,rfl⟩;have j:Mo D w0 (box 178 9 v [Xs mod,Xs l,U O 0,U O ty,U O a.min,U O a.max,G a.has,U O gl.ty,G gl.mu]::box 48 13 q (mdC md A).toList::ks) t:=by rw[d,f];exact k.box (cur:=#[Xs mod,Xs l,U O 0,U O ty,U O a.min,U O a.max,G a.has,U O gl.ty,G gl.mu]) 178 9 rfl
 have r2:=(j.b0 2).1;have r3:=(j.b0 3).1;have x0:=Ql j (mC (mS ..)) 0;have HB:Hid (Bw V.heap.size V t):=by show Bw V.heap.size V t;rw[d,m];exact(bFz.alloc lRz _).alloc (by simp) _
 have au:(n:Int)<(N md.cj:Int):=by omega
 clear hm k j y hc k0 k1 k2 k3 k4 k5 k6 k7 k8 g hy ea;by_cases c:(N md.types:Int)<=ty
 . (have Y:Hid (XG md n ⟨mod,l,0,ty,a,gl⟩=2):=by show XG _ _ _=_;simp[XG,c]);go_enter func130,ntmps130;(go_upto_region 1 with fail);rw[<- m,<- r];clear m r;(go_upto_region 2 with fail);rw[<- d,<- f];clear d f X R M L I H F E C B;go_wp2;go_ret;rw[Y.o];exact⟨rfl,HB.o⟩
 have Y:Hid (XG md n ⟨mod,l,0,ty,a,gl⟩=0):=by show XG _ _ _=_;simp[XG,c]
 go_enter func130,ntmps130;go_upto_region 1 with fail
 rw[<- m,<- r];clear m r;go_upto_region 2 with fail
 rw[<- d,<- f];clear d f X R M L I H F E C B;go_wp2;go_ret;rw[Y.o];exact⟨rfl,HB.o⟩
theorem simp_3 {D w0 ks V}(n:Nat)(mod j:ByteArray)(ty:Int)(a:Qd)(gl:Qx)(X:Mo D w0 ks V)(v:MdI D w0 md A)(hn:n<N md.cj)(hl:N md.cj<=1048576)(R:md.cj.getD n Imp.z=⟨mod,j,3,ty,a,gl⟩):Ec Q 130 #[mdV md A,U O (n:Int)] V λe w'=>e=Z (U O (XG md n ⟨mod,j,3,ty,a,gl⟩))/\Bw V.heap.size V w':=by
 obtain⟨W,r⟩:∃W,W=V.alloc (Fc (mdC md A) 48):=⟨_,rfl⟩;obtain⟨q,t⟩:∃q,q=V.heap.size:=⟨_,rfl⟩;have d:Mo D w0 (box 48 13 q (mdC md A).toList::ks) W:=by rw[r,t];exact X.box (cur:=mdC md A) 48 13 rfl
 rcases v.is.2.1 with hx|⟨b,off,ea,_,Y⟩
 . rw[hx]at hn;simp at hn
 have l:=Y n hn;rw[R]at l;obtain⟨⟨M,L,I,H,F,E,C,B,y⟩,_⟩:=l;have c:=λ(o:Nat) (u:Vu) (hu:w0.cell? ⟨b,o,none⟩=some u)=>(d.b.cell (p:=⟨b,o,none⟩) (v.cd _ _ _ hu)).trans hu;have d0:=c _ _ M;have d1:=c _ _ L;have d2:=c _ _ I;have d3:=c _ _ H;have d4:=c _ _ F;have d5:=c _ _ E;have d6:=c _ _ C;have d7:=c _ _ B;have d8:=c _ _ y;dsimp only at d0 d1 d2 d3 d4 d5 d6 d7 d8;have e1:=Ql d (mS ..) 1;rw[ea]at e1;obtain⟨m,f⟩:∃m,m=W.alloc (Fc #[Xs mod,Xs j,U O 3,U O ty,U O a.min,U O a.max,G a.has,U O gl.ty,G gl.mu] 178):=⟨_,rfl⟩;obtain⟨s,g⟩:∃s,s=W.heap.size:=⟨_,rfl⟩;have k:Mo D w0 (box 178 9 s [Xs mod,Xs j,U O 3,U O ty,U O a.min,U O a.max,G a.has,U O gl.ty,G gl.mu]::box 48 13 q (mdC md A).toList::ks) m:=by rw[f,g];exact d.box (cur:=#[Xs mod,Xs j,U O 3,U O ty,U O a.min,U O a.max,G a.has,U O gl.ty,G gl.mu]) 178 9 rfl
 have r2:=(k.b0 2).1;have HB:Hid (Bw V.heap.size V m):=by show Bw V.heap.size V m;rw[f,r];exact(bFz.alloc lRz _).alloc (by simp) _
 have ap:(n:Int)<(N md.cj:Int):=by omega
 clear X d k v Y M L I H F E C B y c R ea;have HE:Hid (XG md n ⟨mod,j,3,ty,a,gl⟩=0):=by show XG _ _ _=_;simp[XG]
 go_enter func130,ntmps130;go_upto_region 1 with fail
 rw[<- r,<- t];clear r t;go_upto_region 2 with fail
 rw[<- f,<- g];clear f g d0 d1 d2 d3 d4 d5 d6 d7 d8 e1;go_wp2;go_ret;rw[HE.o];exact⟨rfl,HB.o⟩
def cxF (md:Mod):Ctx:=cxA md (N md.types) (N md.cj) (N md.jk) (N md.cw) (N md.jz) (N md.ck)
theorem ient_5 (hA:Mod.At 0 w0 Bm 0 md)(E:CD D w0)(i:Nat)(k:i<N md.jz)(hl:N md.jz<=1048576)(y:Qd)(B:md.jz.getD i Qd.z=y)(h:SSt D w0 q x fo go bd nv ks V)(hn:x.jz<=1):Ec Q 172 #[Yp (some ⟨q,0,none⟩),Yp (some ⟨Bm,0,none⟩),U O 5,U O (i:Int)] V (SeP D w0 q ks nv (lift ((X6 x.jz y 65536).map λn=>({ x with jz:=n },fo,go,bd)))):=by
 obtain⟨a1,c1,a2,c2,a3,c3,a4,c4,a5,c5,a6,c6,a7,c7,a8,c8,a9,c9,aq,ao,ap,ak,⟨m0,m1,m2,m3,s,m5,m6,m7,Y,X,j,g,f⟩,r1,r2,r3,r4,I,r6,r7,r8,r9,R,L⟩:=hA;have a:=λ(b o:Nat) (u:Vu) (hu:w0.cell? ⟨b,o,none⟩=some u)=>(h.mo.b.cell (p:=⟨b,o,none⟩) (E b o u hu)).trans hu;have f0:=a _ _ _ s;simp only[Tx]at f0;clear m0 m1 m2 m3 s m5 m6 m7 Y X j g f;rcases I with d|⟨b_,off,rfl,_,C⟩
 . rw[d]at k;simp at k
 have c:=C i k;rw[B]at c;obtain⟨⟨A,v,t⟩,_⟩:=c;have d0:=a _ _ _ A;have d1:=a _ _ _ v;have d2:=a _ _ _ t;have H:=Hm (imemory_c y h hn);obtain⟨M,l⟩:∃M,M=lift ((X6 x.jz y 65536).map λn=>({ x with jz:=n },fo,go,bd)):=⟨_,rfl⟩;rw[<- l];have m:=Hm l;have ah:(i:Int)<(N md.jz:Int):=by omega
 clear l B C h E a A v t ;go_enter func172,ntmps172;go_wp2_with fail
 refine H.o.mono ?_;intro e r d;have F:Hid (SeP D w0 q ks nv M e r):=by show SeP D w0 q ks nv M e r;rw[m.o];exact d.se
 clear d H;obtain⟨rv,rfl⟩:=F.o.ret;go_wp2;go_ret;exact F.o
theorem ient_6 (hA:Mod.At 0 w0 Bm 0 md)(t:CD D w0)(i:Nat)(m:i<N md.ck)(hl:N md.ck<=1048576)(y:Qm)(H:md.ck.getD i Qm.z=y)(h:SSt D w0 q x fo go bd nv ks V)(n:go<=N x.jx)(r:N x.jx<=4194304)(d:∀z∈y.ini,InB z)(l:N y.ini<=1048576):Ec Q 172 #[Yp (some ⟨q,0,none⟩),Yp (some ⟨Bm,0,none⟩),U O 6,U O (i:Int)] V (SeP D w0 q ks nv (globM x fo go bd y)):=by
 obtain⟨a1,c1,a2,c2,a3,c3,a4,c4,a5,c5,a6,c6,a7,c7,a8,c8,a9,c9,ay,aw,ax,av,⟨m0,m1,m2,m3,m4,B,m6,m7,m8,m9,k,j,g⟩,r1,r2,r3,r4,r5,Y,r7,r8,r9,ab,aa⟩:=hA;have a:=λ(b o:Nat) (u:Vu) (hu:w0.cell? ⟨b,o,none⟩=some u)=>(h.mo.b.cell (p:=⟨b,o,none⟩) (t b o u hu)).trans hu;have f0:=a _ _ _ B;simp only[Tx]at f0;clear m0 m1 m2 m3 m4 B m6 m7 m8 m9 k j g;rcases Y with f|⟨b_,off,rfl,_,I⟩
 . rw[f]at m;simp at m
 have c:=I i m;rw[H]at c;obtain⟨ga,gc,⟨F,E,C⟩,L⟩:=c;have d0:=a _ _ _ F;have d1:=a _ _ _ E;have d2:=a _ _ _ C;have X:=Hm (iglobal_c y.ty.ty y.ty.mu ga gc y.ini h n (In.Ls.inl t L) d l r);obtain⟨M,s⟩:∃M,M=globM x fo go bd y:=⟨_,rfl⟩;rw[<- s];have v:=Hm s;have ao:(i:Int)<(N md.ck:Int):=by omega
 clear s H I h t a F E C L d;go_enter func172,ntmps172;go_wp2_with fail
 refine X.o.mono ?_;intro e A f;have R:Hid (SeP D w0 q ks nv M e A):=by show SeP D w0 q ks nv M e A;rw[v.o];exact f
 clear f X;obtain⟨rv,rfl⟩:=R.o.ret;go_wp2;go_ret;exact R.o
theorem ient_7 (hA:Mod.At 0 w0 Bm 0 md)(R:CD D w0)(i:Nat)(s:i<N md.cv)(hl:N md.cv<=1048576)(y:Exp)(H:md.cv.getD i Exp.z=y)(h:SSt D w0 q x fo go bd nv ks V)(k:Nat)(m:y.kind=k)(hk:k<4)(n:nv=.map (some b))(hb:b<D)(hs:y.nm.size<=1048576)(ns:List (List UInt8))(L:Gl b w0 ns)(r:N ns<=1048576)(c:(Lit.int O y.ix).wf=true):Ec Q 172 #[Yp (some ⟨q,0,none⟩),Yp (some ⟨Bm,0,none⟩),U O 7,U O (i:Int)] V (ExP D w0 q x fo go bd b ks ns y.nm.data.toList (expM x ns y.nm.data.toList k y.ix)):=by
 obtain⟨a1,c1,a2,c2,a3,c3,a4,c4,a5,c5,a6,c6,a7,c7,a8,c8,a9,c9,ba,az,a0,ay,⟨m0,m1,m2,m3,m4,m5,B,m7,m8,m9,l,j,g⟩,r1,r2,r3,r4,r5,r6,r7,r8,r9,ac,ab⟩:=hA;have a:=λ(b o:Nat) (u:Vu) (hu:w0.cell? ⟨b,o,none⟩=some u)=>(h.mo.b.cell (p:=⟨b,o,none⟩) (R b o u hu)).trans hu;have f0:=a _ _ _ B;simp only[Tx]at f0;clear m0 m1 m2 m3 m4 m5 B m7 m8 m9 l j g;rcases r7 with f|⟨b_,off,rfl,_,I⟩
 . rw[f]at s;simp at s
 have d:=I i s;rw[H]at d;obtain⟨⟨F,E,C⟩,_⟩:=d;have d0:=a _ _ _ F;have d1:=a _ _ _ E;have d2:=a _ _ _ C;subst n;rw[m]at d1;have Y:=Hm (iexp_c y.nm k y.ix ns h hb hk hs L r c);obtain⟨M,t⟩:∃M,M=expM x ns y.nm.data.toList k y.ix:=⟨_,rfl⟩;rw[<- t];have v:=Hm t;have ar:(i:Int)<(N md.cv:Int):=by omega
 clear t H I h R a F E C L c;go_enter func172,ntmps172;go_wp2_with fail
 refine Y.o.mono ?_;intro e A f;have X:Hid (ExP D w0 q x fo go bd b ks ns y.nm.data.toList M e A):=by show ExP D w0 q x fo go bd b ks ns y.nm.data.toList M e A;rw[v.o];exact f
 clear f Y;obtain⟨rv,rfl⟩:=X.o.ret;go_wp2;go_ret;exact X.o
theorem ient_8 (F:Mod.At 0 w0 Bm 0 md)(j:CD D w0)(i:Int)(h:SSt D w0 q x fo go bd nv ks V)(H:0<=md.start)(k:∀t∈x.jk,N t.ps<=1099511627776/\N t.rs<=1099511627776):Ec Q 172 #[Yp (some ⟨q,0,none⟩),Yp (some ⟨Bm,0,none⟩),U O 8,U O i] V (SeP D w0 q ks nv (lift (X5 x fo go bd md.start))):=by
 obtain⟨a1,c1,a2,c2,a3,c3,a4,c4,a5,c5,a6,c6,a7,c7,a8,c8,a9,c9,X,M,R,L,⟨E,C,B,A,z,y,v,u,a,s,f,d,c⟩,r1,r2,r3,r4,r5,r6,r7,r8,r9,r,n⟩:=F;have I:=(h.mo.b.cell (p:=⟨Bm,0+8,none⟩) (j _ _ _ a)).trans a;simp only[Tx]at I;clear E C B A z y v u a s f d c;have m:=Hm (istart_c md.start h H k);clear h j k;go_enter func172,ntmps172;go_wp2_with fail
 refine m.o.mono ?_;intro e Y g;have l:=Hm g.se;clear g m;obtain⟨rv,rfl⟩:=l.o.ret;go_wp2;go_ret;exact l.o
theorem ient_9 (hA:Mod.At 0 w0 Bm 0 md)(j:CD D w0)(i:Nat)(r:i<N md.fq)(hl:N md.fq<=1048576)(y:Ele)(H:md.fq.getD i Ele.z=y)(h:SSt D w0 q x fo go bd nv ks V)(s:go<=N x.jx)(a:∀i∈y.fs,0<=i)(t:N y.fs<=1048576)(d:∀z∈y.off,InB z)(n:N y.off<=1048576):Ec Q 172 #[Yp (some ⟨q,0,none⟩),Yp (some ⟨Bm,0,none⟩),U O 9,U O (i:Int)] V (SeP D w0 q ks nv (elemM x fo go bd y.off y.fs)):=by
 obtain⟨a1,c1,a2,c2,a3,c3,a4,c4,a5,c5,a6,c6,a7,c7,a8,c8,a9,c9,ba,az,a0,ay,⟨m0,m1,m2,m3,m4,m5,m6,m7,m8,C,m,l,k⟩,r1,r2,r3,r4,r5,r6,r7,r8,r9,ad,ac⟩:=hA;have f:=λ(b o:Nat) (u:Vu) (hu:w0.cell? ⟨b,o,none⟩=some u)=>(h.mo.b.cell (p:=⟨b,o,none⟩) (j b o u hu)).trans hu;have f0:=f _ _ _ C;simp only[Tx]at f0;clear m0 m1 m2 m3 m4 m5 m6 m7 m8 C m l k;rcases r8 with g|⟨b_,off,rfl,_,I⟩
 . rw[g]at r;simp at r
 have c:=I i r;rw[H]at c;obtain⟨ga,gc,fa,X,⟨F,E⟩,L,R⟩:=c;have d0:=f _ _ _ F;have d1:=f _ _ _ E;have HC:=Hm (ielem_c ga gc y.off fa X y.fs (HI.ty j X R) a t h s (In.Ls.inl j L) d n);obtain⟨M,v⟩:∃M,M=elemM x fo go bd y.off y.fs:=⟨_,rfl⟩;rw[<- v];have A:=Hm v;have aq:(i:Int)<(N md.fq:Int):=by omega
 clear v H I h j f F E L R d a;go_enter func172,ntmps172;go_wp2_with fail
 refine HC.o.mono ?_;intro e B g;have Y:Hid (SeP D w0 q ks nv M e B):=by show SeP D w0 q ks nv M e B;rw[A.o];exact g
 clear g HC;obtain⟨rv,rfl⟩:=Y.o.ret;go_wp2;go_ret;exact Y.o
theorem ient_10 (hA:Mod.At 0 w0 Bm 0 md)(l:CD D w0)(i:Nat)(E:i<N md.fj)(hl:N md.fj<=1048576)(y:Cod)(hy:md.fj.getD i Cod.z=y)(h:SSt D w0 q x fo go bd nv ks V)(m n:Nat)(H:fo=m)(L:bd=n)(hj:m+n<N x.jk)(I:N x.jk<=4194304)(t:Qc)(ht:t=x.jk.getD (m+n) Qc.z)(A:N t.ps<=1048577)(F:N y.gq<=1048577)(hs:∀k,k<=N y.gq->0<=QJ (y.gq.take k)/\QJ (y.gq.take k)<=4503599627370496*4)(B:Bd (fn0 t y.gq))(C:CxB x)(c:goM (nst (fn0 t y.gq)) y.body=true)(f:∀z∈y.body,InB z)(v:N y.body<=1048576):Ec Q 172 #[Yp (some ⟨q,0,none⟩),Yp (some ⟨Bm,0,none⟩),U O 10,U O (i:Int)] V (SeP D w0 q ks nv (codeM x fo go bd t y.gq y.body)):=by
 obtain⟨a1,c1,a2,c2,a3,c3,a4,c4,a5,c5,a6,c6,a7,c7,a8,c8,a9,c9,bs,bo,br,bn,⟨m0,m1,m2,m3,m4,m5,m6,m7,m8,m9,a,s,r⟩,r1,r2,r3,r4,r5,r6,r7,r8,r9,ap,ao⟩:=hA;have g:=λ(b o:Nat) (u:Vu) (hu:w0.cell? ⟨b,o,none⟩=some u)=>(h.mo.b.cell (p:=⟨b,o,none⟩) (l b o u hu)).trans hu;have f0:=g _ _ _ a;simp only[Tx]at f0;clear m0 m1 m2 m3 m4 m5 m6 m7 m8 m9 a s r;rcases r9 with j|⟨b_,off,rfl,_,hc⟩
 . rw[j]at E;simp at E
 have d:=hc i E;rw[hy]at d;obtain⟨ga,gc,ba,bc,⟨k0,k1⟩,hG,hF⟩:=d;have d0:=g _ _ _ k0;have d1:=g _ _ _ k1;have HC:=Hm (icode_c h m n H L hj I ga gc y.gq (Grp.Ls.grl l hG) t ht A F hs ba bc y.body B C (In.Ls.inl l hF) f v c);obtain⟨M,R⟩:∃M,M=codeM x fo go bd t y.gq y.body:=⟨_,rfl⟩;rw[<- R];have X:=Hm R;have bg:(i:Int)<(N md.fj:Int):=by omega
 clear R hy hc h l g k0 k1 hG hF f hs B C c ht;go_enter func172,ntmps172;go_wp2_with fail
 refine HC.o.mono ?_;intro e Y j;have HX:Hid (SeP D w0 q ks nv M e Y):=by show SeP D w0 q ks nv M e Y;rw[X.o];exact j
 clear j HC;obtain⟨rv,rfl⟩:=HX.o.ret;go_wp2;go_ret;exact HX.o
theorem ient_11 (hA:Mod.At 0 w0 Bm 0 md)(t:CD D w0)(i:Nat)(n:i<N md.fx)(hl:N md.fx<=1048576)(y:Dat)(E:md.fx.getD i Dat.z=y)(h:SSt D w0 q x fo go bd nv ks V)(r:go<=N x.jx)(d:∀z∈y.off,InB z)(m:N y.off<=1048576):Ec Q 172 #[Yp (some ⟨q,0,none⟩),Yp (some ⟨Bm,0,none⟩),U O 11,U O (i:Int)] V (SeP D w0 q ks nv (dataM x fo go bd y.off)):=by
 obtain⟨a1,c1,a2,c2,a3,c3,a4,c4,a5,c5,a6,c6,a7,c7,a8,c8,a9,c9,ay,au,ax,ar,⟨m0,m1,m2,m3,m4,m5,m6,m7,Y,X,l,a,k⟩,r1,r2,r3,r4,r5,r6,r7,r8,r9,j,R⟩:=hA;have f:=λ(b o:Nat) (u:Vu) (hu:w0.cell? ⟨b,o,none⟩=some u)=>(h.mo.b.cell (p:=⟨b,o,none⟩) (t b o u hu)).trans hu;have f0:=f _ _ _ a;simp only[Tx]at f0;clear m0 m1 m2 m3 m4 m5 m6 m7 Y X l a k;rcases j with g|⟨b_,off,rfl,_,F⟩
 . rw[g]at n;simp at n
 have c:=F i n;rw[E]at c;obtain⟨ga,gc,ba,bc,⟨C,B⟩,H,hF⟩:=c;have d0:=f _ _ _ C;have d1:=f _ _ _ B;have L:=Hm (idata_c ga gc y.off ba (N y.bs) bc h r (In.Ls.inl t H) d m);obtain⟨M,s⟩:∃M,M=dataM x fo go bd y.off:=⟨_,rfl⟩;rw[<- s];have v:=Hm s;have ai:(i:Int)<(N md.fx:Int):=by omega
 clear s E F h t f C B H hF d;go_enter func172,ntmps172;go_wp2_with fail
 refine L.o.mono ?_;intro e A g;have I:Hid (SeP D w0 q ks nv M e A):=by show SeP D w0 q ks nv M e A;rw[v.o];exact g
 clear g L;obtain⟨rv,rfl⟩:=I.o.ret;go_wp2;go_ret;exact I.o
def EnP (D:Nat)(w0:J)(b q:Nat)(ks:List Qb)(r:Except Er St)(e:Ending)(w':J):Prop:=(∃er,r=.error er/\e=Z (erV er)/\Bw b w0 w')\/(∃s,r=.ok s/\e=Z Nf/\∃w1,Sc w0 w1/\Bw b w0 w1/\Gl b w1 s.ns/\SSt D w1 q s.x s.fo s.go s.bd (.map (some b)) ks w')
theorem SeP.en {r:Except Er (Ctx × Int × Int × Int)}{e:Ending}{ns:List (List UInt8)}(d:b<D)(f:Gl b w0 ns)(h:SeP D w0 q ks (.map (some b)) r e w'):EnP D w0 b q ks (r.map λr=>(⟨r.1,r.2.1,r.2.2.1,r.2.2.2,ns⟩:St)) e w':=by
 rcases h with ⟨er,rfl,c,a,_⟩|⟨x,fo,go,bd,rfl,c,a⟩
 . exact .inl ⟨er,rfl,c,a.mono (Nat.le_of_lt d)⟩
 exact .inr ⟨⟨x,fo,go,bd,ns⟩,rfl,c,w0,rfl,bFz,f,a⟩
theorem impFs_len (md:Mod)(k:Nat):(Q4 md k).length<=N md.cj:=by
 unfold Q4;rw[Ak];exact Kq (Lx _ _) (by simp;omega)
theorem impGs_len (md:Mod)(k:Nat):(Jf md k).length<=N md.cj:=by
 unfold Jf;rw[Ak];exact Kq (Lx _ _) (by simp;omega)
theorem tyAt_b (a:Mod.LB 1048576 md)(t:Int):(Je md t).ps.length<=1048576/\(Je md t).rs.length<=1048576:=by
 unfold Je;by_cases h:t.toNat<N md.types
 . exact a.1.2 _ h
 simp[Kx,Hq (by omega:N md.types<=t.toNat),Qc.z]
theorem st_b (a:Mod.LB 1048576 md)(n i:Nat):CxB (Qy md n i).x/\(Qy md n i).x.types.length<=1048576/\(Qy md n i).x.jk.length<=4194304/\(Qy md n i).x.jx.length<=4194304/\(Qy md n i).go<=(Qy md n i).x.jx.length/\(Qy md n i).ns.length<=1048576:=by
 have l:=a.1.1;have k:=a.2.1.1;have g:=a.2.2.1;have f:=a.2.2.2.2.2.1.1;have d:=a.2.2.2.2.2.2.1.1;have o:=impFs_len md (kk md n i 2);have m:=impGs_len md (kk md n i 2);refine⟨⟨λt ht=>?_,λt ht=>?_⟩,?_,?_,?_,?_,?_⟩
 . have b:t∈md.types.take (kk md n i 1):=ht;obtain⟨j,c,e⟩:=Mq (List.mem_of_mem_take b);have:=a.1.2 j c;simp only[Kx,Kj c,Option.getD_some,e]at this;exact this
 . have b:t∈Q4 md (kk md n i 2)++(md.jk.take (kk md n i 3)).map (Je md):=ht;rcases List.mem_append.1 b with h|h
   . unfold Q4 at h;obtain⟨y,_,rfl⟩:=List.mem_map.1 h;exact tyAt_b a _
   obtain⟨y,_,rfl⟩:=List.mem_map.1 h;exact tyAt_b a _
 . show(md.types.take (kk md n i 1)).length<=_;simp;omega
 . show(Q4 md (kk md n i 2)++(md.jk.take (kk md n i 3)).map (Je md)).length<=_;simp;omega
 . show(Jf md (kk md n i 2)++(md.ck.take (kk md n i 6)).map (·.ty)).length<=_;simp;omega
 . show((Jf md (kk md n i 2)).length:Int)<=((Jf md (kk md n i 2)++(md.ck.take (kk md n i 6)).map (·.ty)).length:Int);simp;omega
 show(((md.cv.take (kk md n i 7)).map enm).reverse).length<=_;simp;omega
theorem fn0_bd (a:Mod.LB 1048576 md)(t:Int)(c:N gs<=1048576)(hn:∀g∈gs,0<=g.n):Bd (fn0 (Je md t) gs):=by
 have h:=tyAt_b a t;refine⟨⟨λb hb=>?_,by simp[fn0],λ_=>lRz⟩,by simp[fn0],by simp[fn0],λb hb=>?_,hn,by show(Je md t).ps.length<=_;omega,by show(N gs)<=_;omega⟩
 . simp[fn0]at hb;subst hb;rfl
 simp[fn0]at hb;subst hb;exact h.2
theorem ient_c (hw:wfB md=true)(u:Mod.LB 1048576 md)(r:Mod.At 0 w0 Bm 0 md)(p:CD D w0)(A:1<=n)(a3:n<=11)(s:i<QG md n)(h:SSt D w0 q (Qy md n i).x (Qy md n i).fo (Qy md n i).go (Qy md n i).bd (.map (some b)) ks V)(g:b<D)(m:Gl b w0 (Qy md n i).ns)(ht:(Qy md n i).x.jv<=1)(y:(Qy md n i).x.jz<=1):Ec Q 172 #[Yp (some ⟨q,0,none⟩),Yp (some ⟨Bm,0,none⟩),U O (n:Int),U O (i:Int)] V (EnP D w0 b q ks (Js md n i (Qy md n i))):=by
 obtain⟨w1,w2,w3,w4,w5,w6,w7,w8,w9,E,B,ao⟩:=XS hw;obtain⟨C,b1,b2,b3,Y,b5⟩:=st_b u n i;have l:=Gd u;obtain⟨l1,l2,l3,l4,l5,l6,l7,l8,l9,F,az⟩:=l;rcases(by omega:n=1\/n=2\/n=3\/n=4\/n=5\/n=6\/n=7\/n=8\/n=9\/n=10\/n=11)with rfl|rfl|rfl|rfl|rfl|rfl|rfl|rfl|rfl|rfl|rfl
 . (have a:i<N md.types:=by simpa[QG]using s);rw[Js,if_neg (by omega),J9,if_pos rfl];exact(ient_1 r p i a l1 _ rfl h b1).mono λe w' x=>SeP.en g m x
 . (have a:i<N md.cj:=by simpa[QG]using s);have I:=Gg (w2 _ (Qv (z:=Imp.z) a));rw[Js,if_neg (by omega),J9,if_neg (by omega),if_pos rfl];exact(ient_2 r p i a l2 _ rfl h ⟨I.1,I.2.1⟩ I.2.2 b2 b3 ht y).mono λe w' x=>SeP.en g m x
 . (have a:i<N md.jk:=by simpa[QG]using s);have hu:=w3 _ (Qv (z:=0) a);simp only[Qz,decide_eq_true_eq]at hu;rw[Js,if_neg (by omega),J9,if_neg (by omega),if_neg (by omega),if_pos rfl];exact(ient_3 r p i a l3 _ rfl h hu.1 b2).mono λe w' x=>SeP.en g m x
 . (have a:i<N md.cw:=by simpa[QG]using s);rw[Js,if_neg (by omega),J9,if_neg (by omega),if_neg (by omega),if_neg (by omega),if_pos rfl];exact(ient_4 r p i a l4 _ rfl h ht).mono λe w' x=>SeP.en g m x
 . (have a:i<N md.jz:=by simpa[QG]using s);rw[Js,if_neg (by omega),J9,if_neg (by omega),if_neg (by omega),if_neg (by omega),if_neg (by omega),if_pos rfl];exact(ient_5 r p i a l5 _ rfl h y).mono λe w' x=>SeP.en g m x
 . (have a:i<N md.ck:=by simpa[QG]using s);have d:=w6 _ (Qv (z:=Qm.z) a);simp only[QY,Ky]at d;have c:=u.2.2.2.2.2.1.2 i a;rw[Js,if_neg (by omega),J9,if_neg (by omega),if_neg (by omega),if_neg (by omega),if_neg (by omega),if_neg (by omega),if_pos rfl];exact(ient_6 r p i a l6 _ rfl h Y b3 (XB d.2 c.2) c.1).mono λe w' x=>SeP.en g m x
 . (have a:i<N md.cv:=by simpa[QG]using s);have d:=w7 _ (Qv (z:=Exp.z) a);simp only[Jr,Ky,kindB,Qz,decide_eq_true_eq]at d;have c:=u.2.2.2.2.2.2.1.2 i a;rw[Js,if_pos rfl];refine(ient_7 r p i a l7 _ rfl h (md.cv.getD i Exp.z).kind.toNat (by omega) (by omega) rfl g c (Qy md 7 i).ns m b5 (WalkArith.wf_i64 (by omega))).mono λe w' x=>?_;unfold enm;(revert x);generalize expM _ _ _ _ _=o;intro x;rcases x with ⟨f,rfl,A,X⟩|⟨rfl,A,X⟩
   . exact .inl ⟨(f,none),rfl,A,X⟩
   exact .inr ⟨_,rfl,A,X⟩
 . have v:=w8;simp only[stB,Ky,Qz,decide_eq_true_eq]at v;rw[Js,if_neg (by omega),J9,if_neg (by omega),if_neg (by omega),if_neg (by omega),if_neg (by omega),if_neg (by omega),if_neg (by omega),if_pos rfl];exact(ient_8 r p i h v.1.1 (λt htt=>by have:=C.fu t htt;omega)).mono λe w' x=>SeP.en g m x
 . (have a:i<N md.fq:=by simpa[QG]using s);have d:=w9 _ (Qv (z:=Ele.z) a);simp only[JD,Ky,Hf,Qz,decide_eq_true_eq]at d;have c:=u.2.2.2.2.2.2.2.1.2 i a;rw[Js,if_neg (by omega),J9,if_neg (by omega),if_neg (by omega),if_neg (by omega),if_neg (by omega),if_neg (by omega),if_neg (by omega),if_neg (by omega),if_pos rfl];exact(ient_9 r p i a l8 _ rfl h Y (λj L=>(d.2 j L).1) c.2 (XB d.1 c.1.2) c.1.1).mono λe w' x=>SeP.en g m x
 . (have a:i<N md.fj:=by simpa[QG]using s);have d:=E _ (Qv (z:=Cod.z) a);simp only[Jl,Ky]at d;have c:=u.2.2.2.2.2.2.2.2.1.2 i a;(have M:i<N md.jk:=by omega);(have ex:(Qy md 10 i).x.jk=Q4 md (N md.cj)++md.jk.map (Je md):=by show Q4 md (kk md 10 i 2)++(md.jk.take (kk md 10 i 3)).map (Je md)=_;simp[kk,QG]);(have L:(Q4 md (N md.cj)).length+i<(Qy md 10 i).x.jk.length:=by rw[ex];simp;omega);(have R:Je md (md.jk.getD i 0)=(Qy md 10 i).x.jk.getD ((Q4 md (N md.cj)).length+i) Qc.z:=by rw[ex];simp[Kx,List.getElem?_append_right,M]);have H:=locs_sum _ 0 d.1 (by omega) (by omega);have a2:=tyAt_b u (md.jk.getD i 0);rw[Js,if_neg (by omega),J9,if_neg (by omega),if_neg (by omega),if_neg (by omega),if_neg (by omega),if_neg (by omega),if_neg (by omega),if_neg (by omega),if_neg (by omega),if_pos rfl];exact(ient_10 r p i a l9 _ rfl h (Q4 md (N md.cj)).length i (by simp[Qy,kk,QG]) (by simp[Qy,kk]) L b2 _ R (by omega) (by have:=c.1.1;omega) (λk _=>by have:=H k;omega) (fn0_bd u _ c.1.1 (locs_nn _ _ d.1)) C d.2 (XB d.2 c.2.2) c.2.1).mono λe w' x=>SeP.en g m x
 have a:i<N md.fx:=by simpa[QG]using s
 have d:=B _ (Qv (z:=Dat.z) a);simp only[JL]at d;have c:=u.2.2.2.2.2.2.2.2.2.1.2 i a;rw[Js,if_neg (by omega),J9,if_neg (by omega),if_neg (by omega),if_neg (by omega),if_neg (by omega),if_neg (by omega),if_neg (by omega),if_neg (by omega),if_neg (by omega),if_neg (by omega)];exact(ient_11 r p i a F _ rfl h Y (XB d c.1.2) c.1.1).mono λe w' x=>SeP.en g m x
theorem FTs0:FTs D w0 [] []:=⟨rfl,λi x h=>by simp at h⟩
theorem sp0 (w:J):SSt (w.heap.size+1) (w.alloc (.map #[] 0)) (w.heap.size+1) ⟨[],[],[],0,0,0⟩ 0 0 0 (.map (some w.heap.size)) [] ((w.alloc (.map #[] 0)).alloc (Fc #[S none 0 0,S none 0 0,U O 0,U O 0,S none 0 0,U O 0,U O 0,U O 0,.map (some w.heap.size)] 215)):=by
 have b:(w.alloc (.map #[] 0)).heap.size=w.heap.size+1:=by simp
 have d:Mo (w.heap.size+1) (w.alloc (.map #[] 0)) [] (w.alloc (.map #[] 0)):=⟨Own.nil _ _,bFz,by omega⟩;have c:=((d.new (ns:=[⟨176,2,0,S none 0 0,[]⟩]) bFz (Own.one (Tq _ _ _ 2))).new (ns:=[⟨76,2,0,S none 0 0,[]⟩]) bFz (Own.one (Tq _ _ _ 2))).new (ns:=[⟨76,2,0,S none 0 0,[]⟩]) bFz (Own.one (Tq _ _ _ 2));have a:=c.box (cur:=#[S none 0 0,S none 0 0,U O 0,U O 0,S none 0 0,U O 0,U O 0,U O 0,.map (some w.heap.size)]) 215 9 rfl;rw[b]at a;exact⟨⟨S none 0 0,S none 0 0,S none 0 0,.map (some w.heap.size),[],[],[]⟩,rfl,a,⟨FTs0,FTs0,rfl⟩⟩
theorem inew_c (w:J):Ec Q 101 #[] w λe w'=>e=Z (Yp (some ⟨w.heap.size+1,0,none⟩))/\SSt (w.heap.size+1) (w.alloc (.map #[] 0)) (w.heap.size+1) ⟨[],[],[],0,0,0⟩ 0 0 0 (.map (some w.heap.size)) [] w':=by
 have b:=Hm (sp0 w);have a:(w.alloc (.map #[] 0)).heap.size=w.heap.size+1:=by simp
 go_enter func101,ntmps101;go_wp2_with (rw[run_makeMap])
 go_ret;exact⟨by rw[<- a];rfl,b.o⟩
