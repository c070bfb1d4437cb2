import Derived.Test.YtaccbbndmmhenaaGreatDoorGal
import Derived.Test.YtaccbbndmmhenaaGreatDoorGam
set_option linter.all false
set_option maxHeartbeats 400000000
set_option maxRecDepth 100000
namespace Go.Proofs
open Value renaming int->U,slice->S,bool->G,pointer->Yp,string->Xs,agg->Ag,nilIface->Nf,iface->If
open IntKind renaming i64->O,u64->Ou
open Ending renaming returned->Z
open Obj renaming cells->Fc
open Go renaming World->J,Calls->Ec,Value->Vu
open Tryz renaming prog->Q
open Tryz
open List renaming all_eq_true->Mh,getD->Kg,getElem?_eq_getElem->Kj,map_append->Lx,map_cons->Rk,length_cons->Ex,perm_iff_count->Th,count_cons->Hd,getElem?_append_right->Lq,getElem?_append_left->Rz,length->N
open Region renaming wanted->Tf
open Int renaming toNat_natCast->Hx
open World renaming ownsRow_nil->Hk,block_lt_of_cell?->Kk
open Nat renaming le_trans->Ky,zero_le->Kz
open Calls renaming regrown_of->Tk
open Exit renaming normal->Lk
open List.Perm renaming swap->Tw
open IntKind renaming wrap_i64->Kv
open Value renaming slice->Tq
open Bool renaming false_eq_true->Ik
open Act renaming eval->Lz,put->Lf
namespace YtaccbbndmmhenaaGreatDoor.Va
open Go.RowKit Go.Sort
variable {b:Blk}{x:Ctx}{s s' s1:Fn}{fo go bd:Int}{w0 V:J}{ks:List Qc}{xs:List Qe}{cs c2:List Vu}{l:Lo}{D q n p j:Nat}{rv sp v' nv:Vu}
structure Spc where
 tv:Vu
 fv:Vu
 gv:Vu
 nv:Vu
 tcs:List Vu
 fcs:List Vu
 gcs:List Vu
variable {m:Spc}
abbrev spB (x:Ctx)(m:Spc)(fo go bd:Int):List Vu:=[m.tv,m.fv,U O x.tables,U O x.mems,m.gv,U O fo,U O go,U O bd,m.nv]
def FTs (D:Nat)(w0:J)(xs:List Qe)(cs:List Vu):Prop:=N cs=N xs*2/\∀i x,xs[i]?=some x->∃pv rv,cs[i*2]?=some pv/\cs[i*2+1]?=some rv/\Ty D w0 [] pv x.ps/\Ty D w0 [] rv x.rs
def gCs (gs:List Qx):List Vu:=gs.flatMap λg=>[U O g.ty,G g.mu]
structure SpR (D:Nat)(w0:J)(q:Nat)(x:Ctx)(fo go bd:Int)(m:Spc)(ks:List Qc):Prop where
 bx:box 238 9 q (spB x m fo go bd)∈ks
 tr:(⟨148,2,N x.types,m.tv,m.tcs⟩:Qc)∈ks
 fr:(⟨148,2,N x.funcs,m.fv,m.fcs⟩:Qc)∈ks
 gr:(⟨145,2,N x.globals,m.gv,m.gcs⟩:Qc)∈ks
 tt:FTs D w0 x.types m.tcs
 ft:FTs D w0 x.funcs m.fcs
 gt:m.gcs=gCs x.globals
theorem SpR.sub {ks':List Qc}(h:SpR D w0 q x fo go bd m ks)(a:∀r∈ks,r∈ks'):SpR D w0 q x fo go bd m ks':=⟨a _ h.bx,a _ h.tr,a _ h.fr,a _ h.gr,h.tt,h.ft,h.gt⟩
theorem QA {D w0 V ks}{e sz:Nat}{v:Vu}(f:Mo D w0 ks V)(h:(⟨e,sz,n,v,cs⟩:Qc)∈ks):∃a c,v=S a n c/\(0<n->∃g,a=some ⟨g,0,none⟩/\∀j u,cs[j]?=some u->j<n*sz->V.cell? ⟨g,j,none⟩=some u):=by
 have b:V.ownsRow D e sz v n cs:=f.row h;rcases b.2 with ⟨e,k⟩|⟨g,m,l,d,_⟩
 . rw[k];exact⟨_,_,e,λh=>by omega⟩
 subst d;exact⟨_,_,rfl,λ_=>⟨g,rfl,λj u hu hj=>(World.ownsRow.cellAt b j hj).trans hu⟩⟩
theorem SpR.cells (h:SpR D w0 q x fo go bd m ks)(a:Mo D w0 ks V):V.cell? ⟨q,0,none⟩=some m.tv/\V.cell? ⟨q,1,none⟩=some m.fv/\V.cell? ⟨q,2,none⟩=some (U O x.tables)/\V.cell? ⟨q,3,none⟩=some (U O x.mems)/\V.cell? ⟨q,4,none⟩=some m.gv:=by
 have B:=λ(j:Nat) (u:Vu) hj hu=>a.bx h.bx j (u:=u) hj hu;exact⟨(B 0 _ (by omega) rfl).1,(B 1 _ (by omega) rfl).1,(B 2 _ (by omega) rfl).1,(B 3 _ (by omega) rfl).1,(B 4 _ (by omega) rfl).1⟩
theorem Gl {gs:List Qx}{i:Nat}{g:Qx}(h:gs[i]?=some g):(gCs gs)[i*2]?=some (U O g.ty)/\(gCs gs)[i*2+1]?=some (G g.mu):=by
 induction gs generalizing i with
 |nil=>simp at h
 |cons x gs ih =>
  cases i with
  |zero=>simp at h;subst h;exact⟨rfl,rfl⟩
  |succ i =>
   have:=ih (i:=i) (by simpa using h)
   rw[show(i+1)*2=i*2+2 by omega]
   exact this
theorem Xi {i:Int}(h:0<=i):Xk n i=decide (i<n):=by simp[Xk,h]
abbrev frm (op:Int):Int:=Qj (Qb op)
theorem ihasLocal_c (p:Nat)(l:Lo)(a:Int)(w1:J){v:Int}{b:Bool}(m:w1.cell? ⟨p,1,none⟩=some l.pv)(k:w1.cell? ⟨p,2,none⟩=some l.gv)(j:w1.cell? ⟨p,3,none⟩=some l.ev)(d:Ec Q 250 #[Ag #[l.pv,l.gv,l.ev],U O a] w1 λe w'=>e=Z (.tuple #[U O v,G b])/\Below w1.heap.size w1 w'):Ec Q 230 #[Yp (some ⟨p,0,none⟩),U O a] w1 λe w'=>e=Z (G b)/\Below w1.heap.size w1 w':=by
 have f:=Hm d;clear d;go_enter func230,ntmps230;go_wp2_with (go_at_call 250;refine f.o.mono ?_;rintro e g ⟨rfl,c⟩)
 go_ret;exact⟨rfl,c⟩
theorem ihas_m5 (op a b v:Int)(d:List Int)(la)(y:Nat)(h:ISt D w0 p (Yp (some ⟨q,0,none⟩)) l ks s V)(f:SpR D w0 q x fo go bd m ks)(z:JS D w0 ks l s.ps s.locs)(hn:∀g∈s.locs,0<=g.n)(L:N s.ps<=1048577)(R:N s.locs<=1048577)(aa:0<=a)(Y:a<=4294967295)(M:N d<=1048577)(hL:Has V la d)(ab:∀i∈d,0<=i)(A:frm op=5):Ec Q 223 #[Yp (some ⟨p,0,none⟩),inV ⟨op,a,b,v,d⟩ la y] V λe w'=>e=Z (G (decide (0<x.mems)))/\Below V.heap.size V w':=by
 have F:=Hm (QK op);rw[show Qj (Qb op)=5 from A]at F;have j:Hid (decide (0<x.mems)=decide ((0:Int)<(x.mems:Int))):=by show decide _=decide _;simp
 obtain⟨W,t⟩:∃W,W=V.alloc (Fc #[U O op,U O a,U O b,U Ou v,S la (N d) y] 204):=⟨_,rfl⟩;have B:Below V.heap.size V W:=by rw[t];exact bFz.alloc lRz _
 have kk:C5 W V.heap.size 0 (U O op) (U O a) (U O b) (U Ou v) (S la (N d) y):=by rw[t];exact C5.new
 have E:=Hm kk;obtain⟨⟨c0,c1,c2,c3,c4⟩,cf⟩:=kk;have hI:=Hm h;have C:=Hm f;clear h f z hL cf;go_enter func223,ntmps223;go_upto_region 1 with fail
 rw[<- t];clear t;go_wp2_with fail
 refine(F.o _).mono ?_;rintro e w1 ⟨rfl,c⟩;have r:=Hm (B.trans (c.mono B.size));obtain⟨⟨d0,d1,d2,d3,d4⟩,df⟩:=E.o.keep c;have k:=Hm (hI.o.keep r.o);obtain⟨sa,sc,bv,ap,H,X,I,q5,f4,f5⟩:=k.o.opnS;have q0:=(H.b0 0 (u:=Yp (some ⟨q,0,none⟩))).1;obtain⟨r0,r1,r2,r3,r4⟩:=C.o.cells k.o.mo;clear c B c0 c1 c2 c3 c4 df H X F I f4 f5;go_wp2;go_ret;exact⟨by rw[j.o];rfl,r.o⟩
theorem ihas_m6 (op a b v:Int)(d:List Int)(la)(y:Nat)(h:ISt D w0 p (Yp (some ⟨q,0,none⟩)) l ks s V)(f:SpR D w0 q x fo go bd m ks)(z:JS D w0 ks l s.ps s.locs)(hn:∀g∈s.locs,0<=g.n)(L:N s.ps<=1048577)(R:N s.locs<=1048577)(aa:0<=a)(Y:a<=4294967295)(M:N d<=1048577)(hL:Has V la d)(ab:∀i∈d,0<=i)(A:frm op=6):Ec Q 223 #[Yp (some ⟨p,0,none⟩),inV ⟨op,a,b,v,d⟩ la y] V λe w'=>e=Z (G (decide (0<x.mems)))/\Below V.heap.size V w':=by
 have F:=Hm (QK op);rw[show Qj (Qb op)=6 from A]at F;have j:Hid (decide (0<x.mems)=decide ((0:Int)<(x.mems:Int))):=by show decide _=decide _;simp
 obtain⟨W,t⟩:∃W,W=V.alloc (Fc #[U O op,U O a,U O b,U Ou v,S la (N d) y] 204):=⟨_,rfl⟩;have B:Below V.heap.size V W:=by rw[t];exact bFz.alloc lRz _
 have kk:C5 W V.heap.size 0 (U O op) (U O a) (U O b) (U Ou v) (S la (N d) y):=by rw[t];exact C5.new
 have E:=Hm kk;obtain⟨⟨c0,c1,c2,c3,c4⟩,cf⟩:=kk;have hI:=Hm h;have C:=Hm f;clear h f z hL cf;go_enter func223,ntmps223;go_upto_region 1 with fail
 rw[<- t];clear t;go_wp2_with fail
 refine(F.o _).mono ?_;rintro e w1 ⟨rfl,c⟩;have r:=Hm (B.trans (c.mono B.size));obtain⟨⟨d0,d1,d2,d3,d4⟩,df⟩:=E.o.keep c;have k:=Hm (hI.o.keep r.o);obtain⟨sa,sc,bv,ap,H,X,I,q5,f4,f5⟩:=k.o.opnS;have q0:=(H.b0 0 (u:=Yp (some ⟨q,0,none⟩))).1;obtain⟨r0,r1,r2,r3,r4⟩:=C.o.cells k.o.mo;clear c B c0 c1 c2 c3 c4 df H X F I f4 f5;go_wp2;go_ret;exact⟨by rw[j.o];rfl,r.o⟩
theorem ihas_12 (a b v:Int)(f:List Int)(la)(z:Nat)(h:ISt D w0 p (Yp (some ⟨q,0,none⟩)) l ks s V)(j:SpR D w0 q x fo go bd m ks)(A:JS D w0 ks l s.ps s.locs)(hn:∀g∈s.locs,0<=g.n)(ab:N s.ps<=1048577)(ad:N s.locs<=1048577)(C:0<=a)(af:a<=4294967295)(ac:N f<=1048577)(hL:Has V la f)(ag:∀i∈f,0<=i)  :Ec Q 223 #[Yp (some ⟨p,0,none⟩),inV ⟨12,a,b,v,f⟩ la z] V λe w'=>e=Z (G (decide (a<N s.blocks)))/\Below V.heap.size V w':=by
 have M:=Hm (QK 12);rw[show Qj (Qb 12)=2 by decide +kernel]at M;have k:Hid (decide (a<N s.blocks)=Xk (N s.blocks) a):=(Xi C).symm;obtain⟨W,y⟩:∃W,W=V.alloc (Fc #[U O 12,U O a,U O b,U Ou v,S la (N f) z] 204):=⟨_,rfl⟩;have H:Below V.heap.size V W:=by rw[y];exact bFz.alloc lRz _
 have kk:C5 W V.heap.size 0 (U O 12) (U O a) (U O b) (U Ou v) (S la (N f) z):=by rw[y];exact C5.new
 have L:=Hm kk;obtain⟨⟨c0,c1,c2,c3,c4⟩,cf⟩:=kk;have hI:=Hm h;have I:=Hm j;clear h j A hL cf;go_enter func223,ntmps223;go_upto_region 1 with fail
 rw[<- y];clear y;go_wp2_with fail
 refine(M.o _).mono ?_;rintro e w1 ⟨rfl,d⟩;have u:=Hm (H.trans (d.mono H.size));obtain⟨⟨d0,d1,d2,d3,d4⟩,df⟩:=L.o.keep d;have t:=Hm (hI.o.keep u.o);obtain⟨sa,sc,Y,E,X,hf,q4,q5,f4,f5⟩:=t.o.opnS;obtain⟨r0,r1,r2,r3,r4⟩:=I.o.cells t.o.mo;have R:Hid (∃a c,Y=S a (N s.blocks) c):=Qh (X.row (r:=blR _ Y E) (by simp));clear d H c0 c1 c2 c3 c4 df X hf M q4 f4 f5;obtain⟨F,bc,B⟩:=R.o;subst B;have HC:=Hm (λw=>XY p (N s.blocks) bc F a w);go_wp2_with (go_at_call 229;refine(HC.o _ (by assumption)).mono ?_;rintro e w2 ⟨rfl,rfl⟩)
 go_ret;exact⟨by rw[k.o];rfl,u.o⟩
theorem ihas_13 (a b v:Int)(f:List Int)(la)(z:Nat)(h:ISt D w0 p (Yp (some ⟨q,0,none⟩)) l ks s V)(j:SpR D w0 q x fo go bd m ks)(A:JS D w0 ks l s.ps s.locs)(hn:∀g∈s.locs,0<=g.n)(ab:N s.ps<=1048577)(ad:N s.locs<=1048577)(C:0<=a)(af:a<=4294967295)(ac:N f<=1048577)(hL:Has V la f)(ag:∀i∈f,0<=i)  :Ec Q 223 #[Yp (some ⟨p,0,none⟩),inV ⟨13,a,b,v,f⟩ la z] V λe w'=>e=Z (G (decide (a<N s.blocks)))/\Below V.heap.size V w':=by
 have M:=Hm (QK 13);rw[show Qj (Qb 13)=2 by decide +kernel]at M;have k:Hid (decide (a<N s.blocks)=Xk (N s.blocks) a):=(Xi C).symm;obtain⟨W,y⟩:∃W,W=V.alloc (Fc #[U O 13,U O a,U O b,U Ou v,S la (N f) z] 204):=⟨_,rfl⟩;have H:Below V.heap.size V W:=by rw[y];exact bFz.alloc lRz _
 have kk:C5 W V.heap.size 0 (U O 13) (U O a) (U O b) (U Ou v) (S la (N f) z):=by rw[y];exact C5.new
 have L:=Hm kk;obtain⟨⟨c0,c1,c2,c3,c4⟩,cf⟩:=kk;have hI:=Hm h;have I:=Hm j;clear h j A hL cf;go_enter func223,ntmps223;go_upto_region 1 with fail
 rw[<- y];clear y;go_wp2_with fail
 refine(M.o _).mono ?_;rintro e w1 ⟨rfl,d⟩;have u:=Hm (H.trans (d.mono H.size));obtain⟨⟨d0,d1,d2,d3,d4⟩,df⟩:=L.o.keep d;have t:=Hm (hI.o.keep u.o);obtain⟨sa,sc,Y,E,X,hf,q4,q5,f4,f5⟩:=t.o.opnS;obtain⟨r0,r1,r2,r3,r4⟩:=I.o.cells t.o.mo;have R:Hid (∃a c,Y=S a (N s.blocks) c):=Qh (X.row (r:=blR _ Y E) (by simp));clear d H c0 c1 c2 c3 c4 df X hf M q4 f4 f5;obtain⟨F,bc,B⟩:=R.o;subst B;have HC:=Hm (λw=>XY p (N s.blocks) bc F a w);go_wp2_with (go_at_call 229;refine(HC.o _ (by assumption)).mono ?_;rintro e w2 ⟨rfl,rfl⟩)
 go_ret;exact⟨by rw[k.o];rfl,u.o⟩
theorem ihas_14 (a b v:Int)(d:List Int)(la)(F:Nat)(h:ISt D w0 p (Yp (some ⟨q,0,none⟩)) l ks s V)(u:SpR D w0 q x fo go bd m ks)(I:JS D w0 ks l s.ps s.locs)(hn:∀g∈s.locs,0<=g.n)(ar:N s.ps<=1048577)(av:N s.locs<=1048577)(M:0<=a)(ax:a<=4294967295)(au:N d<=1048577)(hL:Has V la d)(B:∀i∈d,0<=i)  :Ec Q 223 #[Yp (some ⟨p,0,none⟩),inV ⟨14,a,b,v,d⟩ la F] V λe w'=>e=Z (G (d.all (λi=>decide (i<N s.blocks))&&decide (a<N s.blocks)))/\Below V.heap.size V w':=by
 have HF:=Hm (QK 14);rw[show Qj (Qb 14)=3 by decide +kernel]at HF;have A:d.all (λi=>decide (i<N s.blocks))=d.all (λi=>Xk (N s.blocks) i):=by
  rw[Bool.eq_iff_iff,Mh,Mh];constructor
  . intro h i y;rw[Xi (B i y)];exact h i y
  intro h i y;rw[<- Xi (B i y)];exact h i y
 rw[A,<- Xi M];clear A;obtain⟨W,H⟩:∃W,W=V.alloc (Fc #[U O 14,U O a,U O b,U Ou v,S la (N d) F] 204):=⟨_,rfl⟩;have X:Below V.heap.size V W:=by rw[H];exact bFz.alloc lRz _
 have kk:C5 W V.heap.size 0 (U O 14) (U O a) (U O b) (U Ou v) (S la (N d) F):=by rw[H];exact C5.new
 have aa:=Hm kk;obtain⟨⟨c0,c1,c2,c3,c4⟩,cf⟩:=kk;have hI:=Hm h;have Y:=Hm u;have ab:=Hm hL;clear h u I hL cf;go_enter func223,ntmps223;go_upto_region 1 with fail
 rw[<- H];clear H;go_wp2_with fail
 refine(HF.o _).mono ?_;rintro e w1 ⟨rfl,j⟩;have f:=Hm (X.trans (j.mono X.size));obtain⟨⟨d0,d1,d2,d3,d4⟩,df⟩:=aa.o.keep j;have E:=Hm (hI.o.keep f.o);obtain⟨sa,sc,bv,R,hm,hf,q4,q5,f4,f5⟩:=E.o.opnS;obtain⟨r0,r1,r2,r3,r4⟩:=Y.o.cells E.o.mo;have ad:Hid (∃a c,bv=S a (N s.blocks) c):=Qh (hm.row (r:=blR _ bv R) (by simp));clear j X c0 c1 c2 c3 c4 df hm hf HF q4 f4 f5;obtain⟨C,bc,L⟩:=ad.o;subst L;have HC:=Hm (λw=>XY p (N s.blocks) bc C a w);have t:=Hm (allL_c la F d p (λi=>Xk (N s.blocks) i) w1 (by omega) (ab.o.keep f.o) (λi _ k=>(XY p (N s.blocks) bc C i (w1.drewN k) (by simpa using q5)).mono λe w' ⟨h1,h2⟩=>⟨h1,0,h2.symm⟩));generalize hz:d.all (λi=>Xk (N s.blocks) i)=z at t;have HZ:=Hm hz;clear hz;cases z
 . (go_wp2_with (go_at_call 114;refine t.o.mono ?_;rintro e w2 ⟨rfl,k,rfl⟩));go_ret;exact⟨by rw[HZ.o];rfl,Qo f.o _⟩
 go_wp2_with (first|(go_at_call 114;refine t.o.mono ?_;rintro e w2 ⟨rfl,k,rfl⟩)|(go_at_call 229;refine(HC.o _ (by simpa using q5)).mono ?_;rintro e w2 ⟨rfl,rfl⟩))
 go_ret;exact⟨by rw[HZ.o];rfl,Qo f.o _⟩
theorem ihas_17 (a b v:Int)(j:List Int)(la)(A:Nat)(h:ISt D w0 p (Yp (some ⟨q,0,none⟩)) l ks s V)(r:SpR D w0 q x fo go bd m ks)(C:JS D w0 ks l s.ps s.locs)(hn:∀g∈s.locs,0<=g.n)(ae:N s.ps<=1048577)(ag:N s.locs<=1048577)(E:0<=a)(ai:a<=4294967295)(af:N j<=1048577)(hL:Has V la j)(aj:∀i∈j,0<=i)  :Ec Q 223 #[Yp (some ⟨p,0,none⟩),inV ⟨17,a,b,v,j⟩ la A] V λe w'=>e=Z (G (decide (0<x.tables)&&decide (a<N x.types)))/\Below V.heap.size V w':=by
 have I:=Hm (QK 17);rw[show Qj (Qb 17)=4 by decide +kernel]at I;rw[<- Xi E];obtain⟨W,z⟩:∃W,W=V.alloc (Fc #[U O 17,U O a,U O b,U Ou v,S la (N j) A] 204):=⟨_,rfl⟩;have F:Below V.heap.size V W:=by rw[z];exact bFz.alloc lRz _
 have kk:C5 W V.heap.size 0 (U O 17) (U O a) (U O b) (U Ou v) (S la (N j) A):=by rw[z];exact C5.new
 have H:=Hm kk;obtain⟨⟨c0,c1,c2,c3,c4⟩,cf⟩:=kk;have hI:=Hm h;have y:=Hm r;clear h r C hL cf;go_enter func223,ntmps223;go_upto_region 1 with fail
 rw[<- z];clear z;go_wp2_with fail
 refine(I.o _).mono ?_;rintro e M ⟨rfl,c⟩;have f:=Hm (F.trans (c.mono F.size));obtain⟨⟨d0,d1,d2,d3,d4⟩,df⟩:=H.o.keep c;have d:=Hm (hI.o.keep f.o);obtain⟨sa,sc,bv,a1,R,hf,q4,q5,f4,f5⟩:=d.o.opnS;have q0:=(R.b0 0 (u:=Yp (some ⟨q,0,none⟩))).1;obtain⟨Y,r1,r2,r3,r4⟩:=y.o.cells d.o.mo;clear c F c0 c1 c2 c3 c4 df R hf I q4 f4 f5;obtain⟨fa,fc,t,_⟩:=QA d.o.mo y.o.tr;have X:=Hm (λk=>(XZ fa (N x.types) fc a (M.drewN k)).mono (R':=λe w'=>e=Z (G (Xk (N x.types) a))/\∃n,w'=M.drewN n) λe w' ⟨h1,h2⟩=>⟨h1,k,h2.symm⟩);rw[t]at Y;clear t;by_cases ht:0<x.tables
 . (have B:(0:Int)<(x.tables:Int):=by omega);(have hd:decide (0<x.tables)=true:=by simp[ht]);have L:=Hm hd;clear hd;(go_wp2_with fail);refine wp_region_quiet_lit (by kernel_rfl) (by kernel_rfl) ?_;(repeat ((with_reducible refine wpQuiet_step (λK hK=>?_));go_simp;first|(refine hK _ ?_;clear hK K)|(apply Exists.intro;refine⟨λ_=>?_,hK _ ?_⟩;(with_reducible exact X.o _);clear hK K)|(rw[if_neg (by simp[Tf,yielded,undef])];go_simp;refine hK _ ?_;clear hK K)));refine wpQuiet_nil ?_;rintro _ ⟨nq,rfl⟩;go_wp2;go_ret;exact⟨by rw[L.o];rfl,Qo f.o _⟩
 have B:¬((0:Int)<(x.tables:Int)):=by omega
 have ac:x.tables=0:=by omega
 have hd:decide (0<x.tables)=false:=by simp;omega
 have L:=Hm hd;clear hd;go_wp2_with fail
 refine wp_region_quiet_lit (by kernel_rfl) (by kernel_rfl) ?_;repeat ((with_reducible refine wpQuiet_step (λK hK=>?_));go_simp;first|(refine hK _ ?_;clear hK K)|(apply Exists.intro;refine⟨λ_=>?_,hK _ ?_⟩;(with_reducible exact X.o _);clear hK K)|(rw[if_neg (by simp[Tf,yielded,undef])];go_simp;refine hK _ ?_;clear hK K))
 refine wpQuiet_nil ?_;rintro _ ⟨nq,rfl⟩;go_wp2;go_ret;exact⟨by rw[L.o];rfl,Qo f.o _⟩
theorem ihas_z:(∀⦃D:Nat⦄ ⦃w0:J⦄ ⦃p q:Nat⦄ ⦃l:Lo⦄ ⦃ks:List Qc⦄ ⦃s:Fn⦄ ⦃V:J⦄ ⦃x:Ctx⦄ ⦃fo go bd:Int⦄ ⦃m:Spc⦄ (a b v:Int) (c:List Int) (j:Option Addr) (k:Nat) (h:ISt D w0 p (Yp (some ⟨q,0,none⟩)) l ks s V) (r:SpR D w0 q x fo go bd m ks) (t:JS D w0 ks l s.ps s.locs) (hn:∀g∈s.locs,0<=g.n) (y:N s.ps<=1048577) (z:N s.locs<=1048577) (B:0<=a) (A:a<=4294967295) (E:N c<=1048577) (X:Has V j c) (H:∀i∈c,0<=i),Ec Q 223 #[Yp (some ⟨p,0,none⟩),inV ⟨32,a,b,v,c⟩ j k] V λe w'=>e=Z (G (decide (a<N s.ps+QL s.locs)))/\Below V.heap.size V w')/\(∀⦃D:Nat⦄ ⦃w0:J⦄ ⦃p q:Nat⦄ ⦃l:Lo⦄ ⦃ks:List Qc⦄ ⦃s:Fn⦄ ⦃V:J⦄ ⦃x:Ctx⦄ ⦃fo go bd:Int⦄ ⦃m:Spc⦄ (a b v:Int) (c:List Int) (j:Option Addr) (k:Nat) (h:ISt D w0 p (Yp (some ⟨q,0,none⟩)) l ks s V) (r:SpR D w0 q x fo go bd m ks) (t:JS D w0 ks l s.ps s.locs) (hn:∀g∈s.locs,0<=g.n) (y:N s.ps<=1048577) (z:N s.locs<=1048577) (B:0<=a) (A:a<=4294967295) (E:N c<=1048577) (X:Has V j c) (H:∀i∈c,0<=i),Ec Q 223 #[Yp (some ⟨p,0,none⟩),inV ⟨33,a,b,v,c⟩ j k] V λe w'=>e=Z (G (decide (a<N s.ps+QL s.locs)))/\Below V.heap.size V w')/\(∀⦃D:Nat⦄ ⦃w0:J⦄ ⦃p q:Nat⦄ ⦃l:Lo⦄ ⦃ks:List Qc⦄ ⦃s:Fn⦄ ⦃V:J⦄ ⦃x:Ctx⦄ ⦃fo go bd:Int⦄ ⦃m:Spc⦄ (a b v:Int) (c:List Int) (j:Option Addr) (k:Nat) (h:ISt D w0 p (Yp (some ⟨q,0,none⟩)) l ks s V) (r:SpR D w0 q x fo go bd m ks) (t:JS D w0 ks l s.ps s.locs) (hn:∀g∈s.locs,0<=g.n) (y:N s.ps<=1048577) (z:N s.locs<=1048577) (B:0<=a) (A:a<=4294967295) (E:N c<=1048577) (X:Has V j c) (H:∀i∈c,0<=i),Ec Q 223 #[Yp (some ⟨p,0,none⟩),inV ⟨34,a,b,v,c⟩ j k] V λe w'=>e=Z (G (decide (a<N s.ps+QL s.locs)))/\Below V.heap.size V w'):=by
 refine⟨?c0,?c1,?c2⟩;case' c0=>have f:=0
 case' c1=>have d:=0
 case' c2=>have ag:=0
 all_goals
  intro D w0 p q l ks s V x fo go bd m a b v c j k h r t hn y z B A E X H
  first|(replace f:=f;have L:=Hm (QK 32))|(replace d:=d;have L:=Hm (QK 33))|(have L:=Hm (QK 34))
  first|(replace f:=f;rw[show Qj (Qb 32)=2 by decide +kernel]at L)|(replace d:=d;rw[show Qj (Qb 33)=2 by decide +kernel]at L)|(rw[show Qj (Qb 34)=2 by decide +kernel]at L)
  first|(replace f:=f;obtain⟨W,C⟩:∃W,W=V.alloc (Fc #[U O 32,U O a,U O b,U Ou v,S j (N c) k] 204):=⟨_,rfl⟩)|(replace d:=d;obtain⟨W,C⟩:∃W,W=V.alloc (Fc #[U O 33,U O a,U O b,U Ou v,S j (N c) k] 204):=⟨_,rfl⟩)|(obtain⟨W,C⟩:∃W,W=V.alloc (Fc #[U O 34,U O a,U O b,U Ou v,S j (N c) k] 204):=⟨_,rfl⟩)
  have ba:Below V.heap.size V W:=by rw[C];exact bFz.alloc lRz _
  first|(replace f:=f;have kk:C5 W V.heap.size 0 (U O 32) (U O a) (U O b) (U Ou v) (S j (N c) k):=by rw[C];exact C5.new)|(replace d:=d;have kk:C5 W V.heap.size 0 (U O 33) (U O a) (U O b) (U Ou v) (S j (N c) k):=by rw[C];exact C5.new)|(have kk:C5 W V.heap.size 0 (U O 34) (U O a) (U O b) (U Ou v) (S j (N c) k):=by rw[C];exact C5.new)
  have ae:=Hm kk;obtain⟨⟨c0,c1,c2,c3,c4⟩,cf⟩:=kk;have hI:=Hm h;have ab:=Hm r;have ac:=Hm t;clear h r t X cf
  go_enter func223,ntmps223
  go_upto_region 1 with fail
  rw[<- C];clear C
  go_wp2_with fail
  refine(L.o _).mono ?_
  rintro e w1 ⟨rfl,F⟩;have M:=Hm (ba.trans (F.mono ba.size));obtain⟨⟨d0,d1,d2,d3,d4⟩,df⟩:=ae.o.keep F;have I:=Hm (hI.o.keep M.o);obtain⟨sa,sc,bv,ay,R,hf,q4,q5,f4,f5⟩:=I.o.opnS;have q1:=(R.b0 1 (u:=l.pv)).1;have q2:=(R.b0 2 (u:=l.gv)).1;have q3:=(R.b0 3 (u:=l.ev)).1;obtain⟨r0,r1,r2,r3,r4⟩:=ab.o.cells I.o.mo;clear F ba c0 c1 c2 c3 c4 df R hf L q4 f4 f5;have HC:=Hm (ifind_c a I.o.mo ac.o B A hn y z);have ad:=Hm (ihasLocal_c p l a w1 q1 q2 q3 HC.o)
  go_wp2_with (go_at_call 230;refine ad.o.mono ?_;rintro e w2 ⟨rfl,Y⟩)
  go_ret
  exact⟨rfl,M.o.trans (Y.mono M.o.size)⟩
def ihas_32:=ihas_z.1
def ihas_33:=ihas_z.2.1
def ihas_34:=ihas_z.2.2
theorem ihas_x:(∀⦃D:Nat⦄ ⦃w0:J⦄ ⦃p q:Nat⦄ ⦃l:Lo⦄ ⦃ks:List Qc⦄ ⦃s:Fn⦄ ⦃V:J⦄ ⦃x:Ctx⦄ ⦃fo go bd:Int⦄ ⦃m:Spc⦄ (a b v:Int) (d:List Int) (j:Option Addr) (k:Nat) (h:ISt D w0 p (Yp (some ⟨q,0,none⟩)) l ks s V) (r:SpR D w0 q x fo go bd m ks) (y:JS D w0 ks l s.ps s.locs) (hn:∀g∈s.locs,0<=g.n) (E:N s.ps<=1048577) (H:N s.locs<=1048577) (t:0<=a) (L:a<=4294967295) (F:N d<=1048577) (hL:Has V j d) (M:∀i∈d,0<=i),Ec Q 223 #[Yp (some ⟨p,0,none⟩),inV ⟨16,a,b,v,d⟩ j k] V λe w'=>e=Z (G (decide (a<N x.funcs)))/\Below V.heap.size V w')/\(∀⦃D:Nat⦄ ⦃w0:J⦄ ⦃p q:Nat⦄ ⦃l:Lo⦄ ⦃ks:List Qc⦄ ⦃s:Fn⦄ ⦃V:J⦄ ⦃x:Ctx⦄ ⦃fo go bd:Int⦄ ⦃m:Spc⦄ (a b v:Int) (d:List Int) (j:Option Addr) (k:Nat) (h:ISt D w0 p (Yp (some ⟨q,0,none⟩)) l ks s V) (r:SpR D w0 q x fo go bd m ks) (y:JS D w0 ks l s.ps s.locs) (hn:∀g∈s.locs,0<=g.n) (E:N s.ps<=1048577) (H:N s.locs<=1048577) (t:0<=a) (L:a<=4294967295) (F:N d<=1048577) (hL:Has V j d) (M:∀i∈d,0<=i),Ec Q 223 #[Yp (some ⟨p,0,none⟩),inV ⟨35,a,b,v,d⟩ j k] V λe w'=>e=Z (G (decide (a<N x.globals)))/\Below V.heap.size V w')/\(∀⦃D:Nat⦄ ⦃w0:J⦄ ⦃p q:Nat⦄ ⦃l:Lo⦄ ⦃ks:List Qc⦄ ⦃s:Fn⦄ ⦃V:J⦄ ⦃x:Ctx⦄ ⦃fo go bd:Int⦄ ⦃m:Spc⦄ (a b v:Int) (d:List Int) (j:Option Addr) (k:Nat) (h:ISt D w0 p (Yp (some ⟨q,0,none⟩)) l ks s V) (r:SpR D w0 q x fo go bd m ks) (y:JS D w0 ks l s.ps s.locs) (hn:∀g∈s.locs,0<=g.n) (E:N s.ps<=1048577) (H:N s.locs<=1048577) (t:0<=a) (L:a<=4294967295) (F:N d<=1048577) (hL:Has V j d) (M:∀i∈d,0<=i),Ec Q 223 #[Yp (some ⟨p,0,none⟩),inV ⟨36,a,b,v,d⟩ j k] V λe w'=>e=Z (G (decide (a<N x.globals)))/\Below V.heap.size V w'):=by
 refine⟨?c0,?c1,?c2⟩;case' c0=>have c:=0
 case' c1=>have f:=0
 case' c2=>have aj:=0
 all_goals
  intro D w0 p q l ks s V x fo go bd m a b v d j k h r y hn E H t L F hL M
  first|(replace c:=c;have X:=Hm (QK 16))|(replace f:=f;have X:=Hm (QK 35))|(have X:=Hm (QK 36))
  first|(replace c:=c;rw[show Qj (Qb 16)=2 by decide +kernel]at X)|(replace f:=f;rw[show Qj (Qb 35)=2 by decide +kernel]at X)|(rw[show Qj (Qb 36)=2 by decide +kernel]at X)
  first|(replace c:=c;have C:Hid (decide (a<N x.funcs)=Xk (N x.funcs) a):=(Xi t).symm)|(have C:Hid (decide (a<N x.globals)=Xk (N x.globals) a):=(Xi t).symm)
  first|(replace c:=c;obtain⟨W,B⟩:∃W,W=V.alloc (Fc #[U O 16,U O a,U O b,U Ou v,S j (N d) k] 204):=⟨_,rfl⟩)|(replace f:=f;obtain⟨W,B⟩:∃W,W=V.alloc (Fc #[U O 35,U O a,U O b,U Ou v,S j (N d) k] 204):=⟨_,rfl⟩)|(obtain⟨W,B⟩:∃W,W=V.alloc (Fc #[U O 36,U O a,U O b,U Ou v,S j (N d) k] 204):=⟨_,rfl⟩)
  have ba:Below V.heap.size V W:=by rw[B];exact bFz.alloc lRz _
  first|(replace c:=c;have kk:C5 W V.heap.size 0 (U O 16) (U O a) (U O b) (U Ou v) (S j (N d) k):=by rw[B];exact C5.new)|(replace f:=f;have kk:C5 W V.heap.size 0 (U O 35) (U O a) (U O b) (U Ou v) (S j (N d) k):=by rw[B];exact C5.new)|(have kk:C5 W V.heap.size 0 (U O 36) (U O a) (U O b) (U Ou v) (S j (N d) k):=by rw[B];exact C5.new)
  have ae:=Hm kk;obtain⟨⟨c0,c1,c2,c3,c4⟩,cf⟩:=kk;have hI:=Hm h;have R:=Hm r;clear h r y hL cf
  go_enter func223,ntmps223
  go_upto_region 1 with fail
  rw[<- B];clear B
  go_wp2_with fail
  refine(X.o _).mono ?_
  rintro e w1 ⟨rfl,I⟩;have Y:=Hm (ba.trans (I.mono ba.size));obtain⟨⟨d0,d1,d2,d3,d4⟩,df⟩:=ae.o.keep I;have A:=Hm (hI.o.keep Y.o);obtain⟨sa,sc,bv,az,hm,hf,q4,q5,f4,f5⟩:=A.o.opnS;have q0:=(hm.b0 0 (u:=Yp (some ⟨q,0,none⟩))).1;obtain⟨r0,r1,r2,r3,r4⟩:=R.o.cells A.o.mo;clear I ba c0 c1 c2 c3 c4 df hm hf X q4 f4 f5
  first|(replace c:=c;obtain⟨fa,fc,z,_⟩:=QA A.o.mo R.o.fr)|(obtain⟨fa,fc,z,_⟩:=QA A.o.mo R.o.gr)
  first|(replace c:=c;have HC:=Hm (λw=>ihasFunc_c q (N x.funcs) fc fa a w))|(have HC:=Hm (hi_GlobalType fa (N x.globals) fc a))
  first|(replace c:=c;rw[z]at r1)|(rw[z]at r4)
  clear z
  go_wp2_with fail
  first|(replace c:=c;go_region_law (go_simp;go_at_call 220;refine(HC.o _ (by simpa using r1)).mono ?_;rintro e w2 ⟨rfl,rfl⟩))|(go_region_law (go_simp;go_at_call 231;refine(HC.o _).mono ?_;rintro e w2 ⟨rfl,rfl⟩))
  all_goals
   go_wp2
   go_ret
   exact⟨by rw[C.o];rfl,Y.o.drew⟩
def ihas_16:=ihas_x.1
def ihas_35:=ihas_x.2.1
def ihas_36:=ihas_x.2.2
theorem ihas_e (op a b v:Int)(f:List Int)(la)(y:Nat)(h:ISt D w0 p (Yp (some ⟨q,0,none⟩)) l ks s V)(j:SpR D w0 q x fo go bd m ks)(z:JS D w0 ks l s.ps s.locs)(hn:∀g∈s.locs,0<=g.n)(ad:N s.ps<=1048577)(ag:N s.locs<=1048577)(aj:0<=a)(ai:a<=4294967295)(af:N f<=1048577)(hL:Has V la f)(ak:∀i∈f,0<=i)(ar:(frm op==5)=false)(aq:(frm op==6)=false)(c:∀k∈([12,13,14,16,17,32,33,34,35,36]:List Int),op≠k):Ec Q 223 #[Yp (some ⟨p,0,none⟩),inV ⟨op,a,b,v,f⟩ la y] V λe w'=>e=Z (G (true))/\Below V.heap.size V w':=by
 have E:=Hm (QK op);have ac:(op==12)=false:=by simpa using c 12 (by simp)
 have ab:(op==13)=false:=by simpa using c 13 (by simp)
 have aa:(op==14)=false:=by simpa using c 14 (by simp)
 have Y:(op==16)=false:=by simpa using c 16 (by simp)
 have X:(op==17)=false:=by simpa using c 17 (by simp)
 have R:(op==32)=false:=by simpa using c 32 (by simp)
 have M:(op==33)=false:=by simpa using c 33 (by simp)
 have L:(op==34)=false:=by simpa using c 34 (by simp)
 have I:(op==35)=false:=by simpa using c 35 (by simp)
 have H:(op==36)=false:=by simpa using c 36 (by simp)
 clear c;obtain⟨W,u⟩:∃W,W=V.alloc (Fc #[U O op,U O a,U O b,U Ou v,S la (N f) y] 204):=⟨_,rfl⟩;have A:Below V.heap.size V W:=by rw[u];exact bFz.alloc lRz _
 have kk:C5 W V.heap.size 0 (U O op) (U O a) (U O b) (U Ou v) (S la (N f) y):=by rw[u];exact C5.new
 have C:=Hm kk;obtain⟨⟨c0,c1,c2,c3,c4⟩,cf⟩:=kk;have hI:=Hm h;have B:=Hm j;clear h j z hL cf;go_enter func223,ntmps223;go_upto_region 1 with fail
 rw[<- u];clear u;go_wp2_with fail
 refine(E.o _).mono ?_;rintro e w1 ⟨rfl,d⟩;have t:=Hm (A.trans (d.mono A.size));obtain⟨⟨d0,d1,d2,d3,d4⟩,df⟩:=C.o.keep d;have r:=Hm (hI.o.keep t.o);obtain⟨sa,sc,bv,a2,hm,hf,F,q5,f4,f5⟩:=r.o.opnS;obtain⟨r0,r1,r2,r3,r4⟩:=B.o.cells r.o.mo;clear d A c0 c1 c2 c3 c4 df hm hf E F f4 f5;go_wp2;go_ret;exact⟨rfl,t.o⟩
def ItP (D:Nat)(w0:J)(ks:List Qc)(V:J)(t:Qe)(e:Ending)(w':J):Prop:=∃pv rv ns,e=Z (Ag #[pv,rv])/\Below V.heap.size V w'/\Own V.heap.size w' ns/\Ty D w0 (ns++ks) pv t.ps/\Ty D w0 (ns++ks) rv t.rs
theorem Gk {V w1}{c0 c1 pv:Vu}{ns}(b:Below V.heap.size V w1)(k:Bk w1 (V.heap.size+1) [c0,c1])(f:Own (V.heap.size+2) w1 ns):∀a,a=(w1.setCell ⟨V.heap.size+1,0,none⟩ pv).setCell ⟨V.heap.size+1,1,none⟩ rv->(a.cell? ⟨V.heap.size+1,0,none⟩=some pv/\a.cell? ⟨V.heap.size+1,1,none⟩=some rv)/\Below V.heap.size V a/\Own V.heap.size a ns:=by
 rintro a rfl;have c:=(k.set (j:=0) (v:=pv)).set (j:=1) (v:=rv);refine⟨⟨c.2.1 0 _ rfl,c.2.1 1 _ rfl⟩,(b.setCell (by show V.heap.size<=V.heap.size+1;omega) _).setCell (by show V.heap.size<=V.heap.size+1;omega) _,?_⟩;have d:∀k,some (V.heap.size+1)=some k->k∉blk ns:=λk e hk=>by cases e;have:=(f.lt hk).1;omega
 exact((f.grown (Xu w1 _ _ _) d).grown (Xu _ _ _ _) d).mono (by omega)
theorem FTs.get (h:FTs D w0 xs cs)(g:j<N xs)(ks:List Qc):∃f rv,cs[j*2]?=some f/\cs[j*2+1]?=some rv/\Ty D w0 ks f (xs.getD j Qe.z).ps/\Ty D w0 ks rv (xs.getD j Qe.z).rs:=by
 obtain⟨f,rv,a,b,c,d⟩:=h.2 j (xs.getD j Qe.z) (by simp[Kg,g]);exact⟨f,rv,a,b,c.sub (λr hr=>by cases hr),d.sub (λr hr=>by cases hr)⟩
theorem Ty.has0 {v:Vu}{xs:List Int}(t:Ty D w0 ks v xs)(b:Mo D w0 ks V):∃a c,v=S a (N xs) c/\Has V a xs:=t.shape b λr hr=>hr
theorem iit_16 (j:Nat)(b v:Int)(H:List Int)(L:Option Addr)(I:Nat)(h:ISt D w0 p (Yp (some ⟨q,0,none⟩)) l ks s V)(a:SpR D w0 q x fo go bd m ks)(R:JS D w0 ks l s.ps s.locs)(hn:∀g∈s.locs,0<=g.n)(av:N s.ps<=1048577)(ax:N s.locs<=1048577)(hj:j<N x.funcs):Ec Q 242 #[Yp (some ⟨p,0,none⟩),inV ⟨16,(j:Int),b,v,H⟩ L I] V (ItP D w0 ks V (x.funcs.getD j Qe.z)):=by
 obtain⟨W,f⟩:∃W,W=(V.alloc (Fc #[U O 16,U O (j:Int),U O b,U Ou v,S L (N H) I] 204)).alloc (Fc #[S none 0 0,S none 0 0] 148):=⟨_,rfl⟩;have Y:Below V.heap.size V W:=by rw[f];exact(bFz.alloc lRz _).alloc (by simp) _
 have kk:C5 W V.heap.size 0 (U O 16) (U O (j:Int)) (U O b) (U Ou v) (S L (N H) I):=by rw[f];exact C5.new.past
 have d:Bk W (V.heap.size+1) [S none 0 0,S none 0 0]:=by have:=Bk.new (w:=V.alloc (Fc #[U O 16,U O (j:Int),U O b,U Ou v,S L (N H) I] 204)) (cs:=[S none 0 0,S none 0 0]) (t:=148);rw[f];simpa using this
 have M:W.heap.size=V.heap.size+2:=by rw[f];simp
 obtain⟨⟨c0,c1,c2,c3,c4⟩,cf⟩:=kk;have y0:=d.2.1 0 _ rfl;have y1:=d.2.1 1 _ rfl;have z0:=d.2.2 0;have z1:=d.2.2 1;have ac:=Hm d;have ad:=Hm Y;have k:=h.keep Y;obtain⟨sa,sc,bv,a6,hm,hf,q4,q5,f4,f5⟩:=k.opnS;have q0:=(hm.b0 0 (u:=Yp (some ⟨q,0,none⟩))).1;obtain⟨r0,r1,r2,r3,r4⟩:=a.cells k.mo;obtain⟨fa,fc,A,B⟩:=QA k.mo a.fr;obtain⟨gf,X,c⟩:=B (by omega);subst X;rw[A]at r1;obtain⟨pv,rv,e1,e2,F,E⟩:=a.ft.get hj ks;have d0:=c _ _ e1 (by omega);have d1:=c _ _ e2 (by omega);obtain⟨pa,pc,y,_⟩:=F.has0 k.mo;obtain⟨ra,rc,r,_⟩:=E.has0 k.mo;rw[y]at d0 F;rw[r]at d1 E;have aw:(j:Int)<(N x.funcs:Int):=by omega
 have ab:=Hm F;have aa:=Hm E;clear k a R c e1 e2 F E A B y r hj;clear h hf hm q4 f4 f5 Y d cf M;go_enter func242,ntmps242;go_upto_region 1 with fail
 rw[<- f];clear f;go_wp2_with fail
 go_region
 all_goals
  go_wp2
  refine Qv (λC=>(C.cell? ⟨V.heap.size+1,0,none⟩=some (S pa (x.funcs.getD j Qe.z).ps.length pc)/\C.cell? ⟨V.heap.size+1,1,none⟩=some (S ra (x.funcs.getD j Qe.z).rs.length rc))/\Below V.heap.size V C/\Own V.heap.size C []) (Gk (V:=V) (w1:=W.drew) (ad.o.drew) ac.o (Own.nil _ _) _ rfl) ?_
  rintro C ⟨⟨u0,u1⟩,h1,h2⟩
  exact bodyPost_ret (v:=Ag #[S pa (x.funcs.getD j Qe.z).ps.length pc,S ra (x.funcs.getD j Qe.z).rs.length rc]) (by simp[results,results242,go_sem,u0,u1]) rfl ⟨_,_,[],rfl,h1,h2,(by simpa using ab.o),(by simpa using aa.o)⟩
theorem iit_e (op a b v:Int)(L:List Int)(R:Option Addr)(M:Nat)(h:ISt D w0 p (Yp (some ⟨q,0,none⟩)) l ks s V)(E:SpR D w0 q x fo go bd m ks)(X:JS D w0 ks l s.ps s.locs)(hn:∀g∈s.locs,0<=g.n)(a2:N s.ps<=1048577)(a4:N s.locs<=1048577)(c:∀k∈([13,16,17,32,33,34,35,36]:List Int),op≠k):Ec Q 242 #[Yp (some ⟨p,0,none⟩),inV ⟨op,a,b,v,L⟩ R M] V (ItP D w0 ks V (oty op)):=by
 have a1:(op==13)=false:=by simpa using c 13 (by simp)
 have a0:(op==16)=false:=by simpa using c 16 (by simp)
 have az:(op==17)=false:=by simpa using c 17 (by simp)
 have ay:(op==32)=false:=by simpa using c 32 (by simp)
 have ax:(op==33)=false:=by simpa using c 33 (by simp)
 have aw:(op==34)=false:=by simpa using c 34 (by simp)
 have av:(op==35)=false:=by simpa using c 35 (by simp)
 have au:(op==36)=false:=by simpa using c 36 (by simp)
 clear c;obtain⟨W,u⟩:∃W,W=(V.alloc (Fc #[U O op,U O a,U O b,U Ou v,S R (N L) M] 204)).alloc (Fc #[S none 0 0,S none 0 0] 148):=⟨_,rfl⟩;have ba:Below V.heap.size V W:=by rw[u];exact(bFz.alloc lRz _).alloc (by simp) _
 have kk:C5 W V.heap.size 0 (U O op) (U O a) (U O b) (U Ou v) (S R (N L) M):=by rw[u];exact C5.new.past
 have r:Bk W (V.heap.size+1) [S none 0 0,S none 0 0]:=by have:=Bk.new (w:=V.alloc (Fc #[U O op,U O a,U O b,U Ou v,S R (N L) M] 204)) (cs:=[S none 0 0,S none 0 0]) (t:=148);rw[u];simpa using this
 have C:W.heap.size=V.heap.size+2:=by rw[u];simp
 have ad:=Hm C;obtain⟨⟨c0,c1,c2,c3,c4⟩,cf⟩:=kk;have y0:=r.2.1 0 _ rfl;have y1:=r.2.1 1 _ rfl;have z0:=r.2.2 0;have z1:=r.2.2 1;have af:=Hm r;have H:=Hm ba;have Y:=h.keep ba;obtain⟨sa,sc,bv,a9,hm,hf,q4,q5,f4,f5⟩:=Y.opnS;obtain⟨r0,r1,r2,r3,r4⟩:=E.cells Y.mo;have HO:=Hm (itype_c op);clear Y E X;clear h hf hm q4 f4 f5 ba r cf C;go_enter func242,ntmps242;go_upto_region 1 with fail
 rw[<- u];clear u;go_wp2_with fail
 refine(HO.o _).mono ?_;rintro e w1 ⟨pv,rv,rfl,d,j⟩;have ag:=Hm (H.o.trans (j.mono H.o.size));have f:=Hm (af.o.keep j);have y0:=f.o.2.1 0 _ rfl;have y1:=f.o.2.1 1 _ rfl;have z0:=f.o.2.2 0;have z1:=f.o.2.2 1;obtain⟨B,A,rfl⟩:=Qh d.hp;obtain⟨z,y,rfl⟩:=Qh d.hr;have ae:Hid (Own (V.heap.size+2) w1 [⟨2,1,(oty op).ps.length,S B (oty op).ps.length A,I (oty op).ps⟩,⟨2,1,(oty op).rs.length,S z (oty op).rs.length y,I (oty op).rs⟩]):=by rw[<- ad.o];exact Own.two d.hp d.hr (λi h1 h2=>d.ne i i h1 h2 rfl)
 clear d j;go_wp2
 all_goals
  refine Qv (λF=>(F.cell? ⟨V.heap.size+1,0,none⟩=some (S B (oty op).ps.length A)/\F.cell? ⟨V.heap.size+1,1,none⟩=some (S z (oty op).rs.length y))/\Below V.heap.size V F/\Own V.heap.size F [⟨2,1,(oty op).ps.length,S B (oty op).ps.length A,I (oty op).ps⟩,⟨2,1,(oty op).rs.length,S z (oty op).rs.length y,I (oty op).rs⟩]) (Gk (V:=V) ag.o f.o ae.o _ rfl) ?_
  rintro F ⟨⟨u0,u1⟩,h1,h2⟩
  exact bodyPost_ret (v:=Ag #[S B (oty op).ps.length A,S z (oty op).rs.length y]) (by simp[results,results242,go_sem,u0,u1]) rfl ⟨_,_,[⟨2,1,(oty op).ps.length,S B (oty op).ps.length A,I (oty op).ps⟩,⟨2,1,(oty op).rs.length,S z (oty op).rs.length y,I (oty op).rs⟩],rfl,h1,h2,(.inr (by simp)),(.inr (by simp))⟩
theorem ISt.lab (h:ISt D w0 p sp l ks s V)(E:j<N s.blocks):∃g k c f rv,N s.blocks=k+1/\V.cell? ⟨p,5,none⟩=some (S (some ⟨g,0,none⟩) (k+1) c)/\V.cell? ⟨g,(k-j)*5,none⟩=some f/\V.cell? ⟨g,(k-j)*5+3,none⟩=some rv/\Ty D w0 ks f (label s j).takes/\Ty D w0 ks rv (label s j).results:=by
 obtain⟨C,n,d,t,A⟩:=h;obtain⟨k,b⟩:∃k,N s.blocks=k+1:=⟨N s.blocks-1,by omega⟩;have a:V.ownsRow D 350 5 n (N s.blocks) d:=t.row (r:=blR _ n d) (by simp);obtain⟨g,c,rfl⟩:∃g c,n=S (some ⟨g,0,none⟩) (k+1) c:=by
  rcases a.2 with ⟨_,F⟩|⟨g,m,B,o,_⟩
  . omega
  rw[b]at o;exact⟨g,m,o⟩
 have y:k-j<N s.blocks:=by omega
 have z:s.blocks[k-j]?=some (label s j):=by rw[label,Hx,b,Nat.add_sub_cancel];simp[Kg,y]
 obtain⟨H,⟨f,rv,rfl,v,u⟩,q⟩:=Fl.at irep_len A z;refine⟨g,k,c,f,rv,b,(t.b0 5).1,?_,?_,v,u⟩
 . have:=World.ownsRow.cellAt (by rw[b]at a;exact a) ((k-j)*5) (by omega);rw[this];exact q 0 _ rfl
 have:=World.ownsRow.cellAt (by rw[b]at a;exact a) ((k-j)*5+3) (by omega);rw[this];exact q 3 _ rfl
theorem iit_13 (j:Nat)(b v:Int)(ll:List Int)(la:Option Addr)(lc:Nat)(h:ISt D w0 p (Yp (some ⟨q,0,none⟩)) l ks s V)(H:SpR D w0 q x fo go bd m ks)(af:JS D w0 ks l s.ps s.locs)(hn:∀g∈s.locs,0<=g.n)(a6:N s.ps<=1048577)(bb:N s.locs<=1048577)(hj:j<N s.blocks)(ai:N s.blocks<=1048577)(a5:(label s j).takes.length<=1048577):Ec Q 242 #[Yp (some ⟨p,0,none⟩),inV ⟨13,(j:Int),b,v,ll⟩ la lc] V (ItP D w0 ks V ⟨(label s j).takes++[127],(label s j).takes⟩):=by
 obtain⟨W,A⟩:∃W,W=(V.alloc (Fc #[U O 13,U O (j:Int),U O b,U Ou v,S la (N ll) lc] 204)).alloc (Fc #[S none 0 0,S none 0 0] 148):=⟨_,rfl⟩;have ba:Below V.heap.size V W:=by rw[A];exact(bFz.alloc lRz _).alloc (by simp) _
 have kk:C5 W V.heap.size 0 (U O 13) (U O (j:Int)) (U O b) (U Ou v) (S la (N ll) lc):=by rw[A];exact C5.new.past
 have z:Bk W (V.heap.size+1) [S none 0 0,S none 0 0]:=by have:=Bk.new (w:=V.alloc (Fc #[U O 13,U O (j:Int),U O b,U Ou v,S la (N ll) lc] 204)) (cs:=[S none 0 0,S none 0 0]) (t:=148);rw[A];simpa using this
 have F:W.heap.size=V.heap.size+2:=by rw[A];simp
 have ao:=Hm F;obtain⟨⟨c0,c1,c2,c3,c4⟩,cf⟩:=kk;have y0:=z.2.1 0 _ rfl;have y1:=z.2.1 1 _ rfl;have z0:=z.2.2 0;have z1:=z.2.2 1;have ar:=Hm z;have Y:=Hm ba;have M:=h.keep ba;obtain⟨sa,sc,bv,bn,hm,hf,q4,q5,f4,f5⟩:=M.opnS;obtain⟨r0,r1,r2,r3,r4⟩:=H.cells M.mo;obtain⟨g,k,c,tv,rv,hk,d5,dt,_,t1,_⟩:=M.lab hj;obtain⟨C,B,E,L⟩:=t1.has0 M.mo;rw[E]at dt t1;have aq:=Hm (λw=>ilabel_c p g k c (j:Int) w);have ak:=Hm t1;have au:=Hm L;have a8:k<=1048577:=by omega
 have ag:(j:Int)<=(k:Int):=by omega
 have ah:(0:Int)<=(j:Int):=by omega
 clear M H af hk E t1 L hj ai q5;clear h hf hm q4 f4 f5 ba z cf F;go_enter func242,ntmps242;go_upto_region 1 with fail
 rw[<- A];clear A;go_wp2_with fail
 refine(aq.o _ (by assumption) (by omega) ah ag).mono ?_;simp only[Hx];rintro e w1 ⟨rfl,n,rfl⟩;have X:=Hm (iwithI32_c C B (label s j).takes C (label s j).takes.length B (W.drewN n) au.o (by omega));go_wp2_with fail
 refine X.o.mono ?_;rintro e w1 ⟨v1,rfl,own,a⟩;have d:Below W.heap.size W w1:=⟨a.os,a.tape,a.output,a.size,a.block⟩;have av:=Hm (Y.o.trans (d.mono Y.o.size));have f:=Hm (ar.o.keep d);have y0:=f.o.2.1 0 _ rfl;have y1:=f.o.2.1 1 _ rfl;have z0:=f.o.2.2 0;have z1:=f.o.2.2 1;obtain⟨y,u,rfl⟩:=Qh own;have ap:Hid (Own (V.heap.size+2) w1 [⟨2,1,((label s j).takes++[127]).length,S y ((label s j).takes++[127]).length u,I ((label s j).takes++[127])⟩]):=by rw[<- ao.o];exact Own.one own
 clear a d own X;go_wp2
 all_goals
  refine Qv (λR=>(R.cell? ⟨V.heap.size+1,0,none⟩=some (S y ((label s j).takes++[127]).length u)/\R.cell? ⟨V.heap.size+1,1,none⟩=some (S C (label s j).takes.length B))/\Below V.heap.size V R/\Own V.heap.size R [⟨2,1,((label s j).takes++[127]).length,S y ((label s j).takes++[127]).length u,I ((label s j).takes++[127])⟩]) (by have:=Gk (V:=V) (pv:=S y ((label s j).takes++[127]).length u) (rv:=S C (label s j).takes.length B) av.o f.o ap.o _ rfl;simpa using this) ?_
  rintro R ⟨⟨u0,u1⟩,h1,h2⟩
  exact bodyPost_ret (v:=Ag #[S y ((label s j).takes++[127]).length u,S C (label s j).takes.length B]) (by simp[results,results242,go_sem,u0,u1]) rfl ⟨_,_,[⟨2,1,((label s j).takes++[127]).length,S y ((label s j).takes++[127]).length u,I ((label s j).takes++[127])⟩],rfl,h1,h2,(.inr (by simp)),(ak.o.sub λr hr=>mR hr)⟩
theorem iit_17 (j:Nat)(b v:Int)(ll:List Int)(la:Option Addr)(lc:Nat)(h:ISt D w0 p (Yp (some ⟨q,0,none⟩)) l ks s V)(k:SpR D w0 q x fo go bd m ks)(ao:JS D w0 ks l s.ps s.locs)(hn:∀g∈s.locs,0<=g.n)(bo:N s.ps<=1048577)(bq:N s.locs<=1048577)(hj:j<N x.types)(ak:(x.types.getD j Qe.z).ps.length<=1048577):Ec Q 242 #[Yp (some ⟨p,0,none⟩),inV ⟨17,(j:Int),b,v,ll⟩ la lc] V (ItP D w0 ks V ⟨(x.types.getD j Qe.z).ps++[127],(x.types.getD j Qe.z).rs⟩):=by
 obtain⟨W,F⟩:∃W,W=(V.alloc (Fc #[U O 17,U O (j:Int),U O b,U Ou v,S la (N ll) lc] 204)).alloc (Fc #[S none 0 0,S none 0 0] 148):=⟨_,rfl⟩;have ba:Below V.heap.size V W:=by rw[F];exact(bFz.alloc lRz _).alloc (by simp) _
 have kk:C5 W V.heap.size 0 (U O 17) (U O (j:Int)) (U O b) (U Ou v) (S la (N ll) lc):=by rw[F];exact C5.new.past
 have kb:Bk W (V.heap.size+1) [S none 0 0,S none 0 0]:=by have:=Bk.new (w:=V.alloc (Fc #[U O 17,U O (j:Int),U O b,U Ou v,S la (N ll) lc] 204)) (cs:=[S none 0 0,S none 0 0]) (t:=148);rw[F];simpa using this
 have M:W.heap.size=V.heap.size+2:=by rw[F];simp
 have av:=Hm M;obtain⟨⟨c0,c1,c2,c3,c4⟩,cf⟩:=kk;have ax:=Hm kb;have ae:=Hm ba;have H:=h.keep ba;obtain⟨sa,sc,bv,b1,hm,hf,q4,q5,f4,f5⟩:=H.opnS;have q0:=(hm.b0 0 (u:=Yp (some ⟨q,0,none⟩))).1;obtain⟨r0,r1,r2,r3,r4⟩:=k.cells H.mo;obtain⟨fa,fc,ab,ac⟩:=QA H.mo k.tr;obtain⟨gf,ap,A⟩:=ac (by omega);subst ap;rw[ab]at r0;obtain⟨pv,rv,e1,e2,t1,L⟩:=k.tt.get hj ks;have d0:=A _ _ e1 (by omega);have d1:=A _ _ e2 (by omega);obtain⟨ta,tc,Y,y⟩:=t1.has0 H.mo;obtain⟨ra,rc,R,_⟩:=L.has0 H.mo;rw[Y]at d0;rw[R]at d1 L;have bp:(j:Int)<(N x.types:Int):=by omega
 obtain⟨a,aa⟩:∃a,a=(x.types.getD j Qe.z).ps:=⟨_,rfl⟩;obtain⟨B,X⟩:∃B,B=(x.types.getD j Qe.z).rs:=⟨_,rfl⟩;rw[<- aa]at d0 y ak⊢;rw[<- X]at d1 L⊢;have au:=Hm L;have ar:=Hm (iwithI32_c ta tc a ra (N B) rc W.drew y (by omega));clear H k ao A e1 e2 t1 L ab ac Y R hj y aa X;clear h hf hm q4 f4 f5 ba kb cf M;go_enter func242,ntmps242;go_upto_region 1 with fail
 rw[<- F];clear F;go_wp2_with fail
 go_region_law (
  go_simp
  go_at_call 256
  refine ar.o.mono ?_
  rintro e w1 ⟨v1,rfl,own,c⟩;have d:Below W.heap.size W w1:=⟨c.os,c.tape,c.output,c.size,c.block⟩;have ay:=Hm (ae.o.trans (d.mono ae.o.size));have f:=Hm (ax.o.keep d);have bc:=f.o.2.1 0 _ rfl;have bb:=f.o.2.1 1 _ rfl;have a9:=f.o.2.2 0;have a8:=f.o.2.2 1;have aw:Hid (w1.ownsRow (V.heap.size+2) 2 1 v1 (a++[127]).length (I (a++[127]))):=by rw[<- av.o];exact own
  obtain⟨E,C,rfl⟩:=Qh own;clear c d own)
 all_goals
  go_wp2
  refine Qv (λW'=>(W'.cell? ⟨V.heap.size+1,0,none⟩=some (S E (a++[127]).length C)/\W'.cell? ⟨V.heap.size+1,1,none⟩=some (S ra (N B) rc))/\Below V.heap.size V W'/\Own V.heap.size W' [⟨2,1,(a++[127]).length,S E (a++[127]).length C,I (a++[127])⟩]) (by have:=Gk (V:=V) (pv:=S E (a++[127]).length C) (rv:=S ra (N B) rc) ay.o f.o (Own.one (r:=⟨2,1,(a++[127]:List Int).length,S E (a++[127]:List Int).length C,I (a++[127]:List Int)⟩) aw.o) _ rfl;simpa using this) ?_
  rintro W' ⟨⟨u0,u1⟩,h1,h2⟩
  exact bodyPost_ret (v:=Ag #[S E (a++[127]).length C,S ra (N B) rc]) (by simp[results,results242,go_sem,u0,u1]) rfl ⟨_,_,[⟨2,1,(a++[127]).length,S E (a++[127]).length C,I (a++[127])⟩],rfl,h1,h2,(.inr (by simp)),(au.o.sub λr hr=>mR hr)⟩
theorem iit_x:(∀⦃D:Nat⦄ ⦃w0:J⦄ ⦃p q:Nat⦄ ⦃l:Lo⦄ ⦃ks:List Qc⦄ ⦃s:Fn⦄ ⦃V:J⦄ ⦃x:Ctx⦄ ⦃fo go bd:Int⦄ ⦃m:Spc⦄ (j:Nat) (b v:Int) (A:List Int) (C:Option Addr) (B:Nat) (h:ISt D w0 p (Yp (some ⟨q,0,none⟩)) l ks s V) (R:SpR D w0 q x fo go bd m ks) (Y:JS D w0 ks l s.ps s.locs) (hn:∀g∈s.locs,0<=g.n) (ah:N s.ps<=1048577) (ai:N s.locs<=1048577) (hj:(j:Int)<=4294967295),Ec Q 242 #[Yp (some ⟨p,0,none⟩),inV ⟨32,(j:Int),b,v,A⟩ C B] V (ItP D w0 ks V ⟨[],[loc s j]⟩))/\(∀⦃D:Nat⦄ ⦃w0:J⦄ ⦃p q:Nat⦄ ⦃l:Lo⦄ ⦃ks:List Qc⦄ ⦃s:Fn⦄ ⦃V:J⦄ ⦃x:Ctx⦄ ⦃fo go bd:Int⦄ ⦃m:Spc⦄ (j:Nat) (b v:Int) (A:List Int) (C:Option Addr) (B:Nat) (h:ISt D w0 p (Yp (some ⟨q,0,none⟩)) l ks s V) (R:SpR D w0 q x fo go bd m ks) (Y:JS D w0 ks l s.ps s.locs) (hn:∀g∈s.locs,0<=g.n) (ah:N s.ps<=1048577) (ai:N s.locs<=1048577) (hj:(j:Int)<=4294967295),Ec Q 242 #[Yp (some ⟨p,0,none⟩),inV ⟨33,(j:Int),b,v,A⟩ C B] V (ItP D w0 ks V ⟨[loc s j],[]⟩))/\(∀⦃D:Nat⦄ ⦃w0:J⦄ ⦃p q:Nat⦄ ⦃l:Lo⦄ ⦃ks:List Qc⦄ ⦃s:Fn⦄ ⦃V:J⦄ ⦃x:Ctx⦄ ⦃fo go bd:Int⦄ ⦃m:Spc⦄ (j:Nat) (b v:Int) (A:List Int) (C:Option Addr) (B:Nat) (h:ISt D w0 p (Yp (some ⟨q,0,none⟩)) l ks s V) (R:SpR D w0 q x fo go bd m ks) (Y:JS D w0 ks l s.ps s.locs) (hn:∀g∈s.locs,0<=g.n) (ah:N s.ps<=1048577) (ai:N s.locs<=1048577) (hj:(j:Int)<=4294967295),Ec Q 242 #[Yp (some ⟨p,0,none⟩),inV ⟨34,(j:Int),b,v,A⟩ C B] V (ItP D w0 ks V ⟨[loc s j],[loc s j]⟩)):=by
 refine⟨?c0,?c1,?c2⟩;case' c0=>have c:=0
 case' c1=>have a:=0
 case' c2=>have bj:=0
 all_goals
  intro D w0 p q l ks s V x fo go bd m j b v A C B h R Y hn ah ai hj
  first|(replace c:=c;obtain⟨W,hW⟩:∃W,W=(V.alloc (Fc #[U O 32,U O (j:Int),U O b,U Ou v,S C (N A) B] 204)).alloc (Fc #[S none 0 0,S none 0 0] 148):=⟨_,rfl⟩)|(replace a:=a;obtain⟨W,hW⟩:∃W,W=(V.alloc (Fc #[U O 33,U O (j:Int),U O b,U Ou v,S C (N A) B] 204)).alloc (Fc #[S none 0 0,S none 0 0] 148):=⟨_,rfl⟩)|(obtain⟨W,hW⟩:∃W,W=(V.alloc (Fc #[U O 34,U O (j:Int),U O b,U Ou v,S C (N A) B] 204)).alloc (Fc #[S none 0 0,S none 0 0] 148):=⟨_,rfl⟩)
  have ba:Below V.heap.size V W:=by rw[hW];exact(bFz.alloc lRz _).alloc (by simp) _
  first|(replace c:=c;have kk:C5 W V.heap.size 0 (U O 32) (U O (j:Int)) (U O b) (U Ou v) (S C (N A) B):=by rw[hW];exact C5.new.past)|(replace a:=a;have kk:C5 W V.heap.size 0 (U O 33) (U O (j:Int)) (U O b) (U Ou v) (S C (N A) B):=by rw[hW];exact C5.new.past)|(have kk:C5 W V.heap.size 0 (U O 34) (U O (j:Int)) (U O b) (U Ou v) (S C (N A) B):=by rw[hW];exact C5.new.past)
  have kb:Bk W (V.heap.size+1) [S none 0 0,S none 0 0]:=by
   first|(replace c:=c;have:=Bk.new (w:=V.alloc (Fc #[U O 32,U O (j:Int),U O b,U Ou v,S C (N A) B] 204)) (cs:=[S none 0 0,S none 0 0]) (t:=148))|(replace a:=a;have:=Bk.new (w:=V.alloc (Fc #[U O 33,U O (j:Int),U O b,U Ou v,S C (N A) B] 204)) (cs:=[S none 0 0,S none 0 0]) (t:=148))|(have:=Bk.new (w:=V.alloc (Fc #[U O 34,U O (j:Int),U O b,U Ou v,S C (N A) B] 204)) (cs:=[S none 0 0,S none 0 0]) (t:=148))
   rw[hW];simpa using this
  have aq:W.heap.size=V.heap.size+2:=by rw[hW];simp
  have M:=Hm aq;obtain⟨⟨c0,c1,c2,c3,c4⟩,cf⟩:=kk;have a8:=Hm kb;have ay:=Hm ba;have hI:=h.keep ba;obtain⟨sa,sc,bv,bz,hm,hf,q4,q5,f4,f5⟩:=hI.opnS;have q1:=(hm.b0 1 (u:=l.pv)).1;have q2:=(hm.b0 2 (u:=l.gv)).1;have q3:=(hm.b0 3 (u:=l.ev)).1;obtain⟨r0,r1,r2,r3,r4⟩:=R.cells hI.mo;have aw:(if(j:Int)<N s.ps then s.ps.getD (j:Int).toNat 0 else XQ s.locs ((j:Int)-N s.ps))=loc s j:=rfl;have af:=Hm (ifind_c (V:=W.drew) (j:Int) (hI.mo.keep ⟨rfl,rfl,rfl,lRz,λ_ _=>rfl⟩) Y (by omega) hj hn ah ai);rw[aw]at af;obtain⟨lv,av⟩:∃lv,lv=loc s j:=⟨_,rfl⟩;rw[<- av]at af⊢;clear av aw;generalize decide ((j:Int)<N s.ps+QL s.locs)=db at af;obtain⟨bp,X⟩:∃z,z=l.pv:=⟨_,rfl⟩;obtain⟨br,aa⟩:∃z,z=l.gv:=⟨_,rfl⟩;obtain⟨bu,ab⟩:∃z,z=l.ev:=⟨_,rfl⟩;rw[<- X,<- aa,<- ab]at af;rw[<- X]at q1;rw[<- aa]at q2;rw[<- ab]at q3;clear hI R Y X aa ab;clear h hf hm q4 f4 f5 ba kb cf aq
  go_enter func242,ntmps242
  go_upto_region 1 with fail
  rw[<- hW];clear hW
  go_wp2_with fail
  go_region_law (
   go_simp
   go_at_call 250
   refine af.o.mono ?_
   rintro e w1 ⟨rfl,L⟩;have y:Below W.heap.size W w1:=⟨L.os,L.tape,L.output,L.size,L.block⟩
   first|(replace c:=c;have d0:w1.cell? ⟨V.heap.size,0,none⟩=some (U O 32):=(y.cell (p:=⟨V.heap.size,0,none⟩) (by have:=M.o;show V.heap.size<_;omega)).trans c0)|(replace a:=a;have d0:w1.cell? ⟨V.heap.size,0,none⟩=some (U O 33):=(y.cell (p:=⟨V.heap.size,0,none⟩) (by have:=M.o;show V.heap.size<_;omega)).trans c0)|(have d0:w1.cell? ⟨V.heap.size,0,none⟩=some (U O 34):=(y.cell (p:=⟨V.heap.size,0,none⟩) (by have:=M.o;show V.heap.size<_;omega)).trans c0)
   have ap:=Hm y;clear L y)
  all_goals
   first|(replace c:=c;have ak:=Hm (ivar_32 lv w1))|(replace a:=a;have ak:=Hm (ivar_33 lv w1))|(have ak:=Hm (ivar_34 lv w1))
   have ad:Hid (W.heap.size<=w1.heap.size):=ap.o.size
   go_wp2_with fail
   refine ak.o.mono ?_
   rintro e w2 ⟨pv,rv,rfl,H,ax⟩;have ac:Below W.heap.size W w2:=ap.o.trans (ax.mono ap.o.size);have ao:=Hm (ay.o.trans (ac.mono ay.o.size));have F:=Hm (a8.o.keep ac);have bh:=F.o.2.1 0 _ rfl;have bg:=F.o.2.1 1 _ rfl;have bf:=F.o.2.2 0;have bc:=F.o.2.2 1;obtain⟨r,k,au⟩:=Qh (H.all _ (mS));obtain⟨f,d,ar⟩:=Qh (H.all _ (mC mS))
   dsimp only at au ar
   subst au ar
   first|(replace c:=c;have ae:Hid (Own (V.heap.size+2) w2 [⟨2,1,([]:List Int).length,S r ([]:List Int).length k,I []⟩,⟨2,1,([lv]:List Int).length,S f ([lv]:List Int).length d,I [lv]⟩]):=H.mono (by have:=M.o;have:=ad.o;omega))|(replace a:=a;have ae:Hid (Own (V.heap.size+2) w2 [⟨2,1,([lv]:List Int).length,S r ([lv]:List Int).length k,I [lv]⟩,⟨2,1,([]:List Int).length,S f ([]:List Int).length d,I []⟩]):=H.mono (by have:=M.o;have:=ad.o;omega))|(have ae:Hid (Own (V.heap.size+2) w2 [⟨2,1,([lv]:List Int).length,S r ([lv]:List Int).length k,I [lv]⟩,⟨2,1,([lv]:List Int).length,S f ([lv]:List Int).length d,I [lv]⟩]):=H.mono (by have:=M.o;have:=ad.o;omega))
   clear ax ac H
   go_wp2
   first|(replace c:=c;refine Qv (λE=>(E.cell? ⟨V.heap.size+1,0,none⟩=some (S r ([]:List Int).length k)/\E.cell? ⟨V.heap.size+1,1,none⟩=some (S f ([lv]:List Int).length d))/\Below V.heap.size V E/\Own V.heap.size E [⟨2,1,([]:List Int).length,S r ([]:List Int).length k,I []⟩,⟨2,1,([lv]:List Int).length,S f ([lv]:List Int).length d,I [lv]⟩]) (by have:=Gk (V:=V) (pv:=S r ([]:List Int).length k) (rv:=S f ([lv]:List Int).length d) ao.o F.o ae.o _ rfl;simpa using this) ?_)|(replace a:=a;refine Qv (λE=>(E.cell? ⟨V.heap.size+1,0,none⟩=some (S r ([lv]:List Int).length k)/\E.cell? ⟨V.heap.size+1,1,none⟩=some (S f ([]:List Int).length d))/\Below V.heap.size V E/\Own V.heap.size E [⟨2,1,([lv]:List Int).length,S r ([lv]:List Int).length k,I [lv]⟩,⟨2,1,([]:List Int).length,S f ([]:List Int).length d,I []⟩]) (by have:=Gk (V:=V) (pv:=S r ([lv]:List Int).length k) (rv:=S f ([]:List Int).length d) ao.o F.o ae.o _ rfl;simpa using this) ?_)|(refine Qv (λE=>(E.cell? ⟨V.heap.size+1,0,none⟩=some (S r ([lv]:List Int).length k)/\E.cell? ⟨V.heap.size+1,1,none⟩=some (S f ([lv]:List Int).length d))/\Below V.heap.size V E/\Own V.heap.size E [⟨2,1,([lv]:List Int).length,S r ([lv]:List Int).length k,I [lv]⟩,⟨2,1,([lv]:List Int).length,S f ([lv]:List Int).length d,I [lv]⟩]) (by have:=Gk (V:=V) (pv:=S r ([lv]:List Int).length k) (rv:=S f ([lv]:List Int).length d) ao.o F.o ae.o _ rfl;simpa using this) ?_)
   rintro E ⟨⟨u0,u1⟩,h1,h2⟩
   first|(replace c:=c;exact bodyPost_ret (v:=Ag #[S r ([]:List Int).length k,S f ([lv]:List Int).length d]) (by simp[results,results242,go_sem,u0,u1]) rfl ⟨_,_,[⟨2,1,([]:List Int).length,S r ([]:List Int).length k,I []⟩,⟨2,1,([lv]:List Int).length,S f ([lv]:List Int).length d,I [lv]⟩],rfl,h1,h2,(.inr (by simp)),(.inr (by simp))⟩)|(replace a:=a;exact bodyPost_ret (v:=Ag #[S r ([lv]:List Int).length k,S f ([]:List Int).length d]) (by simp[results,results242,go_sem,u0,u1]) rfl ⟨_,_,[⟨2,1,([lv]:List Int).length,S r ([lv]:List Int).length k,I [lv]⟩,⟨2,1,([]:List Int).length,S f ([]:List Int).length d,I []⟩],rfl,h1,h2,(.inr (by simp)),(.inr (by simp))⟩)|(exact bodyPost_ret (v:=Ag #[S r ([lv]:List Int).length k,S f ([lv]:List Int).length d]) (by simp[results,results242,go_sem,u0,u1]) rfl ⟨_,_,[⟨2,1,([lv]:List Int).length,S r ([lv]:List Int).length k,I [lv]⟩,⟨2,1,([lv]:List Int).length,S f ([lv]:List Int).length d,I [lv]⟩],rfl,h1,h2,(.inr (by simp)),(.inr (by simp))⟩)
def iit_32:=iit_x.1
def iit_33:=iit_x.2.1
def iit_34:=iit_x.2.2
theorem iit_35 (j:Nat)(b v:Int)(ll:List Int)(la:Option Addr)(lc:Nat)(h:ISt D w0 p (Yp (some ⟨q,0,none⟩)) l ks s V)(f:SpR D w0 q x fo go bd m ks)(ag:JS D w0 ks l s.ps s.locs)(hn:∀g∈s.locs,0<=g.n)(a6:N s.ps<=1048577)(a8:N s.locs<=1048577)(hj:j<N x.globals):Ec Q 242 #[Yp (some ⟨p,0,none⟩),inV ⟨35,(j:Int),b,v,ll⟩ la lc] V (ItP D w0 ks V ⟨[],[(Q3 x j).ty]⟩):=by
 obtain⟨W,B⟩:∃W,W=(V.alloc (Fc #[U O 35,U O (j:Int),U O b,U Ou v,S la (N ll) lc] 204)).alloc (Fc #[S none 0 0,S none 0 0] 148):=⟨_,rfl⟩;have ba:Below V.heap.size V W:=by rw[B];exact(bFz.alloc lRz _).alloc (by simp) _
 have kk:C5 W V.heap.size 0 (U O 35) (U O (j:Int)) (U O b) (U Ou v) (S la (N ll) lc):=by rw[B];exact C5.new.past
 have kb:Bk W (V.heap.size+1) [S none 0 0,S none 0 0]:=by have:=Bk.new (w:=V.alloc (Fc #[U O 35,U O (j:Int),U O b,U Ou v,S la (N ll) lc] 204)) (cs:=[S none 0 0,S none 0 0]) (t:=148);rw[B];simpa using this
 have C:W.heap.size=V.heap.size+2:=by rw[B];simp
 have ao:=Hm C;obtain⟨⟨c0,c1,c2,c3,c4⟩,cf⟩:=kk;have aq:=Hm kb;have ab:=Hm ba;have hI:=h.keep ba;obtain⟨sa,sc,bv,bl,hm,hf,q4,q5,f4,f5⟩:=hI.opnS;have q0:=(hm.b0 0 (u:=Yp (some ⟨q,0,none⟩))).1;obtain⟨r0,r1,r2,r3,r4⟩:=f.cells hI.mo;obtain⟨fa,fc,M,R⟩:=QA hI.mo f.gr;obtain⟨gf,ah,X⟩:=R (by omega);subst ah;rw[M]at r4;have L:x.globals[j]?=some (Q3 x j):=by rw[Q3,Hx];simp[Kg,hj]
 have e1:=(Gl L).1;rw[<- f.gt]at e1;have d0:=X _ _ e1 (by omega);obtain⟨lv,H⟩:∃lv,lv=(Q3 x j).ty:=⟨_,rfl⟩;rw[<- H]at d0⊢;have a7:(j:Int)<(N x.globals:Int):=by omega
 have ak:=Hm (ivar_35 lv W.drew);have aa:Hid (W.heap.size<=W.drew.heap.size):=lRz;clear hI f ag X M R L e1 H hj;clear h hf hm q4 f4 f5 ba kb cf C;go_enter func242,ntmps242;go_upto_region 1 with fail
 rw[<- B];clear B;go_wp2_with fail
 go_region_law (
  go_simp
  go_at_call 257
  refine ak.o.mono ?_
  rintro e w2 ⟨pv,rv,rfl,k,a⟩;have c:Below W.heap.size W w2:=⟨a.os,a.tape,a.output,a.size,a.block⟩;have ar:=Hm (ab.o.trans (c.mono ab.o.size));have d:=Hm (aq.o.keep c);have a1:=d.o.2.1 0 _ rfl;have a0:=d.o.2.1 1 _ rfl;have az:=d.o.2.2 0;have ay:=d.o.2.2 1;obtain⟨A,z,F⟩:=Qh (k.all _ (mS));obtain⟨y,r,E⟩:=Qh (k.all _ (mC mS))
  dsimp only at F E
  subst F E;have ap:Hid (Own (V.heap.size+2) w2 [⟨2,1,([]:List Int).length,S A ([]:List Int).length z,I []⟩,⟨2,1,([lv]:List Int).length,S y ([lv]:List Int).length r,I [lv]⟩]):=k.mono (by have:=ao.o;have:=aa.o;omega);clear a c k)
 all_goals
  go_wp2
  refine Qv (λY=>(Y.cell? ⟨V.heap.size+1,0,none⟩=some (S A ([]:List Int).length z)/\Y.cell? ⟨V.heap.size+1,1,none⟩=some (S y ([lv]:List Int).length r))/\Below V.heap.size V Y/\Own V.heap.size Y [⟨2,1,([]:List Int).length,S A ([]:List Int).length z,I []⟩,⟨2,1,([lv]:List Int).length,S y ([lv]:List Int).length r,I [lv]⟩]) (by have:=Gk (V:=V) (pv:=S A ([]:List Int).length z) (rv:=S y ([lv]:List Int).length r) ar.o d.o ap.o _ rfl;simpa using this) ?_
  rintro Y ⟨⟨u0,u1⟩,h1,h2⟩
  exact bodyPost_ret (v:=Ag #[S A ([]:List Int).length z,S y ([lv]:List Int).length r]) (by simp[results,results242,go_sem,u0,u1]) rfl ⟨_,_,[⟨2,1,([]:List Int).length,S A ([]:List Int).length z,I []⟩,⟨2,1,([lv]:List Int).length,S y ([lv]:List Int).length r,I [lv]⟩],rfl,h1,h2,(.inr (by simp)),(.inr (by simp))⟩
theorem iit_36 (j:Nat)(b v:Int)(ll:List Int)(la:Option Addr)(lc:Nat)(h:ISt D w0 p (Yp (some ⟨q,0,none⟩)) l ks s V)(f:SpR D w0 q x fo go bd m ks)(ag:JS D w0 ks l s.ps s.locs)(hn:∀g∈s.locs,0<=g.n)(a6:N s.ps<=1048577)(a8:N s.locs<=1048577)(hj:j<N x.globals):Ec Q 242 #[Yp (some ⟨p,0,none⟩),inV ⟨36,(j:Int),b,v,ll⟩ la lc] V (ItP D w0 ks V ⟨[(Q3 x j).ty],[]⟩):=by
 obtain⟨W,B⟩:∃W,W=(V.alloc (Fc #[U O 36,U O (j:Int),U O b,U Ou v,S la (N ll) lc] 204)).alloc (Fc #[S none 0 0,S none 0 0] 148):=⟨_,rfl⟩;have ba:Below V.heap.size V W:=by rw[B];exact(bFz.alloc lRz _).alloc (by simp) _
 have kk:C5 W V.heap.size 0 (U O 36) (U O (j:Int)) (U O b) (U Ou v) (S la (N ll) lc):=by rw[B];exact C5.new.past
 have kb:Bk W (V.heap.size+1) [S none 0 0,S none 0 0]:=by have:=Bk.new (w:=V.alloc (Fc #[U O 36,U O (j:Int),U O b,U Ou v,S la (N ll) lc] 204)) (cs:=[S none 0 0,S none 0 0]) (t:=148);rw[B];simpa using this
 have C:W.heap.size=V.heap.size+2:=by rw[B];simp
 have ao:=Hm C;obtain⟨⟨c0,c1,c2,c3,c4⟩,cf⟩:=kk;have aq:=Hm kb;have ab:=Hm ba;have hI:=h.keep ba;obtain⟨sa,sc,bv,bl,hm,hf,q4,q5,f4,f5⟩:=hI.opnS;have q0:=(hm.b0 0 (u:=Yp (some ⟨q,0,none⟩))).1;obtain⟨r0,r1,r2,r3,r4⟩:=f.cells hI.mo;obtain⟨fa,fc,M,R⟩:=QA hI.mo f.gr;obtain⟨gf,ah,X⟩:=R (by omega);subst ah;rw[M]at r4;have L:x.globals[j]?=some (Q3 x j):=by rw[Q3,Hx];simp[Kg,hj]
 have e1:=(Gl L).1;rw[<- f.gt]at e1;have d0:=X _ _ e1 (by omega);obtain⟨lv,H⟩:∃lv,lv=(Q3 x j).ty:=⟨_,rfl⟩;rw[<- H]at d0⊢;have a7:(j:Int)<(N x.globals:Int):=by omega
 have ak:=Hm (ivar_36 lv W.drew);have aa:Hid (W.heap.size<=W.drew.heap.size):=lRz;clear hI f ag X M R L e1 H hj;clear h hf hm q4 f4 f5 ba kb cf C;go_enter func242,ntmps242;go_upto_region 1 with fail
 rw[<- B];clear B;go_wp2_with fail
 go_region_law (
  go_simp
  go_at_call 257
  refine ak.o.mono ?_
  rintro e w2 ⟨pv,rv,rfl,k,a⟩;have c:Below W.heap.size W w2:=⟨a.os,a.tape,a.output,a.size,a.block⟩;have ar:=Hm (ab.o.trans (c.mono ab.o.size));have d:=Hm (aq.o.keep c);have a1:=d.o.2.1 0 _ rfl;have a0:=d.o.2.1 1 _ rfl;have az:=d.o.2.2 0;have ay:=d.o.2.2 1;obtain⟨A,z,F⟩:=Qh (k.all _ (mS));obtain⟨y,r,E⟩:=Qh (k.all _ (mC mS))
  dsimp only at F E
  subst F E;have ap:Hid (Own (V.heap.size+2) w2 [⟨2,1,([lv]:List Int).length,S A ([lv]:List Int).length z,I [lv]⟩,⟨2,1,([]:List Int).length,S y ([]:List Int).length r,I []⟩]):=k.mono (by have:=ao.o;have:=aa.o;omega);clear a c k)
 all_goals
  go_wp2
  refine Qv (λY=>(Y.cell? ⟨V.heap.size+1,0,none⟩=some (S A ([lv]:List Int).length z)/\Y.cell? ⟨V.heap.size+1,1,none⟩=some (S y ([]:List Int).length r))/\Below V.heap.size V Y/\Own V.heap.size Y [⟨2,1,([lv]:List Int).length,S A ([lv]:List Int).length z,I [lv]⟩,⟨2,1,([]:List Int).length,S y ([]:List Int).length r,I []⟩]) (by have:=Gk (V:=V) (pv:=S A ([lv]:List Int).length z) (rv:=S y ([]:List Int).length r) ar.o d.o ap.o _ rfl;simpa using this) ?_
  rintro Y ⟨⟨u0,u1⟩,h1,h2⟩
  exact bodyPost_ret (v:=Ag #[S A ([lv]:List Int).length z,S y ([]:List Int).length r]) (by simp[results,results242,go_sem,u0,u1]) rfl ⟨_,_,[⟨2,1,([lv]:List Int).length,S A ([lv]:List Int).length z,I [lv]⟩,⟨2,1,([]:List Int).length,S y ([]:List Int).length r,I []⟩],rfl,h1,h2,(.inr (by simp)),(.inr (by simp))⟩
theorem finish_spec (h:Qw s=.ok (b,s'))(i:Inv s):b=top s/\s'.blocks=s.blocks.dropLast/\s'.ps=s.ps/\s'.locs=s.locs/\N s'.stack=b.height/\N s'.stack<=N s.stack:=by
 unfold Qw at h;cases hp:Xm s (top s).results with
 |error f=>rw[hp]at h;cases h
 |ok s1 =>
  rw[hp]at h
  simp only[Except.bind]at h
  obtain⟨j,g,d,c,k⟩:=Jt hp i
  split at h
  · cases h
  . rename_i a
    cases h
    exact⟨rfl,by simp[j],g,d,by simpa using a,c⟩
theorem XH (a:Int)(w:J):Ec Q 233 #[U O a] w λe w'=>∃v,e=Z v/\w'.ownsRow w.heap.size 2 1 v (Qi a).length (I (Qi a))/\Below w.heap.size w w':=by
 by_cases h:a=64
 . subst h;go_enter func233,ntmps233;go_wp2;go_ret;exact⟨_,rfl,by simpa[Qi]using Hk w w.heap.size 2 1,bFz⟩
 have k:(a==64)=false:=by simpa using h
 have e:Qi a=[a]:=by simp[Qi,h]
 rw[e];clear h e;go_enter func233,ntmps233;go_wp2;go_ret;exact⟨_,rfl,World.ownsRow_lit (base:=w.heap.size) (e:=2) (size:=1) w #[U O a] 1 lRz (by unfold maxLen;omega) rfl,bFz.alloc lRz _⟩
theorem ibeginIf_c (v:Vu)(xs:List Int)(h:ISt D w0 p sp l ks s V)(t:Ty D w0 ks v xs)(j:s.blocks≠[])(c:N s.blocks<=1048577)(d:N s.stack<=1099511627776):Ec Q 234 #[Yp (some ⟨p,0,none⟩),v] V (FnP D w0 p sp l ks ((Q4 s 127).map (QI · 4 xs))):=by
 obtain⟨z,y,rfl,_⟩:=t.st h;have m:=Hm (ipop_c 127 h j c d);have C:=Hm t;clear h t;go_enter func234,ntmps234;go_wp2_with fail
 refine m.o.mono ?_;rintro e H ⟨g,n⟩;rcases g.cases with ⟨f,a,rfl,A⟩|⟨u,s',a,rfl,q⟩
 . (have b:Hid ((Q4 s 127).map (QI · 4 xs)=.error f):=by show(Q4 s 127).map _=_;rw[Q4,a];rfl);clear g a m n;go_wp2;go_ret;exact FnP.err b.o A
 have b:Hid ((Q4 s 127).map (QI · 4 xs)=.ok (QI s' 4 xs)):=by show(Q4 s 127).map _=_;rw[Q4,a];rfl
 have r:=(Jo a).1;have B:=JV a;have E:=Hm (ibegin_c 4 (S z (N xs) y) xs q C.o (by rw[r];exact c) (by omega));clear g a m n q r B;go_wp2_with (go_at_call 228;refine E.o.mono ?_;rintro e F ⟨rfl,k⟩)
 go_ret;exact FnP.ok b.o k
theorem iotherwise_c (h:ISt D w0 p sp l ks s V)(i:Inv s)(k:s.blocks≠[])(m:N s.blocks<=1048577)(j:N s.stack<=1099511627776)(g:∀b∈s.blocks,N b.results<=1048577):Ec Q 235 #[Yp (some ⟨p,0,none⟩)] V (FnP D w0 p sp l ks ((Qw s).map λp=>QI p.2 5 p.1.results)):=by
 have q:=Hm (ifinish_c h i k m j g);have A:=Hm i;clear h;go_enter func235,ntmps235;go_wp2_with fail
 refine q.o.mono ?_;rintro e w1 (⟨f,hr,rfl,hb⟩|⟨b,s',tv,rv,hr,rfl,hI,t1,t2⟩)
 . (have a:Hid ((Qw s).map (λp=>QI p.2 5 p.1.results)=.error f):=by show(Qw s).map _=_;rw[hr];rfl);have r:=Hm hb;clear hr q hb;go_wp2;go_ret;exact FnP.err a.o (r.o.keep (bFz.alloc lRz _))
 have a:Hid ((Qw s).map (λp=>QI p.2 5 p.1.results)=.ok (QI s' 5 b.results)):=by show(Qw s).map _=_;rw[hr];rfl
 obtain⟨H,v,F,E,C,B⟩:=finish_spec hr A.o;obtain⟨u,t,rfl,_⟩:=t2.st hI;obtain⟨z,y,rfl,_⟩:=t1.st hI;have c:N s'.blocks<=1048577:=by rw[v];simp;omega
 have d:=hI.bxn #[S z (N b.takes) y,U O b.height,U O b.op,S u (N b.results) t,G b.dead] 350 5 rfl;have r:=Hm (ibegin_c 5 (S u (N b.results) t) b.results d (t2.cons _) c (by omega));clear hr q hI H v F E C B t1 t2 d;go_wp2_with (go_at_call 228;refine r.o.mono ?_;rintro e I ⟨rfl,n⟩)
 go_ret;exact FnP.ok a.o (n.un rfl)
theorem iend_c (h:ISt D w0 p sp l ks s V)(i:Inv s)(n:s.blocks≠[])(B:N s.blocks<=1048577)(z:N s.stack<=1099511627776)(j:∀b∈s.blocks,N b.results<=1048577):Ec Q 236 #[Yp (some ⟨p,0,none⟩)] V (FnP D w0 p sp l ks ((Qw s).bind λp=>if p.1.op=4/\p.1.results≠[]then .error 6 else .ok (push p.2 p.1.results))):=by
 have r:=Hm (ifinish_c h i n B z j);have hi:=Hm i;have L:=Hm j;clear h j;go_enter func236,ntmps236;go_wp2_with fail
 refine r.o.mono ?_;rintro e w1 (⟨f,hr,rfl,hb⟩|⟨b,s',tv,rv,hr,rfl,hI,t1,t2⟩)
 . (have a:Hid ((Qw s).bind (λp=>if p.1.op=4/\p.1.results≠[]then .error 6 else .ok (push p.2 p.1.results))=.error f):=by show(Qw s).bind _=_;rw[hr];rfl);have HB:=Hm hb;clear hr r hb;go_wp2;go_ret;exact FnP.err a.o (HB.o.keep (bFz.alloc lRz _))
 have c:(Qw s).bind (λp=>if p.1.op=4/\p.1.results≠[]then .error 6 else .ok (push p.2 p.1.results))=if b.op=4/\b.results≠[]then .error 6 else .ok (push s' b.results):=by rw[hr];rfl
 obtain⟨u,I,H,F,E,C⟩:=finish_spec hr hi.o;have A:N b.results<=1048577:=by refine L.o b ?_;obtain⟨bs,e⟩:=JL n;rw[u,e];exact mR (List.mem_singleton.2 rfl)
 obtain⟨y,v,rfl,_⟩:=t2.st hI;obtain⟨X,R,rfl,_⟩:=t1.st hI;have d:=hI.bxn #[S X (N b.takes) R,U O b.height,U O b.op,S y (N b.results) v,G b.dead] 350 5 rfl;have M:=Hm d.mo.tail;obtain⟨ab,aa,e,t⟩:=Ty.st (t2.cons (box 350 5 w1.heap.size [S X (N b.takes) R,U O b.height,U O b.op,S y (N b.results) v,G b.dead])) d;cases e;have q:=Hm (ipush_c y v b.results d t A (by omega));by_cases g:b.op=4
 . (have k5:(b.op==4)=true:=by simp[g]);by_cases m:b.results=[]
   . (have a:Hid ((Qw s).bind (λp=>if p.1.op=4/\p.1.results≠[]then .error 6 else .ok (push p.2 p.1.results))=.ok (push s' b.results)):=by show(Qw s).bind _=_;rw[c,if_neg (by simp[m])]);(have k7:¬((0:Int)<(N b.results:Int)):=by rw[m];simp);clear hr r hI u I H F E C t1 t2 d t c g m;(go_wp2_with (go_at_call 254;refine q.o.mono ?_;rintro e Y ⟨rfl,k⟩));go_ret;exact FnP.ok a.o (k.un rfl)
   (have a:Hid ((Qw s).bind (λp=>if p.1.op=4/\p.1.results≠[]then .error 6 else .ok (push p.2 p.1.results))=.error 6):=by show(Qw s).bind _=_;rw[c,if_pos ⟨g,m⟩]);(have k7:((0:Int)<(N b.results:Int)):=by have:=List.length_pos_iff.2 m;omega);clear hr r hI u I H F E C t1 t2 d t c g m;go_wp2;go_ret;exact FnP.err a.o M.o
 have k5:(b.op==4)=false:=by simp[g]
 have a:Hid ((Qw s).bind (λp=>if p.1.op=4/\p.1.results≠[]then .error 6 else .ok (push p.2 p.1.results))=.ok (push s' b.results)):=by show(Qw s).bind _=_;rw[c,if_neg (by simp[g])]
 clear hr r hI u I H F E C t1 t2 d t c g;go_wp2_with (go_at_call 254;refine q.o.mono ?_;rintro e Y ⟨rfl,k⟩)
 go_ret;exact FnP.ok a.o (k.un rfl)
theorem ibt1_c {E C:Nat}{q:Option Addr}{v:Nat}{b:List Int}(j:Nat)(h:ISt D w0 p sp l ks s V)(c2:V.cell? ⟨E,0,none⟩=some (Yp (some ⟨p,0,none⟩)))(Y:V.cell? ⟨C,0,none⟩=some (S q (N b) v))(z:Has V q b)(A:j<N s.blocks)(M:N s.blocks<=1048577)(I:N b<=1048577)(r:(label s j).takes.length<=1048577):Ec Q 255 #[U O (j:Int),Yp (some ⟨E,0,none⟩),Yp (some ⟨C,0,none⟩)] V λe w'=>e=Z (G (decide ((label s j).takes=b)))/\∃k,w'=V.drewN k:=by
 obtain⟨g,k,c,X,rv,L,R,B,_,y,_⟩:=h.lab A;obtain⟨H,F,f,a⟩:=y.st h;rw[f]at B;have t:=Hm (λn=>(ilabel_c p g k c (j:Int) (V.drewN n) R (by omega) (by omega) (by omega)).mono (R':=λe w'=>e=Z (Yp (some ⟨g,(k-j)*5,none⟩))/\∃m,w'=V.drewN m) λe w' ⟨h1,m,h2⟩=>⟨by simpa using h1,n+m,by rw[h2];exact Xw _ _ _⟩);obtain⟨xs,d⟩:∃xs,xs=(label s j).takes:=⟨_,rfl⟩;rw[<- d]at B a r⊢;have u:=Hm (λn=>(ieq_c H q F v xs b (V.drewN n) (by omega) (by omega) a z).mono (R':=λe w'=>e=Z (G (decide (xs=b)))/\∃m,w'=V.drewN m) λe w' ⟨h1,m,h2⟩=>⟨h1,n+m,by rw[h2];exact Xw _ _ _⟩);clear h z a f y L d A;go_enter func255,ntmps255;go_wp2_with fail
 go_quiet (first|(with_reducible exact t.o _)|(with_reducible exact u.o _))
 go_wp2;go_ret;exact⟨rfl,_,rfl⟩
theorem ibrTable_c (j:Nat)(b v:Int)(t:List Int)(la:Option Addr)(lc:Nat)(h:ISt D w0 p sp l ks s V)(i:Inv s)(hj:j<N s.blocks)(ao:N s.blocks<=1048577)(a1:N s.stack<=1099511627776)(a0:∀b∈s.blocks,N b.takes<=1048577)(tL:Ty D w0 [] (S la (N t) lc) t)(b6:N t<=1048577)(a9:∀i∈t,0<=i/\i<N s.blocks):Ec Q 238 #[Yp (some ⟨p,0,none⟩),inV ⟨14,(j:Int),b,v,t⟩ la lc] V (FnP D w0 p sp l ks ((Q4 s 127).bind λs'=>if t.all (λi=>decide ((label s' i).takes=(label s' j).takes))then JB s' (label s' j).takes else .error 6)):=by
 have aj:s.blocks≠[]:=λe=>by rw[e]at hj;simp at hj
 obtain⟨M,hM⟩:∃M,M=((Q4 s 127).bind λs'=>if t.all (λi=>decide ((label s' i).takes=(label s' j).takes))then JB s' (label s' j).takes else .error 6):=⟨_,rfl⟩;rw[<- hM];have F:=(h.bxn #[Yp (some ⟨p,0,none⟩)] 327 1 rfl).bxn #[U O 14,U O (j:Int),U O b,U Ou v,S la (N t) lc] 204 5 rfl;obtain⟨B2,H⟩:∃B2,B2=V.heap.size:=⟨_,rfl⟩;obtain⟨W,hW⟩:∃W,W=(V.alloc (Fc #[Yp (some ⟨p,0,none⟩)] 327)).alloc (Fc #[U O 14,U O (j:Int),U O b,U Ou v,S la (N t) lc] 204):=⟨_,rfl⟩;have ah:(V.alloc (Fc #[Yp (some ⟨p,0,none⟩)] 327)).heap.size=B2+1:=by rw[H];simp
 rw[<- hW,ah,<- H]at F;have HP:=Hm (ipop_c 127 F aj ao a1);have hi:=Hm i;have bc:=Hm tL;have x0:=(F.mo.tail.b0 0 (u:=Yp (some ⟨p,0,none⟩))).1;have bw:p<V.heap.size:=by obtain⟨sv,bv,cb,h1,h2⟩:=h;exact(h1.lt (T:=337) (sz:=6) (n:=1) (g:=p) (c:=1) (cs:=ib sp l sv bv) (by simp)).2
 clear h F tL;go_enter func238,ntmps238;go_upto_region 1 with fail
 rw[<- hW,<- H];have HM:=Hm hM;clear hW H hM ah;go_wp2_with fail
 refine HP.o.mono ?_;rintro e w1 ⟨hp,hg⟩;rcases hp.cases with ⟨f,q,rfl,hb⟩|⟨u,s1,q,rfl,L⟩
 . (have A:Hid (M=.error f):=by show M=_;rw[HM.o,Q4,q];rfl);clear hp q HP hg;go_wp2;go_ret;exact FnP.err A.o hb.tail.tail
 have d:M=if t.all (λi=>decide ((label s1 i).takes=(label s1 j).takes))then JB s1 (label s1 j).takes else .error 6:=by rw[HM.o,Q4,q];rfl
 have b1:=(Jo q).1;have b2:=JV q;have i1:=XX q hi.o;have Y:j<N s1.blocks:=by rw[b1];exact hj
 have I:N s1.blocks<=1048577:=by rw[b1];exact ao
 have B:∀n:Nat,n<N s1.blocks->(label s1 n).takes.length<=1048577:=λn hn=>by refine a0 _ ?_;rw[<- b1,label,Hx,Kg,Kj (by omega)];simp
 obtain⟨g,k,c,tv,rv,hk,d5,dt,_,t1,_⟩:=L.lab Y;obtain⟨X,R,ag,C⟩:=t1.st L;rw[ag]at dt t1;have av:=Hm (ilabel_c p g k c (j:Int) w1 d5 (by omega) (by omega) (by omega));simp only[Hx]at av;have a2:=(L.mo.tail.b0 0 (u:=Yp (some ⟨p,0,none⟩))).1;have a3:=(L.mo.b0 1 (u:=U O (j:Int))).1;have aw:=Hm L;have ar:=Hm t1;have au:=Hm d;clear hp q HP hg L ag t1 C hk d5 d HM;go_wp2_with fail
 refine av.o.mono ?_;rintro e w2 ⟨rfl,n,rfl⟩;obtain⟨V2,E⟩:∃V2,V2=w1.drewN n:=⟨_,rfl⟩;have b9:V2.cell? ⟨g,(k-j)*5,none⟩=some (S X (label s1 j).takes.length R):=by rw[E];exact dt
 have bj:=Hm (aw.o.keep (W:=V2) (by rw[E];exact⟨rfl,rfl,rfl,lRz,λ_ _=>rfl⟩));rw[<- E];clear E dt a2 a3 aw;go_upto_region 5 with fail
 obtain⟨W3,aa⟩:∃W3,W3=V2.alloc (Fc #[S X (label s1 j).takes.length R] 24):=⟨_,rfl⟩;have a:=bj.o.bxn #[S X (label s1 j).takes.length R] 24 1 rfl;obtain⟨B7,ab⟩:∃B7,B7=V2.heap.size:=⟨_,rfl⟩;rw[<- aa,<- ab]at a;rw[<- aa,<- ab];have a7:=(a.mo.b0 0 (u:=S X (label s1 j).takes.length R)).1;have bb:=(a.mo.tail.tail.b0 0 (u:=Yp (some ⟨p,0,none⟩))).1;have cd:=(a.mo.tail.b0 4 (u:=S la (N t) lc)).1;obtain⟨bs,br,e,C⟩:=Ty.st (((ar.o).cons (box 24 1 B7 [S X (label s1 j).takes.length R]))) a;cases e;obtain⟨b3,bz,e,ak⟩:=Ty.st (bc.o.sub (λr q=>by cases q)) a;cases e;have ac:=Hm (allT_c la lc t B2 B7 (fun i=>decide ((label s1 i).takes=(label s1 j).takes)) W3 (by omega) ak (fun x hx m=>by
  obtain⟨h0,h1⟩:=a9 x hx;obtain⟨y,rfl⟩:∃y:Nat,x=y:=⟨x.toNat,by omega⟩;have hy:y<N s1.blocks:=by rw[b1];omega
  exact ibt1_c y (a.keep (W:=W3.drewN m) ⟨rfl,rfl,rfl,lRz,fun _ _=>rfl⟩) bb a7 C hy I (B j Y) (B y hy)))
 have bh:=Hm (λm=>ileave_c (S X (label s1 j).takes.length R) (label s1 j).takes (a.keep (W:=W3.drewN m) ⟨rfl,rfl,rfl,lRz,λ_ _=>rfl⟩) (((ar.o).cons (box 24 1 B7 [S X (label s1 j).takes.length R]))) i1 (by rw[b1];exact aj) I (by omega) (B j Y));have bf:=Hm (λm=>(a.mo.tail.tail.tail).drewN m);have d:=au.o;clear au;generalize hz:t.all (λi=>decide ((label s1 i).takes=(label s1 j).takes))=z at ac d;clear aa ab a C ak hz;cases z
 . (have A:Hid (M=.error 6):=by show M=_;rw[d];rfl);clear d;(go_wp2_with (go_at_call 114;refine ac.o.mono ?_;rintro e w4 ⟨rfl,m,rfl⟩));go_ret;exact FnP.err A.o (bf.o m)
 have A:Hid (M=JB s1 (label s1 j).takes):=by show M=_;rw[d];rfl
 clear d;go_wp2_with (go_at_call 114;refine ac.o.mono ?_;rintro e w4 ⟨rfl,m,rfl⟩)
 refine(bh.o m).mono ?_;intro e w5 hp;rcases hp.cases with ⟨f,q,rfl,hb⟩|⟨s2,q,rfl,L⟩
 . go_wp2;go_ret;exact FnP.err (A.o.trans q) hb.tail.tail.tail
 go_wp2;go_ret;exact FnP.ok (A.o.trans q) (((L.un rfl).un rfl).un rfl)
structure CxB (x:Ctx):Prop where
 ty:∀t∈x.types,N t.ps<=1048576/\N t.rs<=1048576
 fu:∀t∈x.funcs,N t.ps<=1048576/\N t.rs<=1048576
structure Bd (s:Fn):Prop where
 inv:Inv s
 bl:N s.blocks<=1048577
 st:N s.stack<=1099511627776
 rl:∀b∈s.blocks,N b.results<=1048576
 nn:∀g∈s.locs,0<=g.n
 pl:N s.ps<=1048577
 gl:N s.locs<=1048577
theorem Bd.tl (h:Bd s):∀b∈s.blocks,N b.takes<=1048576:=λb hb=>by
 rw[h.inv.tk b hb];split
 · simp
 . exact h.rl b hb
theorem Xb (a:j<N s.blocks):label s j∈s.blocks:=by
 rw[label,Hx,Kg,Kj (by omega)];simp
theorem XO (h:j<N xs):xs.getD j Qe.z∈xs:=by simp[Kg,h]
theorem oty_len (op:Int):(oty op).ps.length<=2/\(oty op).rs.length<=1:=by
 refine⟨?_,?_⟩
 . exact Ky (nz_len _) (by simp)
 exact Ky (nz_len _) (by simp)
theorem iit_c (y:In)(t:Option Addr)(r:Nat)(h:ISt D w0 p (Yp (some ⟨q,0,none⟩)) l ks s V)(d:SpR D w0 q x fo go bd m ks)(f:JS D w0 ks l s.ps s.locs)(B:Bd s)(C:CxB x)(Y:0<=y.a)(A:y.a<=4294967295)(g:Qk x frm s y=true):Ec Q 242 #[Yp (some ⟨p,0,none⟩),inV y t r] V (ItP D w0 ks V (QU x oty s y))/\(QU x oty s y).ps.length<=1048577/\(QU x oty s y).rs.length<=1048577:=by
 obtain⟨n,a,b,v,c⟩:=y;dsimp only at Y A;obtain⟨j,rfl⟩:∃j:Nat,a=j:=⟨a.toNat,by omega⟩;have u:=B.nn;by_cases X:n=13
 . subst X;(have o:j<N s.blocks:=by(have:Qk x frm s ⟨13,j,b,v,c⟩=decide ((j:Int)<N s.blocks):=by simp[Qk,show frm 13=2 by decide +kernel]);rw[this]at g;simp at g;exact g);(have e:QU x oty s ⟨13,j,b,v,c⟩=⟨(label s j).takes++[127],(label s j).takes⟩:=by simp[QU]);have hl:=B.tl _ (Xb o);rw[e];exact⟨iit_13 j b v c t r h d f u B.pl B.gl o B.bl (by omega),by simp;omega,by simp;omega⟩
 by_cases R:n=16
 . subst R;(have o:j<N x.funcs:=by(have:Qk x frm s ⟨16,j,b,v,c⟩=decide ((j:Int)<N x.funcs):=by simp[Qk,show frm 16=2 by decide +kernel]);rw[this]at g;simp at g;exact g);(have e:QU x oty s ⟨16,j,b,v,c⟩=x.funcs.getD j Qe.z:=by simp[QU]);have hl:=C.fu _ (XO o);rw[e];exact⟨iit_16 j b v c t r h d f u B.pl B.gl o,by omega,by omega⟩
 by_cases M:n=17
 . subst M;(have o:j<N x.types:=by(have:Qk x frm s ⟨17,j,b,v,c⟩=(decide (0<x.tables)&&decide ((j:Int)<N x.types)):=by simp[Qk,show frm 17=4 by decide +kernel]);rw[this]at g;simp at g;exact g.2);(have e:QU x oty s ⟨17,j,b,v,c⟩=⟨(x.types.getD j Qe.z).ps++[127],(x.types.getD j Qe.z).rs⟩:=by simp[QU]);have hl:=C.ty _ (XO o);rw[e];exact⟨iit_17 j b v c t r h d f u B.pl B.gl o (by omega),by show((x.types.getD j Qe.z).ps++[127]).length<=_;rw[List.length_append];show _+1<=_;omega,by show(x.types.getD j Qe.z).rs.length<=_;omega⟩
 by_cases L:n=32
 . subst L;(have e:QU x oty s ⟨32,j,b,v,c⟩=⟨[],[loc s j]⟩:=by simp[QU]);rw[e];exact⟨iit_32 j b v c t r h d f u B.pl B.gl A,by simp,by simp⟩
 by_cases I:n=33
 . subst I;(have e:QU x oty s ⟨33,j,b,v,c⟩=⟨[loc s j],[]⟩:=by simp[QU]);rw[e];exact⟨iit_33 j b v c t r h d f u B.pl B.gl A,by simp,by simp⟩
 by_cases H:n=34
 . subst H;(have e:QU x oty s ⟨34,j,b,v,c⟩=⟨[loc s j],[loc s j]⟩:=by simp[QU]);rw[e];exact⟨iit_34 j b v c t r h d f u B.pl B.gl A,by simp,by simp⟩
 by_cases F:n=35
 . subst F;(have o:j<N x.globals:=by(have:Qk x frm s ⟨35,j,b,v,c⟩=decide ((j:Int)<N x.globals):=by simp[Qk,show frm 35=2 by decide +kernel]);rw[this]at g;simp at g;exact g);(have e:QU x oty s ⟨35,j,b,v,c⟩=⟨[],[(Q3 x j).ty]⟩:=by simp[QU]);rw[e];exact⟨iit_35 j b v c t r h d f u B.pl B.gl o,by simp,by simp⟩
 by_cases E:n=36
 . subst E;(have o:j<N x.globals:=by(have:Qk x frm s ⟨36,j,b,v,c⟩=decide ((j:Int)<N x.globals):=by simp[Qk,show frm 36=2 by decide +kernel]);rw[this]at g;simp at g;exact g);(have e:QU x oty s ⟨36,j,b,v,c⟩=⟨[(Q3 x j).ty],[]⟩:=by simp[QU]);rw[e];exact⟨iit_36 j b v c t r h d f u B.pl B.gl o,by simp,by simp⟩
 have e:QU x oty s ⟨n,j,b,v,c⟩=oty n:=by simp[QU,X,R,M,L,I,H,F,E]
 rw[e];have:=oty_len n;exact⟨iit_e n j b v c t r h d f u B.pl B.gl (by intro k hk;simp at hk;rcases hk with rfl|rfl|rfl|rfl|rfl|rfl|rfl|rfl<;>assumption),by omega,by omega⟩
def FnX (D:Nat)(w0:J)(p:Nat)(sp:Vu)(l:Lo)(ks:List Qc)(r:R Fn)(e:Ending)(w':J):Prop:=(∃f,r=.error f/\e=Z (flt f)/\Mo D w0 ks w')\/∃s' ns,r=.ok s'/\e=Z Nf/\ISt D w0 p sp l (ns++ks) s' w'
theorem mem_app {ns:List Qc}:∀r∈ks,r∈ns++ks:=λr hr=>mR hr
theorem ity_0 (a b v:Int)(g:List Int)(k:Option Addr)(j:Nat)(h:ISt D w0 p (Yp (some ⟨q,0,none⟩)) l ks s V)(B:Bd s)(n:s.blocks≠[])  :Ec Q 225 #[Yp (some ⟨p,0,none⟩),inV ⟨0,a,b,v,g⟩ k j] V (FnX D w0 p (Yp (some ⟨q,0,none⟩)) l ks (JB s [])):=by
 obtain⟨W,c⟩:∃W,W=V.alloc (Fc #[U O 0,U O a,U O b,U Ou v,S k (N g) j] 204):=⟨_,rfl⟩;have r:Below V.heap.size V W:=by rw[c];exact bFz.alloc lRz _
 have kk:C5 W V.heap.size 0 (U O 0) (U O a) (U O b) (U Ou v) (S k (N g) j):=by rw[c];exact C5.new
 obtain⟨⟨H,F,c2,E,C⟩,y⟩:=kk;have d:=h.keep r;have z:=Hm (ileave_c (S none 0 0) [] d (Ty.nil _ _ _ _ _) B.inv n B.bl B.st (by simp));clear d;clear h r y;go_enter func225,ntmps225;go_upto_region 1 with fail
 rw[<- c];clear c;go_wp2_with fail
 refine z.o.mono ?_;intro e A t;rcases t.cases with ⟨f,m,rfl,u⟩|⟨s',m,rfl,d⟩
 . go_wp2;go_ret;exact .inl ⟨f,m,rfl,u⟩
 go_wp2;go_ret;exact .inr ⟨s',[],m,rfl,d⟩
theorem ity_2 (a b v:Int)(j:List Int)(m:Option Addr)(k:Nat)(h:ISt D w0 p (Yp (some ⟨q,0,none⟩)) l ks s V)(B:Bd s)(H:s.blocks≠[])  :Ec Q 225 #[Yp (some ⟨p,0,none⟩),inV ⟨2,a,b,v,j⟩ m k] V (FnX D w0 p (Yp (some ⟨q,0,none⟩)) l ks (.ok (QI s 2 (Qi a)))):=by
 obtain⟨W,g⟩:∃W,W=V.alloc (Fc #[U O 2,U O a,U O b,U Ou v,S m (N j) k] 204):=⟨_,rfl⟩;have E:Below V.heap.size V W:=by rw[g];exact bFz.alloc lRz _
 have kk:C5 W V.heap.size 0 (U O 2) (U O a) (U O b) (U Ou v) (S m (N j) k):=by rw[g];exact C5.new
 obtain⟨⟨C,c1,c2,c3,c4⟩,L⟩:=kk;have A:=h.keep E;have r:=Hm A;have F:=Hm B;have t:=Hm (XH a W.drew);clear A;clear h E L;go_enter func225,ntmps225;go_upto_region 1 with fail
 rw[<- g];clear g;go_wp2_with fail
 go_region_law (first
  | (
   go_simp
   go_at_call 233
   refine t.o.mono ?_
   rintro e y ⟨z,rfl,own,c⟩;have d:Below W.heap.size W y:=⟨c.os,c.tape,c.output,c.size,c.block⟩;have f:=r.o.new (ns:=[⟨2,1,(Qi a).length,z,I (Qi a)⟩]) d (Own.one own);have u:=Hm (ibegin_c 2 z (Qi a) f (.inr (by simp)) F.o.bl (by have:=F.o.st;omega));have Y:y.cell? ⟨V.heap.size,0,none⟩=some (U O 2):=(d.cell (p:=⟨V.heap.size,0,none⟩) (Kk W _ C)).trans C;obtain⟨X,R,rfl⟩:=Qh own;clear own c d f)
  | (
   go_simp
   go_at_call 228
   refine u.o.mono ?_
   rintro e M ⟨rfl,n⟩))
 all_goals
  go_wp2
  go_ret
  exact .inr ⟨_,_,rfl,rfl,n⟩
theorem ity_3 (a b v:Int)(j:List Int)(m:Option Addr)(k:Nat)(h:ISt D w0 p (Yp (some ⟨q,0,none⟩)) l ks s V)(B:Bd s)(H:s.blocks≠[])  :Ec Q 225 #[Yp (some ⟨p,0,none⟩),inV ⟨3,a,b,v,j⟩ m k] V (FnX D w0 p (Yp (some ⟨q,0,none⟩)) l ks (.ok (QI s 3 (Qi a)))):=by
 obtain⟨W,g⟩:∃W,W=V.alloc (Fc #[U O 3,U O a,U O b,U Ou v,S m (N j) k] 204):=⟨_,rfl⟩;have E:Below V.heap.size V W:=by rw[g];exact bFz.alloc lRz _
 have kk:C5 W V.heap.size 0 (U O 3) (U O a) (U O b) (U Ou v) (S m (N j) k):=by rw[g];exact C5.new
 obtain⟨⟨C,c1,c2,c3,c4⟩,L⟩:=kk;have A:=h.keep E;have r:=Hm A;have F:=Hm B;have t:=Hm (XH a W.drew);clear A;clear h E L;go_enter func225,ntmps225;go_upto_region 1 with fail
 rw[<- g];clear g;go_wp2_with fail
 go_region_law (first
  | (
   go_simp
   go_at_call 233
   refine t.o.mono ?_
   rintro e y ⟨z,rfl,own,c⟩;have d:Below W.heap.size W y:=⟨c.os,c.tape,c.output,c.size,c.block⟩;have f:=r.o.new (ns:=[⟨2,1,(Qi a).length,z,I (Qi a)⟩]) d (Own.one own);have u:=Hm (ibegin_c 3 z (Qi a) f (.inr (by simp)) F.o.bl (by have:=F.o.st;omega));have Y:y.cell? ⟨V.heap.size,0,none⟩=some (U O 3):=(d.cell (p:=⟨V.heap.size,0,none⟩) (Kk W _ C)).trans C;obtain⟨X,R,rfl⟩:=Qh own;clear own c d f)
  | (
   go_simp
   go_at_call 228
   refine u.o.mono ?_
   rintro e M ⟨rfl,n⟩))
 all_goals
  go_wp2
  go_ret
  exact .inr ⟨_,_,rfl,rfl,n⟩
theorem ity_4 (a b v:Int)(k:List Int)(n:Option Addr)(m:Nat)(h:ISt D w0 p (Yp (some ⟨q,0,none⟩)) l ks s V)(B:Bd s)(t:s.blocks≠[])  :Ec Q 225 #[Yp (some ⟨p,0,none⟩),inV ⟨4,a,b,v,k⟩ n m] V (FnX D w0 p (Yp (some ⟨q,0,none⟩)) l ks ((Q4 s 127).map (QI · 4 (Qi a)))):=by
 obtain⟨W,g⟩:∃W,W=V.alloc (Fc #[U O 4,U O a,U O b,U Ou v,S n (N k) m] 204):=⟨_,rfl⟩;have C:Below V.heap.size V W:=by rw[g];exact bFz.alloc lRz _
 have kk:C5 W V.heap.size 0 (U O 4) (U O a) (U O b) (U Ou v) (S n (N k) m):=by rw[g];exact C5.new
 obtain⟨⟨c0,c1,c2,c3,c4⟩,L⟩:=kk;have j:=h.keep C;have u:=Hm j;have E:=Hm B;have y:=Hm (XH a W);clear j;clear h C L;go_enter func225,ntmps225;go_upto_region 1 with fail
 rw[<- g];clear g;go_wp2_with fail
 refine y.o.mono ?_;rintro e R ⟨A,rfl,own,c⟩;have d:=u.o.new (ns:=[⟨2,1,(Qi a).length,A,I (Qi a)⟩]) c (Own.one own);have z:=Hm (ibeginIf_c A (Qi a) d (.inr (by simp)) t E.o.bl E.o.st);obtain⟨Y,X,rfl⟩:=Qh own;clear own c d;go_wp2_with fail
 refine z.o.mono ?_;intro e M F;rcases F.cases with ⟨f,r,rfl,H⟩|⟨s',r,rfl,j⟩
 . go_wp2;go_ret;exact .inl ⟨f,r,rfl,H.tail⟩
 go_wp2;go_ret;exact .inr ⟨s',_,r,rfl,j⟩
theorem ity_5 (a b v:Int)(g:List Int)(k:Option Addr)(j:Nat)(h:ISt D w0 p (Yp (some ⟨q,0,none⟩)) l ks s V)(B:Bd s)(n:s.blocks≠[])  :Ec Q 225 #[Yp (some ⟨p,0,none⟩),inV ⟨5,a,b,v,g⟩ k j] V (FnX D w0 p (Yp (some ⟨q,0,none⟩)) l ks ((Qw s).map λp=>QI p.2 5 p.1.results)):=by
 obtain⟨W,c⟩:∃W,W=V.alloc (Fc #[U O 5,U O a,U O b,U Ou v,S k (N g) j] 204):=⟨_,rfl⟩;have t:Below V.heap.size V W:=by rw[c];exact bFz.alloc lRz _
 have kk:C5 W V.heap.size 0 (U O 5) (U O a) (U O b) (U Ou v) (S k (N g) j):=by rw[c];exact C5.new
 obtain⟨⟨H,F,c2,E,C⟩,y⟩:=kk;have d:=h.keep t;have z:=Hm (iotherwise_c d B.inv n B.bl B.st (λb r=>by have:=B.rl b r;omega));clear d;clear h t y;go_enter func225,ntmps225;go_upto_region 1 with fail
 rw[<- c];clear c;go_wp2_with fail
 refine z.o.mono ?_;intro e A u;rcases u.cases with ⟨f,m,rfl,r⟩|⟨s',m,rfl,d⟩
 . go_wp2;go_ret;exact .inl ⟨f,m,rfl,r⟩
 go_wp2;go_ret;exact .inr ⟨s',[],m,rfl,d⟩
theorem ity_11 (a b v:Int)(g:List Int)(k:Option Addr)(j:Nat)(h:ISt D w0 p (Yp (some ⟨q,0,none⟩)) l ks s V)(B:Bd s)(n:s.blocks≠[])  :Ec Q 225 #[Yp (some ⟨p,0,none⟩),inV ⟨11,a,b,v,g⟩ k j] V (FnX D w0 p (Yp (some ⟨q,0,none⟩)) l ks ((Qw s).bind λp=>if p.1.op=4/\p.1.results≠[]then .error 6 else .ok (push p.2 p.1.results))):=by
 obtain⟨W,c⟩:∃W,W=V.alloc (Fc #[U O 11,U O a,U O b,U Ou v,S k (N g) j] 204):=⟨_,rfl⟩;have t:Below V.heap.size V W:=by rw[c];exact bFz.alloc lRz _
 have kk:C5 W V.heap.size 0 (U O 11) (U O a) (U O b) (U Ou v) (S k (N g) j):=by rw[c];exact C5.new
 obtain⟨⟨H,F,c2,E,C⟩,y⟩:=kk;have d:=h.keep t;have z:=Hm (iend_c d B.inv n B.bl B.st (λb r=>by have:=B.rl b r;omega));clear d;clear h t y;go_enter func225,ntmps225;go_upto_region 1 with fail
 rw[<- c];clear c;go_wp2_with fail
 refine z.o.mono ?_;intro e A u;rcases u.cases with ⟨f,m,rfl,r⟩|⟨s',m,rfl,d⟩
 . go_wp2;go_ret;exact .inl ⟨f,m,rfl,r⟩
 go_wp2;go_ret;exact .inr ⟨s',[],m,rfl,d⟩
theorem ity_12 (j:Nat)(b v:Int)(u:List Int)(z:Option Addr)(y:Nat)(h:ISt D w0 p (Yp (some ⟨q,0,none⟩)) l ks s V)(B:Bd s)(C:s.blocks≠[])(E:j<N s.blocks):Ec Q 225 #[Yp (some ⟨p,0,none⟩),inV ⟨12,(j:Int),b,v,u⟩ z y] V (FnX D w0 p (Yp (some ⟨q,0,none⟩)) l ks (JB s (label s j).takes)):=by
 obtain⟨W,t⟩:∃W,W=V.alloc (Fc #[U O 12,U O (j:Int),U O b,U Ou v,S z (N u) y] 204):=⟨_,rfl⟩;have F:Below V.heap.size V W:=by rw[t];exact bFz.alloc lRz _
 have kk:C5 W V.heap.size 0 (U O 12) (U O (j:Int)) (U O b) (U Ou v) (S z (N u) y):=by rw[t];exact C5.new
 obtain⟨⟨c0,c1,c2,c3,c4⟩,cf⟩:=kk;have a:=h.keep F;obtain⟨g,k,c,tv,rv,R,d5,Y,_,r,_⟩:=a.lab E;obtain⟨I,H,d,_⟩:=r.st a;have M:k<=1048577:=by have:=B.bl;omega
 have m:=Hm (ilabel_c p g k c (j:Int) W d5 (by omega) (by omega) (by omega));simp only[Hx]at m;have hl:=B.tl _ (Xb E);rw[d]at Y r;have HC:=Hm (λn=>ileave_c (S I (label s j).takes.length H) (label s j).takes (a.keep (W:=W.drewN n) ⟨rfl,rfl,rfl,lRz,λ_ _=>rfl⟩) r B.inv C B.bl B.st (by omega));clear a R r d E;clear h F cf;go_enter func225,ntmps225;go_upto_region 1 with fail
 rw[<- t];clear t;go_wp2_with fail
 refine m.o.mono ?_;rintro e w2 ⟨rfl,n,rfl⟩;go_wp2_with fail
 refine(HC.o n).mono ?_;intro e w1 L;rcases L.cases with ⟨f,A,rfl,X⟩|⟨s',A,rfl,a⟩
 . go_wp2;go_ret;exact .inl ⟨f,A,rfl,X⟩
 go_wp2;go_ret;exact .inr ⟨s',[],A,rfl,a⟩
theorem ity_14 (j:Nat)(b v:Int)(a:List Int)(d:Option Addr)(c:Nat)(h:ISt D w0 p (Yp (some ⟨q,0,none⟩)) l ks s V)(B:Bd s)(E:s.blocks≠[])(F:j<N s.blocks)(y:Ty D w0 [] (S d (N a) c) a)(r:N a<=1048577)(g:∀i∈a,0<=i/\i<N s.blocks):Ec Q 225 #[Yp (some ⟨p,0,none⟩),inV ⟨14,(j:Int),b,v,a⟩ d c] V (FnX D w0 p (Yp (some ⟨q,0,none⟩)) l ks ((Q4 s 127).bind λs'=>if a.all (λi=>decide ((label s' i).takes=(label s' j).takes))then JB s' (label s' j).takes else .error 6)):=by
 obtain⟨W,k⟩:∃W,W=V.alloc (Fc #[U O 14,U O (j:Int),U O b,U Ou v,S d (N a) c] 204):=⟨_,rfl⟩;have z:Below V.heap.size V W:=by rw[k];exact bFz.alloc lRz _
 have kk:C5 W V.heap.size 0 (U O 14) (U O (j:Int)) (U O b) (U Ou v) (S d (N a) c):=by rw[k];exact C5.new
 obtain⟨⟨Y,X,c2,R,L⟩,H⟩:=kk;have m:=h.keep z;obtain⟨M,u⟩:∃M,M=((Q4 s 127).bind λs'=>if a.all (λi=>decide ((label s' i).takes=(label s' j).takes))then JB s' (label s' j).takes else .error 6):=⟨_,rfl⟩;rw[<- u];have A:=Hm (ibrTable_c j b v a d c m B.inv F B.bl B.st (λb t=>by have:=B.tl b t;omega) y r g);rw[<- u]at A;clear m u y g;clear h z H;go_enter func225,ntmps225;go_upto_region 1 with fail
 rw[<- k];clear k;go_wp2_with fail
 refine A.o.mono ?_;intro e I C;rcases C.cases with ⟨f,n,rfl,t⟩|⟨s',n,rfl,m⟩
 . go_wp2;go_ret;exact .inl ⟨f,n,rfl,t⟩
 go_wp2;go_ret;exact .inr ⟨s',[],n,rfl,m⟩
theorem ity_15 (a b v:Int)(A:List Int)(E:Option Addr)(C:Nat)(h:ISt D w0 p (Yp (some ⟨q,0,none⟩)) l ks s V)(B:Bd s)(m:s.blocks≠[])  :Ec Q 225 #[Yp (some ⟨p,0,none⟩),inV ⟨15,a,b,v,A⟩ E C] V (FnX D w0 p (Yp (some ⟨q,0,none⟩)) l ks (JB s (s.blocks.headD ⟨0,[],[],0,false⟩).results)):=by
 obtain⟨W,y⟩:∃W,W=V.alloc (Fc #[U O 15,U O a,U O b,U Ou v,S E (N A) C] 204):=⟨_,rfl⟩;have ba:Below V.heap.size V W:=by rw[y];exact bFz.alloc lRz _
 have kk:C5 W V.heap.size 0 (U O 15) (U O a) (U O b) (U Ou v) (S E (N A) C):=by rw[y];exact C5.new
 obtain⟨⟨c0,c1,c2,c3,c4⟩,cf⟩:=kk;have r:=h.keep ba;obtain⟨u,H⟩:∃u,N s.blocks=u+1:=⟨N s.blocks-1,by have:=List.length_pos_iff.2 m;omega⟩;obtain⟨g,k,c,tv,rv,X,d5,_,dr,_,n⟩:=r.lab (j:=u) (by omega);have I:k=u:=by omega
 subst I;rw[Nat.sub_self,Nat.zero_mul,Nat.zero_add]at dr;have d:label s k=s.blocks.headD ⟨0,[],[],0,false⟩:=by
  rw[label,Hx,X,Nat.add_sub_cancel,Nat.sub_self];cases L:s.blocks with
  |nil=>exact absurd L m
  |cons z zs=>rfl
 have M:=B.rl _ (Xb (s:=s) (j:=k) (by omega));rw[d]at n M;obtain⟨R,Y⟩:∃R,R=(s.blocks.headD ⟨0,[],[],0,false⟩).results:=⟨_,rfl⟩;rw[<- Y]at n M⊢;obtain⟨ta,tc,t,_⟩:=n.st r;rw[t]at dr n;have HC:=Hm (ileave_c (S ta (N R) tc) R r n B.inv m B.bl B.st (by omega));clear r X n t Y d H;clear h ba cf;go_enter func225,ntmps225;go_upto_region 1 with fail
 rw[<- y];clear y;go_wp2_with fail
 refine HC.o.mono ?_;intro e w1 hp;rcases hp.cases with ⟨f,F,rfl,L⟩|⟨s',F,rfl,r⟩
 . go_wp2;go_ret;exact .inl ⟨f,F,rfl,L⟩
 go_wp2;go_ret;exact .inr ⟨s',[],F,rfl,r⟩
theorem ity_26 (a b v:Int)(g:List Int)(k:Option Addr)(j:Nat)(h:ISt D w0 p (Yp (some ⟨q,0,none⟩)) l ks s V)(B:Bd s)(n:s.blocks≠[])  :Ec Q 225 #[Yp (some ⟨p,0,none⟩),inV ⟨26,a,b,v,g⟩ k j] V (FnX D w0 p (Yp (some ⟨q,0,none⟩)) l ks (Q4 s 0)):=by
 obtain⟨W,c⟩:∃W,W=V.alloc (Fc #[U O 26,U O a,U O b,U Ou v,S k (N g) j] 204):=⟨_,rfl⟩;have r:Below V.heap.size V W:=by rw[c];exact bFz.alloc lRz _
 have kk:C5 W V.heap.size 0 (U O 26) (U O a) (U O b) (U Ou v) (S k (N g) j):=by rw[c];exact C5.new
 obtain⟨⟨L,I,c2,H,F⟩,z⟩:=kk;have d:=h.keep r;have A:=Hm (ipop_c 0 d n B.bl B.st);clear d;clear h r z;go_enter func225,ntmps225;go_upto_region 1 with fail
 rw[<- c];clear c;go_wp2_with fail
 refine A.o.mono ?_;rintro e C ⟨t,E⟩;rcases t.cases with ⟨f,m,rfl,y⟩|⟨u,s',m,rfl,d⟩
 . go_wp2;go_ret;exact .inl ⟨f,by rw[Q4,m];rfl,rfl,y⟩
 go_wp2;go_ret;exact .inr ⟨s',[],by rw[Q4,m];rfl,rfl,d⟩
theorem ity_27 (a b v:Int)(g:List Int)(k:Option Addr)(j:Nat)(h:ISt D w0 p (Yp (some ⟨q,0,none⟩)) l ks s V)(B:Bd s)(n:s.blocks≠[])  :Ec Q 225 #[Yp (some ⟨p,0,none⟩),inV ⟨27,a,b,v,g⟩ k j] V (FnX D w0 p (Yp (some ⟨q,0,none⟩)) l ks ((Q4 s 127).bind λs1=>(pop s1 0).bind λp=>(pop p.2 p.1).map λq=>push q.2 [q.1])):=by
 obtain⟨W,c⟩:∃W,W=V.alloc (Fc #[U O 27,U O a,U O b,U Ou v,S k (N g) j] 204):=⟨_,rfl⟩;have r:Below V.heap.size V W:=by rw[c];exact bFz.alloc lRz _
 have kk:C5 W V.heap.size 0 (U O 27) (U O a) (U O b) (U Ou v) (S k (N g) j):=by rw[c];exact C5.new
 obtain⟨⟨H,F,c2,E,C⟩,y⟩:=kk;have d:=h.keep r;have z:=Hm (ichoose_c d n B.bl B.st);clear d;clear h r y;go_enter func225,ntmps225;go_upto_region 1 with fail
 rw[<- c];clear c;go_wp2_with fail
 refine z.o.mono ?_;intro e A t;rcases t.cases with ⟨f,m,rfl,u⟩|⟨s',m,rfl,d⟩
 . go_wp2;go_ret;exact .inl ⟨f,m,rfl,u⟩
 go_wp2;go_ret;exact .inr ⟨s',[],m,rfl,d⟩
theorem ity_e (op a b v:Int)(j:List Int)(n:Option Addr)(m:Nat)(h:ISt D w0 p (Yp (some ⟨q,0,none⟩)) l ks s V)(B:Bd s)(H:s.blocks≠[])(c:∀k∈([0,2,3,4,5,11,12,14,15,26,27]:List Int),op≠k)(t:Qe)(F:N t.ps<=1048577)(C:N t.rs<=1048577)(g:∀W,Below V.heap.size V W->Ec Q 242 #[Yp (some ⟨p,0,none⟩),inV ⟨op,a,b,v,j⟩ n m] W (ItP D w0 ks W t)):Ec Q 225 #[Yp (some ⟨p,0,none⟩),inV ⟨op,a,b,v,j⟩ n m] V (FnX D w0 p (Yp (some ⟨q,0,none⟩)) l ks (apply s t)):=by
 obtain⟨W,u⟩:∃W,W=V.alloc (Fc #[U O op,U O a,U O b,U Ou v,S n (N j) m] 204):=⟨_,rfl⟩;have I:Below V.heap.size V W:=by rw[u];exact bFz.alloc lRz _
 have kk:C5 W V.heap.size 0 (U O op) (U O a) (U O b) (U Ou v) (S n (N j) m):=by rw[u];exact C5.new
 obtain⟨⟨c0,c1,c2,c3,c4⟩,cf⟩:=kk;have y:=h.keep I;have M:=Hm y;have R:=Hm B;have o0:(op==0)=false:=by simpa using c 0 (by simp)
 have o2:(op==2)=false:=by simpa using c 2 (by simp)
 have o3:(op==3)=false:=by simpa using c 3 (by simp)
 have o4:(op==4)=false:=by simpa using c 4 (by simp)
 have o5:(op==5)=false:=by simpa using c 5 (by simp)
 have af:(op==11)=false:=by simpa using c 11 (by simp)
 have ae:(op==12)=false:=by simpa using c 12 (by simp)
 have ad:(op==14)=false:=by simpa using c 14 (by simp)
 have ac:(op==15)=false:=by simpa using c 15 (by simp)
 have ab:(op==26)=false:=by simpa using c 26 (by simp)
 have aa:(op==27)=false:=by simpa using c 27 (by simp)
 have L:=Hm (g W I);clear y c g;clear h I cf;go_enter func225,ntmps225;go_upto_region 1 with fail
 rw[<- u];clear u;go_wp2_with fail
 refine L.o.mono ?_;rintro e w1 ⟨Y,rv,ns,rfl,r,own,A,z⟩;have d:=M.o.new r own;have X:=Hm (iapply_c Y rv t d A z R.o.inv H R.o.bl R.o.st F C);obtain⟨pa,pc,rfl,_⟩:=A.st d;obtain⟨ra,rc,rfl,_⟩:=z.st d;clear d r own A z;go_wp2_with fail
 refine X.o.mono ?_;intro e w2 hp;rcases hp.cases with ⟨f,E,rfl,r⟩|⟨s',E,rfl,y⟩
 . go_wp2;go_ret;exact .inl ⟨f,E,rfl,r.right⟩
 go_wp2;go_ret;exact .inr ⟨s',_,E,rfl,y⟩
theorem imem_c (op:Int)(w:J):Ec Q 224 #[U O op] w λe w'=>e=Z (U O (Jk op))/\w=w':=by
 go_enter func224,ntmps224;go_wp2
 all_goals
  go_ret
  exact⟨by simp_all[Jk],rfl⟩
theorem ityped_c (y:In)(n:Option Addr)(g:Nat)(h:ISt D w0 p (Yp (some ⟨q,0,none⟩)) l ks s V)(X:SpR D w0 q x fo go bd m ks)(Y:JS D w0 ks l s.ps s.locs)(B:Bd s)(C:CxB x)(c:s.blocks≠[])(z:0<=y.a)(u:y.a<=4294967295)(t:N y.l<=1048577)(tL:Ty D w0 [] (S n (N y.l) g) y.l)(A:∀i∈y.l,0<=i)(r:Qk x frm s y=true):Ec Q 225 #[Yp (some ⟨p,0,none⟩),inV y n g] V (FnX D w0 p (Yp (some ⟨q,0,none⟩)) l ks (JO x oty s y)):=by
 obtain⟨f,a,b,v,d⟩:=y;dsimp only at z u t tL A;by_cases h0:f=0
 . subst h0;have:=ity_0 a b v d n g h B c;simpa[JO]using this
 by_cases h2:f=2
 . subst h2;have:=ity_2 a b v d n g h B c;simpa[JO]using this
 by_cases h3:f=3
 . subst h3;have:=ity_3 a b v d n g h B c;simpa[JO]using this
 by_cases h4:f=4
 . subst h4;have:=ity_4 a b v d n g h B c;simpa[JO]using this
 by_cases h5:f=5
 . subst h5;have:=ity_5 a b v d n g h B c;simpa[JO]using this
 by_cases M:f=11
 . subst M;have:=ity_11 a b v d n g h B c;simpa[JO]using this
 by_cases L:f=12
 . subst L;obtain⟨j,rfl⟩:∃j:Nat,a=j:=⟨a.toNat,by omega⟩;(have R:j<N s.blocks:=by(have:Qk x frm s ⟨12,j,b,v,d⟩=decide ((j:Int)<N s.blocks):=by simp[Qk,show frm 12=2 by decide +kernel]);rw[this]at r;simp at r;exact r);have:=ity_12 j b v d n g h B c R;simpa[JO]using this
 by_cases I:f=14
 . subst I;obtain⟨j,rfl⟩:∃j:Nat,a=j:=⟨a.toNat,by omega⟩;(have R:(∀i∈d,i<N s.blocks)/\j<N s.blocks:=by(have:Qk x frm s ⟨14,j,b,v,d⟩=(d.all (λi=>decide (i<N s.blocks))&&decide ((j:Int)<N s.blocks)):=by simp[Qk,show frm 14=3 by decide +kernel]);rw[this]at r;simp at r;exact r);have:=ity_14 j b v d n g h B c R.2 tL t (λi hi=>⟨A i hi,R.1 i hi⟩);simpa[JO]using this
 by_cases H:f=15
 . subst H;have:=ity_15 a b v d n g h B c;simpa[JO]using this
 by_cases F:f=26
 . subst F;have:=ity_26 a b v d n g h B c;simpa[JO]using this
 by_cases E:f=27
 . subst E;have:=ity_27 a b v d n g h B c;simpa[JO]using this
 have e:JO x oty s ⟨f,a,b,v,d⟩=apply s (QU x oty s ⟨f,a,b,v,d⟩):=by simp[JO,h0,h2,h3,h4,h5,M,L,I,H,F,E]
 rw[e];have o:=λW (hb:Below V.heap.size V W)=>iit_c (V:=W) ⟨f,a,b,v,d⟩ n g (h.keep hb) X Y B C z u r;exact ity_e f a b v d n g h B c (by intro k hk;simp at hk;rcases hk with rfl|rfl|rfl|rfl|rfl|rfl|rfl|rfl|rfl|rfl|rfl<;>assumption) _ (o V bFz).2.1 (o V bFz).2.2 (λW hb=>(o W hb).1)
theorem ihasAll_c (y:In)(la)(z:Nat)(h:ISt D w0 p (Yp (some ⟨q,0,none⟩)) l ks s V)(j:SpR D w0 q x fo go bd m ks)(o:JS D w0 ks l s.ps s.locs)(B:Bd s)(f:0<=y.a)(d:y.a<=4294967295)(c:N y.l<=1048577)(A:Has V la y.l)(g:∀i∈y.l,0<=i):Ec Q 223 #[Yp (some ⟨p,0,none⟩),inV y la z] V λe w'=>e=Z (G (Qk x frm s y))/\Below V.heap.size V w':=by
 obtain⟨u,a,b,v,t⟩:=y;dsimp only at f d c A g;have F:=B.nn;have n:=B.pl;have r:=B.gl;by_cases E:frm u=5
 . have:=ihas_m5 u a b v t la z h j o F n r f d c A g E;simpa[Qk,E]using this
 by_cases C:frm u=6
 . have:=ihas_m6 u a b v t la z h j o F n r f d c A g C;simpa[Qk,C]using this
 by_cases ac:u=12
 . subst ac;have:=ihas_12 a b v t la z h j o F n r f d c A g;simpa[Qk,E,C]using this
 by_cases ab:u=13
 . subst ab;have:=ihas_13 a b v t la z h j o F n r f d c A g;simpa[Qk,E,C]using this
 by_cases aa:u=14
 . subst aa;have:=ihas_14 a b v t la z h j o F n r f d c A g;simpa[Qk,E,C]using this
 by_cases Y:u=16
 . subst Y;have:=ihas_16 a b v t la z h j o F n r f d c A g;simpa[Qk,E,C]using this
 by_cases X:u=17
 . subst X;have:=ihas_17 a b v t la z h j o F n r f d c A g;simpa[Qk,E,C]using this
 by_cases R:u=32
 . subst R;(have e:Qk x frm s ⟨32,a,b,v,t⟩=decide (a<N s.ps+QL s.locs):=by simp only[Qk,E,C,X3,QL];simp;first|done|exact decide_eq_decide.2 Iff.rfl|rfl);rw[e];exact ihas_32 a b v t la z h j o F n r f d c A g
 by_cases M:u=33
 . subst M;(have e:Qk x frm s ⟨33,a,b,v,t⟩=decide (a<N s.ps+QL s.locs):=by simp only[Qk,E,C,X3,QL];simp;first|done|exact decide_eq_decide.2 Iff.rfl|rfl);rw[e];exact ihas_33 a b v t la z h j o F n r f d c A g
 by_cases L:u=34
 . subst L;(have e:Qk x frm s ⟨34,a,b,v,t⟩=decide (a<N s.ps+QL s.locs):=by simp only[Qk,E,C,X3,QL];simp;first|done|exact decide_eq_decide.2 Iff.rfl|rfl);rw[e];exact ihas_34 a b v t la z h j o F n r f d c A g
 by_cases I:u=35
 . subst I;have:=ihas_35 a b v t la z h j o F n r f d c A g;simpa[Qk,E,C]using this
 by_cases H:u=36
 . subst H;have:=ihas_36 a b v t la z h j o F n r f d c A g;simpa[Qk,E,C]using this
 have:=ihas_e u a b v t la z h j o F n r f d c A g (by simpa using E) (by simpa using C) (by intro k hk;simp at hk;rcases hk with rfl|rfl|rfl|rfl|rfl|rfl|rfl|rfl|rfl|rfl<;>assumption);simpa[Qk,E,C,ac,ab,aa,Y,X,R,M,L,I,H]using this
theorem istep_5 (y:In)(la:Option Addr)(lc:Nat)(h:ISt D w0 p (Yp (some ⟨q,0,none⟩)) l ks s V)(I:SpR D w0 q x fo go bd m ks)(L:JS D w0 ks l s.ps s.locs)(B:Bd s)(C:CxB x)(ax:s.blocks≠[])(ag:0<=y.a)(af:y.a<=4294967295)(ae:N y.l<=1048577)(tL:Ty D w0 [] (S la (N y.l) lc) y.l)(ah:∀i∈y.l,0<=i)(R:frm y.op=5):Ec Q 207 #[Yp (some ⟨p,0,none⟩),inV y la lc] V (FnX D w0 p (Yp (some ⟨q,0,none⟩)) l ks (step x frm oty s y)):=by
 obtain⟨M,hM⟩:∃M,M=step x frm oty s y:=⟨_,rfl⟩;rw[<- hM];obtain⟨a9,a8,e,hL⟩:=Ty.st (tL.sub (λr hr=>by cases hr)) h;cases e;obtain⟨W,hW⟩:∃W,W=V.alloc (Fc #[U O y.op,U O y.a,U O y.b,U Ou y.v,S la (N y.l) lc] 204):=⟨_,rfl⟩;have ba:Below V.heap.size V W:=by rw[hW];exact bFz.alloc lRz _
 have kk:C5 W V.heap.size 0 (U O y.op) (U O y.a) (U O y.b) (U Ou y.v) (S la (N y.l) lc):=by rw[hW];exact C5.new
 have a1:=Hm kk;obtain⟨⟨c0,c1,c2,c3,c4⟩,cf⟩:=kk;have z:=Hm ba;have HI:=Hm h;have HM:=Hm hM;have HA:=Hm (ihasAll_c y la lc (h.keep ba) I L B ag af ae (hL.keep ba) ah);have a0:=Hm (λW (hb:Below V.heap.size V W)=>ityped_c (V:=W) y la lc (h.keep hb) I L B C ax ag af ae tL ah);have HF:=Hm (QK y.op);have u:=Hm (imem_c y.op);clear h hM hL tL I L cf ba;go_enter func207,ntmps207;go_upto_region 1 with fail
 rw[<- hW];clear hW;cases hh:Qk x frm s y
 . rw[hh]at HA;(have g:Hid (M=.error 2):=by show M=_;rw[HM.o];simp[step,hh]);clear hh;(go_wp2_with (go_at_call 223;refine HA.o.mono ?_;rintro e c ⟨rfl,t⟩));go_ret;exact .inl ⟨2,g.o,rfl,(HI.o.keep (z.o.trans (t.mono z.o.size))).mo⟩
 rw[hh]at HA;have aa:=Hm hh;clear hh;go_upto_region 3 with (go_at_call 223;refine HA.o.mono ?_;rintro e c ⟨rfl,t⟩)
 have A:=Hm (z.o.trans (t.mono z.o.size));have Y:=Hm (a1.o.keep t);obtain⟨⟨d0,d1,d2,d3,d4⟩,df⟩:=Y.o;clear t c0 c1 c2 c3 c4 df;rw[show Qj (Qb y.op)=5 from R]at HF;have az:(y.op==36)=false:=by
  by_cases e:y.op=36
  . rw[e]at R;exact absurd R (by decide +kernel)
  simpa using e
 by_cases hw:Jk y.op<y.a
 . (have g:Hid (M=.error 8):=by show M=_;rw[HM.o];simp[step,aa.o,R,hw]);generalize Jk y.op=wd at u hw;clear R HM;have F:=cell_regrown d0;have E:=cell_regrown d1;have T1:Hid (∀d os,Ec Q 215 #[U O y.op] (grow (redrawn c d) os) λe w''=>e=Z (U O 5)/\∃p:Regrown,w''=grow (redrawn c p.d) p.os):=λd os=>Tk (HF.o _);have T2:Hid (∀d os,Ec Q 224 #[U O y.op] (grow (redrawn c d) os) λe w''=>e=Z (U O wd)/\∃p:Regrown,w''=grow (redrawn c p.d) p.os):=λd os=>(u.o _).mono λe w' ⟨h1,h2⟩=>⟨h1,⟨d,os⟩,h2.symm⟩;refine wp_region_quiet_below (by kernel_rfl) (by kernel_rfl) ?_;(repeat ((with_reducible refine wpQuiet_step (λK hK=>?_));go_simp;first|(refine hK _ ?_;clear hK K)|(apply Exists.intro;refine⟨λ_=>?_,hK _ ?_⟩;(first|with_reducible exact T1.o _ _|with_reducible exact T2.o _ _);clear hK K)|(rw[if_neg (by simp[Tf,yielded,undef])];go_simp;refine hK _ ?_;clear hK K)));(with_reducible refine wpQuiet_nil ?_);intro _ H;obtain⟨⟨dq,j⟩,k⟩:=H;subst k;have n:=below_regrown c dq j;clear F E T1 T2;generalize grow (redrawn c dq) j=w2 at *;(try show Exit.then _ _ Lk _ w2);have ab:=Hm (A.o.trans (n.mono A.o.size));have X:=Hm (Y.o.keep n);obtain⟨⟨g0,g1,g2,g3,g4⟩,gf⟩:=X.o;go_wp2;go_ret;exact .inl ⟨8,g.o,rfl,(HI.o.keep ab.o).mo⟩
 have g:Hid (M=JO x oty s y):=by
  show M=_;rw[HM.o];have ai:y.op≠36:=by simpa using az
  simp[step,aa.o,R,hw,ai]
 generalize Jk y.op=wd at u hw;clear R HM;have F:=cell_regrown d0;have E:=cell_regrown d1;have T1:Hid (∀d os,Ec Q 215 #[U O y.op] (grow (redrawn c d) os) λe w''=>e=Z (U O 5)/\∃p:Regrown,w''=grow (redrawn c p.d) p.os):=λd os=>Tk (HF.o _);have T2:Hid (∀d os,Ec Q 224 #[U O y.op] (grow (redrawn c d) os) λe w''=>e=Z (U O wd)/\∃p:Regrown,w''=grow (redrawn c p.d) p.os):=λd os=>(u.o _).mono λe w' ⟨h1,h2⟩=>⟨h1,⟨d,os⟩,h2.symm⟩;refine wp_region_quiet_below (by kernel_rfl) (by kernel_rfl) ?_;repeat ((with_reducible refine wpQuiet_step (λK hK=>?_));go_simp;first|(refine hK _ ?_;clear hK K)|(apply Exists.intro;refine⟨λ_=>?_,hK _ ?_⟩;(first|with_reducible exact T1.o _ _|with_reducible exact T2.o _ _);clear hK K)|(rw[if_neg (by simp[Tf,yielded,undef])];go_simp;refine hK _ ?_;clear hK K))
 with_reducible refine wpQuiet_nil ?_
 intro _ H;obtain⟨⟨dq,j⟩,k⟩:=H;subst k;have n:=below_regrown c dq j;clear F E T1 T2;generalize grow (redrawn c dq) j=w2 at *;try show Exit.then _ _ Lk _ w2
 have ab:=Hm (A.o.trans (n.mono A.o.size));have X:=Hm (Y.o.keep n);obtain⟨⟨g0,g1,g2,g3,g4⟩,gf⟩:=X.o;go_upto_region 5 with fail
 refine wp_region_quiet_lit (by kernel_rfl) (by kernel_rfl) ?_;repeat ((with_reducible refine wpQuiet_step (λK hK=>?_));go_simp;first|(refine hK _ ?_;clear hK K)|(rw[if_neg (by simp[Tf,yielded,undef])];go_simp;refine hK _ ?_;clear hK K))
 refine wpQuiet_nil ?_;rintro _ ⟨nq,rfl⟩;have a3:=Hm (Qo ab.o nq);go_wp2_with fail
 refine(a0.o _ a3.o aa.o).mono ?_;rintro e w4 (⟨f,hr,rfl,hb⟩|⟨s',ns,hr,rfl,hI⟩)
 . go_wp2;go_ret;exact .inl ⟨f,g.o.trans hr,rfl,hb⟩
 go_wp2;go_ret;exact .inr ⟨s',ns,g.o.trans hr,rfl,hI⟩
theorem istep_n (y:In)(la:Option Addr)(lc:Nat)(h:ISt D w0 p (Yp (some ⟨q,0,none⟩)) l ks s V)(Y:SpR D w0 q x fo go bd m ks)(ah:JS D w0 ks l s.ps s.locs)(B:Bd s)(C:CxB x)(bm:s.blocks≠[])(a0:0<=y.a)(az:y.a<=4294967295)(aq:N y.l<=1048577)(tL:Ty D w0 [] (S la (N y.l) lc) y.l)(a1:∀i∈y.l,0<=i)(f5:¬frm y.op=5):Ec Q 207 #[Yp (some ⟨p,0,none⟩),inV y la lc] V (FnX D w0 p (Yp (some ⟨q,0,none⟩)) l ks (step x frm oty s y)):=by
 obtain⟨M,hM⟩:∃M,M=step x frm oty s y:=⟨_,rfl⟩;rw[<- hM];obtain⟨ch,cg,e,hL⟩:=Ty.st (tL.sub (λr hr=>by cases hr)) h;cases e;obtain⟨W,hW⟩:∃W,W=V.alloc (Fc #[U O y.op,U O y.a,U O y.b,U Ou y.v,S la (N y.l) lc] 204):=⟨_,rfl⟩;have ba:Below V.heap.size V W:=by rw[hW];exact bFz.alloc lRz _
 have kk:C5 W V.heap.size 0 (U O y.op) (U O y.a) (U O y.b) (U Ou y.v) (S la (N y.l) lc):=by rw[hW];exact C5.new
 have bz:=Hm kk;obtain⟨⟨c0,c1,c2,c3,c4⟩,cf⟩:=kk;have ab:=Hm ba;have HI:=Hm h;have HM:=Hm hM;have HA:=Hm (ihasAll_c y la lc (h.keep ba) Y ah B a0 az aq (hL.keep ba) a1);have a4:=Hm (λW (hb:Below V.heap.size V W)=>ityped_c (V:=W) y la lc (h.keep hb) Y ah B C bm a0 az aq tL a1);have HF:=Hm (QK y.op);have ai:=Hm Y;clear h hM hL tL Y ah cf ba;go_enter func207,ntmps207;go_upto_region 1 with fail
 rw[<- hW];clear hW;cases hh:Qk x frm s y
 . rw[hh]at HA;(have g:Hid (M=.error 2):=by show M=_;rw[HM.o];simp[step,hh]);clear hh;(go_wp2_with (go_at_call 223;refine HA.o.mono ?_;rintro e k ⟨rfl,I⟩));go_ret;exact .inl ⟨2,g.o,rfl,(HI.o.keep (ab.o.trans (I.mono ab.o.size))).mo⟩
 rw[hh]at HA;have E:=Hm hh;clear hh;go_upto_region 3 with (go_at_call 223;refine HA.o.mono ?_;rintro e k ⟨rfl,I⟩)
 have A:=Hm (ab.o.trans (I.mono ab.o.size));have R:=Hm (bz.o.keep I);obtain⟨⟨d0,d1,d2,d3,d4⟩,df⟩:=R.o;clear I c0 c1 c2 c3 c4 df;have bp:(Qj (Qb y.op)==5)=false:=by simpa using f5
 have b1:=Hm f5;generalize Qj (Qb y.op)=f at HF bp;clear f5;by_cases z:y.op=36
 . (have bj:(y.op==36)=true:=by simp[z]);obtain⟨j,hj⟩:∃j:Nat,y.a=j:=⟨y.a.toNat,by omega⟩;(have ar:j<N x.globals:=by have hx:=E.o;(have:Qk x frm s y=decide (y.a<N x.globals):=by(have e6:frm 36=2:=by decide +kernel);simp[Qk,e6,z]);rw[this,hj]at hx;simp at hx;exact hx);have aa:=HI.o.keep A.o;obtain⟨fa,fc,aw,ax⟩:=QA aa.mo ai.o.gr;obtain⟨gf,bn,ay⟩:=ax (by omega);subst bn;(have av:x.globals[j]?=some (Q3 x j):=by rw[Q3,Hx];simp[Kg,ar]);have e1:=(Gl av).2;rw[<- ai.o.gt]at e1;have dm:=ay _ _ e1 (by omega);obtain⟨r0,r1,r2,r3,r4⟩:=ai.o.cells aa.mo;rw[aw]at r4;obtain⟨sa,sc,bv,ct,hm,hf,q4,q5,f4,f5⟩:=aa.opnS;have q0:=(hm.b0 0 (u:=Yp (some ⟨q,0,none⟩))).1;rw[hj]at d1 R;(have ci:(j:Int)<(N x.globals:Int):=by omega);have CR:Hid (∀w2,Below k.heap.size k w2->w2.cell? ⟨p,0,none⟩=some (Yp (some ⟨q,0,none⟩))/\w2.cell? ⟨q,4,none⟩=some (S (some ⟨gf,0,none⟩) (N x.globals) fc)/\w2.cell? ⟨gf,j*2+1,none⟩=some (G (Q3 x j).mu)):=λw2 hb=>⟨(hb.cell (p:=⟨p,0,none⟩) (Kk k _ q0)).trans q0,(hb.cell (p:=⟨q,4,none⟩) (Kk k _ r4)).trans r4,(hb.cell (p:=⟨gf,j*2+1,none⟩) (Kk k _ dm)).trans dm⟩;have ag:=Hm (λW hb=>a4.o W hb E.o);rw[show inV y la lc=Ag #[U O y.op,U O (j:Int),U O y.b,U Ou y.v,S la (N y.l) lc] by rw[<- hj]]at ag;have a5:=Hm hj;have a6:=Hm z;clear aa aw ax ay av e1 dm r0 r1 r2 r3 r4 hm hf q4 q5 f4 f5 q0 hj z ar;cases hmu:(Q3 x j).mu
   . rw[hmu]at CR;(have g:Hid (M=.error 9):=by show M=_;rw[HM.o];(have e6:frm 36=2:=by decide +kernel);simp[step,E.o,e6,a6.o,a5.o,hmu]);clear hmu HM;have F:=cell_regrown d0;have T1:Hid (∀d os,Ec Q 215 #[U O y.op] (grow (redrawn k d) os) λe w''=>e=Z (U O f)/\∃p:Regrown,w''=grow (redrawn k p.d) p.os):=λd os=>Tk (HF.o _);refine wp_region_quiet_below (by kernel_rfl) (by kernel_rfl) ?_;(repeat ((with_reducible refine wpQuiet_step (λK hK=>?_));go_simp;first|(refine hK _ ?_;clear hK K)|(apply Exists.intro;refine⟨λ_=>?_,hK _ ?_⟩;(with_reducible exact T1.o _ _);clear hK K)|(rw[if_neg (by simp[Tf,yielded,undef])];go_simp;refine hK _ ?_;clear hK K)));(with_reducible refine wpQuiet_nil ?_);intro _ H;obtain⟨⟨dq,n⟩,t⟩:=H;subst t;have c:=below_regrown k dq n;clear F T1;generalize grow (redrawn k dq) n=w2 at *;(try show Exit.then _ _ Lk _ w2);have X:=Hm (A.o.trans (c.mono A.o.size));have L:=Hm (R.o.keep c);obtain⟨⟨g0,g1,g2,g3,g4⟩,gf⟩:=L.o;obtain⟨bw,bu,bt⟩:=CR.o _ c;(go_upto_region 5 with fail);refine wp_region_quiet_lit (by kernel_rfl) (by kernel_rfl) ?_;(repeat ((with_reducible refine wpQuiet_step (λK hK=>?_));go_simp;first|(refine hK _ ?_;clear hK K)|(rw[if_neg (by simp[Tf,yielded,undef])];go_simp;refine hK _ ?_;clear hK K)));refine wpQuiet_nil ?_;rintro _ ⟨nq,rfl⟩;go_wp2;go_ret;exact .inl ⟨9,g.o,rfl,(HI.o.keep (Qo X.o nq)).mo⟩
   rw[hmu]at CR;(have g:Hid (M=JO x oty s y):=by show M=_;rw[HM.o];(have e6:frm 36=2:=by decide +kernel);simp[step,E.o,e6,a6.o,a5.o,hmu]);clear hmu HM;have F:=cell_regrown d0;have T1:Hid (∀d os,Ec Q 215 #[U O y.op] (grow (redrawn k d) os) λe w''=>e=Z (U O f)/\∃p:Regrown,w''=grow (redrawn k p.d) p.os):=λd os=>Tk (HF.o _);refine wp_region_quiet_below (by kernel_rfl) (by kernel_rfl) ?_;(repeat ((with_reducible refine wpQuiet_step (λK hK=>?_));go_simp;first|(refine hK _ ?_;clear hK K)|(apply Exists.intro;refine⟨λ_=>?_,hK _ ?_⟩;(with_reducible exact T1.o _ _);clear hK K)|(rw[if_neg (by simp[Tf,yielded,undef])];go_simp;refine hK _ ?_;clear hK K)));(with_reducible refine wpQuiet_nil ?_);intro _ H;obtain⟨⟨dq,n⟩,t⟩:=H;subst t;have c:=below_regrown k dq n;clear F T1;generalize grow (redrawn k dq) n=w2 at *;(try show Exit.then _ _ Lk _ w2);have X:=Hm (A.o.trans (c.mono A.o.size));have L:=Hm (R.o.keep c);obtain⟨⟨g0,g1,g2,g3,g4⟩,gf⟩:=L.o;obtain⟨bw,bu,bt⟩:=CR.o _ c;(go_upto_region 5 with fail);refine wp_region_quiet_lit (by kernel_rfl) (by kernel_rfl) ?_;(repeat ((with_reducible refine wpQuiet_step (λK hK=>?_));go_simp;first|(refine hK _ ?_;clear hK K)|(rw[if_neg (by simp[Tf,yielded,undef])];go_simp;refine hK _ ?_;clear hK K)));refine wpQuiet_nil ?_;rintro _ ⟨nq,rfl⟩;have ak:=Hm (Qo X.o nq);(go_wp2_with fail);refine(ag.o _ ak.o).mono ?_;rintro e w4 (⟨f,hr,rfl,hb⟩|⟨s',ns,hr,rfl,hI⟩)
   . go_wp2;go_ret;exact .inl ⟨f,g.o.trans hr,rfl,hb⟩
   go_wp2;go_ret;exact .inr ⟨s',ns,g.o.trans hr,rfl,hI⟩
 have bj:(y.op==36)=false:=by simp[z]
 have g:Hid (M=JO x oty s y):=by show M=_;rw[HM.o];simp[step,E.o,show ¬(frm y.op=5)from b1.o,z]
 clear z HM;have F:=cell_regrown d0;have T1:Hid (∀d os,Ec Q 215 #[U O y.op] (grow (redrawn k d) os) λe w''=>e=Z (U O f)/\∃p:Regrown,w''=grow (redrawn k p.d) p.os):=λd os=>Tk (HF.o _);refine wp_region_quiet_below (by kernel_rfl) (by kernel_rfl) ?_;repeat ((with_reducible refine wpQuiet_step (λK hK=>?_));go_simp;first|(refine hK _ ?_;clear hK K)|(apply Exists.intro;refine⟨λ_=>?_,hK _ ?_⟩;(with_reducible exact T1.o _ _);clear hK K)|(rw[if_neg (by simp[Tf,yielded,undef])];go_simp;refine hK _ ?_;clear hK K))
 with_reducible refine wpQuiet_nil ?_
 intro _ H;obtain⟨⟨dq,n⟩,t⟩:=H;subst t;have c:=below_regrown k dq n;clear F T1;generalize grow (redrawn k dq) n=w2 at *;try show Exit.then _ _ Lk _ w2
 have X:=Hm (A.o.trans (c.mono A.o.size));have L:=Hm (R.o.keep c);obtain⟨⟨g0,g1,g2,g3,g4⟩,gf⟩:=L.o;go_upto_region 5 with fail
 refine wp_region_quiet_lit (by kernel_rfl) (by kernel_rfl) ?_;repeat ((with_reducible refine wpQuiet_step (λK hK=>?_));go_simp;first|(refine hK _ ?_;clear hK K)|(rw[if_neg (by simp[Tf,yielded,undef])];go_simp;refine hK _ ?_;clear hK K))
 refine wpQuiet_nil ?_;rintro _ ⟨nq,rfl⟩;have ak:=Hm (Qo X.o nq);go_wp2_with fail
 refine(a4.o _ ak.o E.o).mono ?_;rintro e w4 (⟨f,hr,rfl,hb⟩|⟨s',ns,hr,rfl,hI⟩)
 . go_wp2;go_ret;exact .inl ⟨f,g.o.trans hr,rfl,hb⟩
 go_wp2;go_ret;exact .inr ⟨s',ns,g.o.trans hr,rfl,hI⟩
theorem istep_c (y:In)(o:Option Addr)(n:Nat)(h:ISt D w0 p (Yp (some ⟨q,0,none⟩)) l ks s V)(b:SpR D w0 q x fo go bd m ks)(d:JS D w0 ks l s.ps s.locs)(B:Bd s)(C:CxB x)(c:s.blocks≠[])(j:0<=y.a)(g:y.a<=4294967295)(f:N y.l<=1048577)(r:Ty D w0 [] (S o (N y.l) n) y.l)(k:∀i∈y.l,0<=i):Ec Q 207 #[Yp (some ⟨p,0,none⟩),inV y o n] V (FnX D w0 p (Yp (some ⟨q,0,none⟩)) l ks (step x frm oty s y)):=by
 by_cases t:frm y.op=5
 . exact istep_5 y o n h b d B C c j g f r k t
 exact istep_n y o n h b d B C c j g f r k t
theorem endsM_take (n:Int)(gs:List Grp)(k:Nat)(h:k<N gs):QQ n (gs.take (k+1))=QQ n (gs.take k)++[n+QL (gs.take k)+(gs.getD k Grp.z).n]/\QL (gs.take (k+1))=QL (gs.take k)+(gs.getD k Grp.z).n:=by
 have e:gs.take (k+1)=gs.take k++[gs.getD k Grp.z]:=by rw[List.take_succ_eq_append_getElem h];simp[Kg,h]
 rw[e,endsM_snoc];exact⟨rfl,by simp[QL]⟩
theorem ilocNew_c {D w0 V rs}(j s:Option Addr)(a g q:Nat)(gs:List Grp)(hm:Mo D w0 rs V)(hg:GrL D w0 s gs)(br:a<=1048577)(bv:N gs<=1048577)(hs:∀k,k<=N gs->0<=QL (gs.take k)/\QL (gs.take k)<=4503599627370496*4):Ec Q 227 #[S j a g,S s (N gs) q] V λe w'=>∃y,e=Z (Ag #[S j a g,S s (N gs) q,y])/\Mo D w0 (⟨2,1,(QQ a gs).length,y,I (QQ a gs)⟩::rs) w':=by
 obtain⟨i0,hi,au,ar,aq⟩:=info_parts info2;obtain⟨W,hW⟩:∃W,W=(V.alloc (Fc #[S none 0 0,S none 0 0,S none 0 0] 334)).alloc (Fc #[S j a g,S s (N gs) q,S none 0 0] 334):=⟨_,rfl⟩;have E:=(hm.box (cur:=#[S none 0 0,S none 0 0,S none 0 0]) 334 3 rfl).box (cur:=#[S j a g,S s (N gs) q,S none 0 0]) 334 3 rfl;have ac:(V.alloc (Fc #[S none 0 0,S none 0 0,S none 0 0] 334)).heap.size=V.heap.size+1:=by simp
 rw[<- hW,ac]at E;have ae:Mo D w0 (box 334 3 (V.heap.size+1) [S j a g,S s (N gs) q,S none 0 0]::⟨2,1,0,S none 0 0,[]⟩::box 334 3 V.heap.size [S none 0 0,S none 0 0,S none 0 0]::rs) W:=by have h1:=E.new (ns:=[⟨2,1,0,S none 0 0,[]⟩]) bFz (Own.one (Hk W _ 2 1));exact h1.perm (Tw _ _ _)
 have R:=Hm ae;have HG:=Hm hg;have a5:=Hm hs;obtain⟨Y,H⟩:∃Y,Y=V.heap.size+1:=⟨_,rfl⟩;obtain⟨B4,L⟩:∃B4,B4=V.heap.size:=⟨_,rfl⟩;rw[<- H,<- L]at R;clear hm E ae hg hs;go_enter func227,ntmps227;go_upto_region 2 with fail
 rw[<- hW,<- H,<- L];clear hW H L ac;go_wp2;go_loopw [6,16] (λn i wr=>∃(k:Nat) (y:Vu),k<=N gs/\i=U O k/\n=U O (a+QL (gs.take k))/\Mo D w0 (box 334 3 Y [S j a g,S s (N gs) q,y]::⟨2,1,k,y,I (QQ a (gs.take k))⟩::box 334 3 B4 [S none 0 0,S none 0 0,S none 0 0]::rs) wr) (λ_ i _=>N gs-(intOf i).toNat)
 case atStart=>exact⟨0,S none 0 0,Kz _,rfl,by simp[QL],R.o⟩
 obtain⟨k,y,hk,rfl,rfl,c⟩:=hrel;have hr:wr.ownsRow D 2 1 y k (I (QQ a (gs.take k))):=c.row (r:=⟨2,1,k,y,I (QQ a (gs.take k))⟩) (by simp);obtain⟨C,B,av⟩:=Qh hr;have d0:=(c.b0 0 (u:=S j a g)).1;have d1:=(c.b0 1 (u:=S s (N gs) q)).1;have d2:=(c.b0 2 (u:=y)).1;subst av;by_cases t:k<N gs
 . (have bs:(k:Int)<(N gs:Int):=by omega);rcases HG.o with hx|⟨b,off,az,hb,hc⟩
   . subst hx;simp at t
   subst az;have c0:wr.cell? ⟨b,off+k*2,none⟩=some (U O (gs.getD k Grp.z).n):=(c.b.cell (p:=⟨b,off+k*2,none⟩) hb).trans (hc k t).1;have c1:wr.cell? ⟨b,off+k*2+1,none⟩=some (U O (gs.getD k Grp.z).ty):=(c.b.cell (p:=⟨b,off+k*2+1,none⟩) hb).trans (hc k t).2;obtain⟨E1,E2⟩:=endsM_take a gs k t;have ad:=a5.o (k+1) (by omega);rw[E2]at ad;obtain⟨f,ag⟩:∃f,f=(gs.getD k Grp.z).n:=⟨_,rfl⟩;obtain⟨gt,af⟩:∃gt,gt=(gs.getD k Grp.z).ty:=⟨_,rfl⟩;obtain⟨d,hS⟩:∃d,d=(a:Int)+QL (gs.take k):=⟨_,rfl⟩;rw[<- ag]at c0 E1 E2 ad;rw[<- af]at c1;rw[<- hS]at E1⊢;(have hw:IntKind.i64.wrap (d+f)=d+f:=by rw[Kv];omega);have a8:=Hm E1;(have a6:Hid ((a:Int)+QL (gs.take (k+1))=d+f):=by show _=_;rw[E2];omega);have ai:=Hm c;have OW:=Hm hr;clear c hr hc E1 E2 ag af hS d0 d1;(go_upto_region 7 with fail);obtain⟨M,F⟩:∃M,M=wr.alloc (Fc #[U O f,U O gt] 207):=⟨_,rfl⟩;(have bW:Below wr.heap.size wr M:=by rw[F];exact bFz.alloc lRz _);rw[<- F];have X:=Hm (ai.o.keep bW);have bz:=(X.o.b0 2 (u:=S C k B)).1;have a4:=Hm (Qc.Ok.keep' OW.o bW);have bb:=X.o.le;(have bt:k<=1048577:=by omega);(have HP:Hid (∀W v',W.ownsRow D 2 1 v' (k+1) (I (QQ a (gs.take k))++[U O (d+f)])->(M.alloc (Fc #[U O (d+f)] 2)).grownBy W (Tq C k B).ownBlock->(v'.ownBlock=(Tq C k B).ownBlock\/v'.ownBlock=some (M.alloc (Fc #[U O (d+f)] 2)).heap.size)->(W.cell? ⟨Y,2,none⟩=some (S C k B)/\W.frozen? ⟨Y,2,none⟩=false)/\Mo D w0 (box 334 3 Y [S j a g,S (some ⟨b,off,none⟩) (N gs) q,v']::⟨2,1,k+1,v',I (QQ a (gs.take (k+1)))⟩::box 334 3 B4 [S none 0 0,S none 0 0,S none 0 0]::rs) (W.setCell ⟨Y,2,none⟩ v')):=λW v' ho hgr hl=>by have h1:=((X.o.perm (Tw _ _ _)).push (r':=⟨2,1,k+1,v',I (QQ a (gs.take k))++([U O (d+f)]:List Vu)⟩) (bFz.alloc lRz _) hgr ho hl).perm (Tw _ _ _);refine⟨h1.b0 2,?_⟩;have h2:=h1.set 2 v';(have e:I (QQ a (gs.take (k+1)))=I (QQ a (gs.take k))++[U O (d+f)]:=by rw[a8.o];simp[I]);rw[e];exact h2);clear F bW ai OW
   (go_wp2_with (at_builtin;refine XM rfl _ _ 24 rfl D 2 i0 (U O 0) 1 8 underlying24 hi au ar aq rfl (by decide) _ _ _ rfl (World.ownsRow.alloc a4.o _) (some ⟨M.heap.size,0,none⟩) 1 1 [U O (d+f)] rfl (by simp) (.inr ⟨_,rfl,Jn M [U O (d+f)] 2⟩) (oneI _) (by unfold maxLen;omega) (by omega) (by rw[World.size_alloc];omega) ?_;intro v' W3 l m A;have HQ:=Hm (HP.o W3 v' l m A);have x1:=HQ.o.1.1;have x2:=HQ.o.1.2;obtain⟨va,vc,rfl⟩:=Qh l;clear l m A));(go_roundw);(case rel=>exact⟨k+1,_,by omega,by go_num,by rw[a6.o],HQ.o.2⟩);case measure=>simp[intOf];omega
 have e:k=N gs:=by omega
 subst e;have y0:=(c.tail.tail.b0 0 (u:=S none 0 0));have y1:=(c.tail.tail.b0 1 (u:=S none 0 0));have y2:=(c.tail.tail.b0 2 (u:=S none 0 0));obtain⟨a0,b0⟩:=y0;obtain⟨a1,b1⟩:=y1;obtain⟨a2,b2⟩:=y2;have HX:=Hm ((((c.tail.perm (Tw _ _ _)).set 0 (S j a g)).set 1 (S s (N gs) q)).set 2 (S C (N gs) B));clear c hr R;go_wp2;refine Qv (λW'=>(W'.cell? ⟨B4,0,none⟩=some (S j a g)/\W'.cell? ⟨B4,1,none⟩=some (S s (N gs) q)/\W'.cell? ⟨B4,2,none⟩=some (S C (N gs) B))/\Mo D w0 (⟨2,1,(QQ a gs).length,S C (N gs) B,I (QQ a gs)⟩::rs) W') ⟨⟨(HX.o.b0 0).1,(HX.o.b0 1).1,(HX.o.b0 2).1⟩,by have:=HX.o.tail;rw[List.take_length]at this;rw[endsM_len];exact this⟩ ?_;rintro W' ⟨⟨u0,u1,u2⟩,h1⟩;exact bodyPost_ret (v:=Ag #[S j a g,S s (N gs) q,S C (N gs) B]) (by simp[results,results227,go_sem,u0,u1,u2]) rfl ⟨_,rfl,h1⟩
def nst (s:Fn):List Bool:=s.blocks.map λb=>decide (b.op=4)
theorem inv_push (h:Inv s)(a:List Int):Inv (push s a):=⟨h.tk,h.so,λhne=>by have:=h.ht hne;show(top s).height<=(s.stack++a).length;simp;omega⟩
theorem inv_begin (h:Inv s)(op:Int)(f:List Int):Inv (QI s op f):=by
 refine⟨λb d=>?_,?_,λ_=>?_⟩
 . rcases List.mem_append.1 d with d|d
   . exact h.tk b d
   simp at d;subst d;rfl
 . show(List.map (λb:Blk=>b.height) (s.blocks++[_])).Pairwise (·<=·);rw[Lx,List.pairwise_append];refine⟨h.so,by simp,λa ha b d=>?_⟩;simp at d;subst d;obtain⟨c,g,rfl⟩:=List.mem_map.1 ha;exact h.all c g
 show(top (QI s op f)).height<=N s.stack;simp[top,QI]
theorem inv_die (h:Inv s)(c:s.blocks≠[]):Inv (die s):=by
 obtain⟨f,d⟩:=JL c;have hd:s.blocks.dropLast=f:=by rw[d];simp
 have e:(die s).blocks=f++[{ top s with dead:=true }]:=by simp[die,hd]
 refine⟨λb a=>?_,?_,λ_=>?_⟩
 . rw[e]at a;rcases List.mem_append.1 a with a|a
   . exact h.tk b (by rw[d];exact mL a)
   simp at a;subst a;exact h.tk (top s) (by rw[d];exact mR (List.mem_singleton.2 rfl))
 . rw[e];have:=h.so;rw[d]at this;simpa using this
 have g:top (die s)={ top s with dead:=true }:=top_snoc e;have:=h.ht c;rw[g];show(top s).height<=(s.stack.take (top s).height).length;simp;omega
theorem inv_drop (h:Inv s)(c:s.blocks≠[])(k:N s.stack=(top s).height):Inv { s with blocks:=s.blocks.dropLast }:=by
 obtain⟨g,f⟩:=JL c;have hd:s.blocks.dropLast=g:=by rw[f];simp
 have a:=h.so;rw[f,Lx,List.pairwise_append]at a;refine⟨λb hb'=>h.tk b ?_,?_,λhne'=>?_⟩
 . rw[f];rw[hd]at hb';exact mL hb'
 . show(List.map (λb:Blk=>b.height) s.blocks.dropLast).Pairwise (·<=·);rw[hd];exact a.1
 show(top { s with blocks:=s.blocks.dropLast }).height<=N s.stack;obtain⟨cs,j⟩:=JL (s:={ s with blocks:=s.blocks.dropLast }) hne';have d:g=cs++[top { s with blocks:=s.blocks.dropLast }]:=by rw[<- hd];exact j
 have:=a.2.2 (top { s with blocks:=s.blocks.dropLast }).height (by rw[d];simp) (top s).height (by simp);omega
structure Kp (s s':Fn)(n:List Bool):Prop where
 inv:Inv s'
 ps:s'.ps=s.ps
 locs:s'.locs=s.locs
 st:N s'.stack<=N s.stack+1048576
 bl:N s'.blocks<=N s.blocks+1
 rl:(∀b∈s.blocks,N b.results<=1048576)->∀b∈s'.blocks,N b.results<=1048576
 nst:nst s'=n
theorem kp_die {m:List Int}(h:JB s m=.ok s1)(i:Inv s)(k:s.blocks≠[]):Kp s s1 (nst s):=by
 unfold JB at h;cases hp:Xm s m with
 |error f=>rw[hp]at h;cases h
 |ok s2 =>
  rw[hp]at h;cases h;obtain⟨j,q,p,r,o⟩:=Jt hp i;have c:s2.blocks≠[]:=by rw[j];exact k
  obtain⟨l,g⟩:=JL c;have hd:s2.blocks.dropLast=l:=by rw[g];simp
  have e:(die s2).blocks=l++[{ top s2 with dead:=true }]:=by simp[die,hd]
  have d:(die s2).blocks.length=N s2.blocks:=by rw[e,g];simp
  refine⟨inv_die o c,q,p,?_,by rw[d,j];omega,λhr b a=>?_,?_⟩
  . have:(die s2).stack.length<=N s2.stack:=by simp[die];omega
    omega
  . rw[e]at a;rw[<- j]at hr
    rcases List.mem_append.1 a with a|a
    . exact hr b (by rw[g];exact mL a)
    . simp at a;subst a
      exact hr (top s2) (by rw[g];exact mR (List.mem_singleton.2 rfl))
  . have n:nst s=(l++[top s2]).map (λb=>decide (b.op=4)):=by rw[nst,<- j,g]
    rw[n,nst,e];simp
theorem kp_pop (d:Inv s1)(c:s1.blocks=s.blocks)(g:s1.ps=s.ps)(f:s1.locs=s.locs)(k:N s1.stack<=N s.stack)(a:List Int)(j:N a<=1048576):Kp s (push s1 a) (nst s) :=
 ⟨inv_push d a,g,f,by show(s1.stack++a).length<=_;simp;omega,by show(N s1.blocks)<=_;rw[c];omega,λhr b hb=>hr b (by rw[<- c];exact hb),by show s1.blocks.map _=_;rw[c];rfl⟩
theorem kp_begin (f:Inv s1)(d:s1.blocks=s.blocks)(k:s1.ps=s.ps)(j:s1.locs=s.locs)(l:N s1.stack<=N s.stack)(op:Int)(c:List Int)(g:N c<=1048576):Kp s (QI s1 op c) (nst s++[decide (op=4)]):=by
 refine⟨inv_begin f op c,k,j,by show(N s1.stack)<=_;omega,by simp[QI,d],λhr b a=>?_,by simp[nst,QI,d]⟩;rcases List.mem_append.1 a with a|a
 . exact hr b (by rw[<- d];exact a)
 simp at a;subst a;exact g
theorem resOf_len (a:Int):(Qi a).length<=1:=by unfold Qi;split<;>simp
theorem finish_kp (h:Qw s=.ok (b,s1))(i:Inv s)(c:s.blocks≠[]):Inv s1/\b=top s/\s1.blocks=s.blocks.dropLast/\s1.ps=s.ps/\s1.locs=s.locs/\N s1.stack<=N s.stack:=by
 unfold Qw at h;cases hp:Xm s (top s).results with
 |error f=>rw[hp]at h;cases h
 |ok s2 =>
  rw[hp]at h
  simp only[Except.bind]at h
  obtain⟨d,m,l,k,j⟩:=Jt hp i
  split at h
  · cases h
  . rename_i g
    cases h
    have a:s2.blocks≠[]:=by rw[d];exact c
    exact⟨inv_drop j a (by rw[top_eq d];simpa using g),rfl,by simp[d],m,l,k⟩
theorem top_mem (a:s.blocks≠[]):top s∈s.blocks:=by
 obtain⟨c,b⟩:=JL a;rw[b];exact mR (List.mem_singleton.2 rfl)
theorem insTy_rs {y:In}(C:CxB x)(B:Bd s)(d:0<=y.a)(g:Qk x frm s y=true):(QU x oty s y).rs.length<=1048576:=by
 obtain⟨k,a,b,v,l⟩:=y;obtain⟨j,rfl⟩:∃j:Nat,a=j:=⟨a.toNat,by dsimp only at d;omega⟩;have H:∀(xs:List Qe),(∀t∈xs,N t.ps<=1048576/\N t.rs<=1048576)->(xs.getD j Qe.z).rs.length<=1048576:=λxs h=>by
  by_cases c:j<N xs
  . exact(h _ (XO c)).2
  simp[Kg,List.getElem?_eq_none (by omega:N xs<=j),Qe.z]
 unfold QU;dsimp only;split
 · by_cases c:j<N s.blocks
   . exact B.tl _ (Xb c)
   rename_i f;subst f;(have:Qk x frm s ⟨13,j,b,v,l⟩=decide ((j:Int)<N s.blocks):=by simp[Qk,show frm 13=2 by decide +kernel]);rw[this]at g;simp at g;omega
 split
 · simpa using H x.funcs C.fu
 split
 · simpa using H x.types C.ty
 split
 · simp
 split
 · simp
 split
 · simp
 split
 · simp
 split
 · simp
 exact Ky (oty_len k).2 (by omega)
theorem step_kp {y:In}{n:List Bool}(h:step x frm oty s y=.ok s')(C:CxB x)(B:Bd s)(d:s.blocks≠[])(A:0<=y.a)(g:QJ (nst s) y.op=some n):Kp s s' n:=by
 have i:=B.inv;have t:(nst s).isEmpty=false:=by
  cases hb:s.blocks with
  |nil=>exact absurd hb d
  |cons z zs=>simp[nst,hb]
 unfold step at h;split at h
 . cases h
 rename_i X;split at h
 . cases h
 split at h
 . cases h
 have v:Qk x frm s y=true:=by simpa using X
 unfold JO at h;unfold QJ at g;simp only[t]at g;split at h
 . rename_i e;rw[e]at g;simp at g;subst g;exact kp_die h i d
 split at h
 . rename_i e;cases h;(have E:nst s++[decide (y.op=4)]=n:=by rcases e with e|e<;>rw[e]at g⊢<;>simpa using g);rw[<- E];exact kp_begin i rfl rfl rfl lRz y.op _ (Ky (resOf_len _) (by omega))
 split at h
 . rename_i e;rw[e]at g;simp at g;subst g;cases hp:Q4 s 127 with
   |error f=>rw[hp]at h;cases h
   |ok s1 =>
    rw[hp]at h;cases h;obtain⟨u,m⟩:=pop1_of hp;obtain⟨j,l,o,_⟩:=Jo m
    exact kp_begin (XX m i) j l o (JV m) 4 _ (Ky (resOf_len _) (by omega))
 split at h
 . rename_i e;rw[e]at g;simp at g;cases hp:Qw s with
   |error f=>rw[hp]at h;cases h
   |ok r =>
    obtain⟨b,s1⟩:=r;rw[hp]at h;cases h;obtain⟨L,j,l,o,q,I⟩:=finish_kp hp i d
    refine⟨inv_begin L 5 _,o,q,by show(N s1.stack)<=_;omega,by simp[QI,l],λhr c p=>?_,?_⟩
    . rcases List.mem_append.1 p with p|p
      . exact hr c (by rw[l]at p;exact(List.dropLast_sublist _).subset p)
      . simp at p;subst p;show(N b.results)<=_;rw[j];exact hr _ (top_mem d)
    . rw[<- g.2];simp[nst,QI,l,List.map_dropLast]
 split at h
 . rename_i e;rw[e]at g;simp at g;cases hp:Qw s with
   |error f=>rw[hp]at h;cases h
   |ok r =>
    obtain⟨b,s1⟩:=r;rw[hp]at h
    simp only[Except.bind]at h
    split at h
    · cases h
    . cases h
      obtain⟨L,j,l,o,q,I⟩:=finish_kp hp i d
      refine⟨inv_push L _,o,q,?_,by show(N s1.blocks)<=_;rw[l];simp;omega,λhr c p=>hr c (by have:c∈s1.blocks:=p;rw[l]at this;exact(List.dropLast_sublist _).subset this),?_⟩
      . have:=B.rl _ (top_mem d)
        show(s1.stack++b.results).length<=_
        rw[j];simp;omega
      . rw[<- g];show s1.blocks.map _=_;rw[l];simp[nst,List.map_dropLast]
 rename_i e0 F e4 Y H;have D:n=nst s:=by rw[if_neg (by simp),if_neg F,if_neg e4,if_neg Y,if_neg H]at g;exact(Option.some.inj g).symm
 rw[D];split at h
 . exact kp_die h i d
 split at h
 . cases hp:Q4 s 127 with
   |error f=>rw[hp]at h;cases h
   |ok s1 =>
    rw[hp]at h
    simp only[Except.bind]at h
    obtain⟨u,m⟩:=pop1_of hp;obtain⟨j,l,o,_⟩:=Jo m
    split at h
    · have k:=kp_die h (XX m i) (by rw[j];exact d)
      have:=JV m
      have V:nst s1=nst s:=by simp[nst,j]
      exact⟨k.inv,k.ps.trans l,k.locs.trans o,by have:=k.st;omega,by have:=k.bl;rw[j]at this;exact this,λhr=>k.rl (by rw[j];exact hr),k.nst.trans V⟩
    . cases h
 split at h
 . exact kp_die h i d
 split at h
 . obtain⟨u,m⟩:=pop1_of h;obtain⟨j,l,o,_⟩:=Jo m;have:=JV m;exact⟨XX m i,l,o,by omega,by rw[j];omega,λhr=>by rw[j];exact hr,by simp[nst,j]⟩
 split at h
 . cases hp:Q4 s 127 with
   |error f=>rw[hp]at h;cases h
   |ok s1 =>
    rw[hp]at h
    simp only[Except.bind]at h
    obtain⟨u,m⟩:=pop1_of hp;obtain⟨j,l,o,_⟩:=Jo m;have l1:=JV m
    cases hp2:pop s1 0 with
    |error f=>rw[hp2]at h;cases h
    |ok r =>
     obtain⟨M,R⟩:=r;rw[hp2]at h
     simp only at h
     obtain⟨b1,b2,b3,_⟩:=Jo hp2;have l2:=JV hp2
     cases hp3:pop R M with
     |error f=>rw[hp3]at h;cases h
     |ok r =>
      obtain⟨t3,s3⟩:=r;rw[hp3]at h;cases h;obtain⟨c1,c2,c3,_⟩:=Jo hp3;have l3:=JV hp3
      exact kp_pop (XX hp3 (XX hp2 (XX m i))) (c1.trans (b1.trans j)) (c2.trans (b2.trans l)) (c3.trans (b3.trans o)) (by omega) _ (by simp)
 unfold apply at h;cases hp:Xm s (QU x oty s y).ps with
 |error f=>rw[hp]at h;cases h
 |ok s1 =>
  rw[hp]at h;cases h;obtain⟨j,l,o,q,I⟩:=Jt hp i
  exact kp_pop I j l o q _ (insTy_rs C B A v)
def InL (D:Nat)(w0:J)(a:Option Addr)(xs:List In):Prop:=xs=[]\/∃b off,a=some ⟨b,off,none⟩/\b<D/\∀i,i<N xs->∃la lc,w0.cell? ⟨b,off+i*5,none⟩=some (U O (xs.getD i I0).op)/\w0.cell? ⟨b,off+i*5+1,none⟩=some (U O (xs.getD i I0).a)/\w0.cell? ⟨b,off+i*5+2,none⟩=some (U O (xs.getD i I0).b)/\w0.cell? ⟨b,off+i*5+3,none⟩=some (U Ou (xs.getD i I0).v)/\w0.cell? ⟨b,off+i*5+4,none⟩=some (S la (xs.getD i I0).l.length lc)/\Ty D w0 [] (S la (xs.getD i I0).l.length lc) (xs.getD i I0).l
abbrev atIns (k:Nat)(e:Vu):Vu:=If 178 (Ag #[U O k,e])
structure InB (y:In):Prop where
 a0:0<=y.a
 a1:y.a<=4294967295
 ll:N y.l<=1048576
 l0:∀i∈y.l,0<=i
def BoP (D:Nat)(w0:J)(ks:List Qc)(r:Except (Int × Nat) Fn)(e:Ending)(w':J):Prop:=(∃f k,r=.error (f,k)/\e=Z (atIns k (flt f))/\Mo D w0 ks w')\/∃s',r=.ok s'/\e=Z Nf/\Mo D w0 ks w'
theorem bodyG_drop (x:Ctx)(frm:Int->Int)(oty:Int->Qe)(s:Fn)(xs:List In)(k:Nat)(h:k<N xs):JQ x frm oty s k (xs.drop k)=match step x frm oty s (xs.getD k I0)with|.error e=>.error (e,k)|.ok s'=>JQ x frm oty s' (k+1) (xs.drop (k+1)):=by
 rw[Xv xs k h,JQ];cases step x frm oty s (xs.getD k I0)<;>rfl
theorem bd_next {n:List Bool}{k:Nat}(B:Bd s)(K:Kp s s' n)(c:k<1048576)(d:N s.blocks<=k+1)(b:N s.stack<=k*1048576):Bd s'/\N s'.blocks<=k+1+1/\N s'.stack<=(k+1)*1048576:=by
 have g:=K.bl;have f:=K.st;have a:N s'.stack<=(k+1)*1048576:=by rw[Nat.add_mul];omega
 refine⟨⟨K.inv,by omega,by omega,K.rl B.rl,by rw[K.locs];exact B.nn,by rw[K.ps];exact B.pl,by rw[K.locs];exact B.gl⟩,by omega,a⟩
theorem ilistB_c (a:Option Addr)(c:Nat)(xs:List In)(h:ISt D w0 p (Yp (some ⟨q,0,none⟩)) l ks s V)(ah:SpR D w0 q x fo go bd m ks)(ak:JS D w0 ks l s.ps s.locs)(B:Bd s)(C:CxB x)(a5:N s.blocks<=1)(bw:N s.stack=0)(hL:InL D w0 a xs)(hI:∀y∈xs,InB y)(bu:N xs<=1048576)(ao:goM (nst s) xs=true):Ec Q 200 #[S a (N xs) c,.func (.func 207) #[Yp (some ⟨p,0,none⟩)] #[]] V (BoP D w0 ks (JQ x frm oty s 0 xs)):=by
 obtain⟨M,hM⟩:∃M,M=JQ x frm oty s 0 xs:=⟨_,rfl⟩;rw[<- hM];have HS:=Hm (⟨h,B,ao⟩:ISt D w0 p (Yp (some ⟨q,0,none⟩)) l ks s V/\Bd s/\goM (nst s) xs=true);have a9:=Hm ah;have ac:=Hm ak;have HL:=Hm hL;have ad:=Hm hI;have ab:=Hm hM;have bj:N s.blocks<=1:=a5;clear h ah ak B hL hI ao hM;go_enter func200,ntmps200;go_wp2;go_loopw [10] (λi wr=>∃(k:Nat) (s1:Fn) (ns:List Qc),k<=N xs/\i=U O k/\ISt D w0 p (Yp (some ⟨q,0,none⟩)) l (ns++ks) s1 wr/\Bd s1/\N s1.blocks<=k+1/\N s1.stack<=k*1048576/\s1.ps=s.ps/\s1.locs=s.locs/\goM (nst s1) (xs.drop k)=true/\M=JQ x frm oty s1 k (xs.drop k)) (λi _=>N xs-(intOf i).toNat)
 case atStart=>exact⟨0,s,[],Kz _,rfl,HS.o.1,HS.o.2.1,by omega,by omega,rfl,rfl,HS.o.2.2,ab.o⟩
 obtain⟨k,s1,ns,hk,rfl,z,B1,X,H,e1,e2,d,j⟩:=hrel;by_cases r:k<N xs
 . (have bz:(k:Int)<(N xs:Int):=by omega);rcases HL.o with hx|⟨b,off,a7,hb,hc⟩
   . subst hx;simp at r
   subst a7;obtain⟨la,lc,c0,c1,c2,c3,c4,tL⟩:=hc k r;have g:=ad.o (xs.getD k I0) (by simp[Kg,r]);rw[Xv xs k r]at d;have aj:=z.mo.b;have kp:=λ(o:Nat) (u:Vu) (hu:w0.cell? ⟨b,o,none⟩=some u)=>(aj.cell (p:=⟨b,o,none⟩) hb).trans hu;have d0:=kp _ _ c0;have d1:=kp _ _ c1;have d2:=kp _ _ c2;have d3:=kp _ _ c3;have d4:=kp _ _ c4;rw[bodyG_drop x frm oty s1 xs k r]at j;obtain⟨y,hy⟩:∃y,y=xs.getD k I0:=⟨_,rfl⟩;rw[<- hy]at d0 d1 d2 d3 d4 tL g d j;have R:gd y=true:=by
    by_cases e:gd y=true
    . exact e
    simp[goM,e]at d
   obtain⟨n',L,F⟩:∃n',QJ (nst s1) y.op=some n'/\goM n' (xs.drop (k+1))=true:=by
    cases hsm:QJ (nst s1) y.op with
    |none=>simp[goM,R,hsm]at d
    |some n'=>exact⟨n',rfl,by simpa[goM,R,hsm]using d⟩
   (have I:s1.blocks≠[]:=λe=>by simp[QJ,nst,e]at L);obtain⟨W,hW⟩:∃W,W=wr.alloc (Fc #[U O y.op,U O y.a,U O y.b,U Ou y.v,S la (N y.l) lc] 204):=⟨_,rfl⟩;(have ba:Below wr.heap.size wr W:=by rw[hW];exact bFz.alloc lRz _);(have kk:C5 W wr.heap.size 0 (U O y.op) (U O y.a) (U O y.b) (U Ou y.v) (S la (N y.l) lc):=by rw[hW];exact C5.new);obtain⟨⟨f0,f1,f2,f3,f4⟩,cf⟩:=kk;have a8:=Hm (istep_c y la lc (z.keep ba) (a9.o.sub mem_app) (by rw[e1,e2];exact⟨ac.o.1.sub mem_app,ac.o.2.1,ac.o.2.2.sub mem_app⟩) B1 C I g.a0 g.a1 (by have:=g.ll;omega) tL g.l0);have HK:=Hm (λs' (hs':step x frm oty s1 y=.ok s')=>step_kp hs' C B1 I g.a0 L);have av:=Hm (λs' n (K:Kp s1 s' n)=>bd_next B1 K (k:=k) (by omega) X H);have aa:=Hm j;have aq:=Hm F;have au:=Hm e1;have ar:=Hm e2;clear z B1 X H e1 e2 d j hc c0 c1 c2 c3 c4 tL g hy R L I ba cf aj kp F HL ad HS ab;(go_upto_region 4 with fail);rw[<- hW];clear hW;(go_wp2_with fail);refine a8.o.mono ?_;rintro e w2 (⟨f,hr,rfl,t⟩|⟨s2,ns2,hr,rfl,hI2⟩)
   . (have E:Hid (M=.error (f,k)):=by show M=_;rw[aa.o,hr]);have A:=Hm t.right;clear hr t;go_wp2;go_ret;exact .inl ⟨f,k,E.o,rfl,A.o⟩
   (have E:Hid (M=JQ x frm oty s2 (k+1) (xs.drop (k+1))):=by show M=_;rw[aa.o,hr]);have K:=HK.o s2 hr;obtain⟨B2,t,ai⟩:=av.o s2 _ K;have Y:Hid (s2.ps=s.ps/\s2.locs=s.locs/\goM (nst s2) (xs.drop (k+1))=true):=⟨K.ps.trans au.o,K.locs.trans ar.o,by rw[K.nst];exact aq.o⟩;(have bf:Hid (ISt D w0 p (Yp (some ⟨q,0,none⟩)) l ((ns2++ns)++ks) s2 w2):=by show ISt D w0 p _ l ((ns2++ns)++ks) s2 w2;rw[List.append_assoc];exact hI2);have A:=Hm (⟨B2,t,ai⟩:Bd s2/\N s2.blocks<=k+1+1/\N s2.stack<=(k+1)*1048576);clear hr K B2 t ai hI2 HK av aa aq au ar;go_wp2;(go_roundw);(case rel=>exact⟨k+1,s2,ns2++ns,by omega,by go_num,bf.o,A.o.1,A.o.2.1,A.o.2.2,Y.o.1,Y.o.2.1,Y.o.2.2,E.o⟩);case measure=>simp[intOf];omega
 have e:k=N xs:=by omega
 subst e;have E:Hid (M=.ok s1):=by show M=_;rw[j,List.drop_of_length_le lRz];rfl
 have bb:=Hm z.mo.right;clear z B1 X H e1 e2 d j HL ad HS ab;go_wp2;go_ret;exact .inr ⟨s1,E.o,rfl,bb.o⟩
structure MS where
 s:Fn
 e:Int
def fail (m:MS)(f:Int):MS:=if m.e=0 then { m with e:=f }else m
def JD (m:MS)(s:Fn):MS:={ m with s:=s }
def QC (m:MS)(want:Int):Int × MS :=
 if(N m.s.stack)<=(top m.s).height then(want,if(top m.s).dead then m else fail m 6)else
  (if m.s.stack.getLastD 0=0 then want else m.s.stack.getLastD 0,
   if m.s.stack.getLastD 0≠want/\m.s.stack.getLastD 0≠0/\want≠0 then fail (JD m { m.s with stack:=m.s.stack.dropLast }) 6 else JD m { m.s with stack:=m.s.stack.dropLast })
def JP (m:MS):List Int->MS
 |[]=>m
 |t::ts=>JP (QC m t).2 ts
def Qr (m:MS)(ts:List Int):MS:=JP m ts.reverse
def Xa (m:MS)(ts:List Int):MS:=JD m (push m.s ts)
def mdie (m:MS):MS:=JD m (die m.s)
def mopen (m:MS)(op:Int)(rs:List Int):MS:=JD (if op=4 then(QC m 127).2 else m) (QI (if op=4 then(QC m 127).2 else m).s op rs)
def mchk (m:MS)(els:Bool):MS:=if(Qr m (top m.s).results).s.stack.length≠(top m.s).height\/(els=false/\(top m.s).op=4/\(top m.s).results≠[])then fail (Qr m (top m.s).results) 6 else Qr m (top m.s).results
def els5 (b:Blk):Blk:={ b with op:=if b.op=4 then 5 else b.op,dead:=false }
def Q9 (m:MS)(els:Bool):MS :=
 if(mchk m els).e≠0 then mchk m els else
 if els then JD (mchk m els) { (mchk m els).s with blocks:=(mchk m els).s.blocks.dropLast++[els5 (top m.s)] }
 else JD (mchk m els) (push { (mchk m els).s with blocks:=(mchk m els).s.blocks.dropLast } (top m.s).results)
def mtab (m:MS)(l:List Int)(a:Int):MS:=if l.all (λi=>decide ((label m.s i).takes=(label m.s a).takes))then m else fail m 6
def mtable (m:MS)(l:List Int)(a:Int):MS:=mdie (Qr (mtab (QC m 127).2 l a) (label (QC m 127).2.s a).takes)
def mselect (m:MS):MS:=Xa (QC (QC (QC m 127).2 0).2 (QC (QC m 127).2 0).1).2 [(QC (QC (QC m 127).2 0).2 (QC (QC m 127).2 0).1).1]
def mapp (m:MS)(t:Qe):MS:=Xa (Qr m t.ps) t.rs
def Q7 (x:Ctx)(oty:Int->Qe)(m:MS)(y:In):MS :=
 if y.op=0 then mdie m else
 if y.op=2\/y.op=3\/y.op=4 then mopen m y.op (Qi y.a)else
 if y.op=5\/y.op=11 then Q9 m (decide (y.op=5))else
 if y.op=12 then mdie (Qr m (label m.s y.a).takes)else
 if y.op=14 then mtable m y.l y.a else
 if y.op=15 then mdie (Qr m (m.s.blocks.headD ⟨0,[],[],0,false⟩).results)else
 if y.op=26 then(QC m 0).2 else
 if y.op=27 then mselect m else mapp m (QU x oty m.s y)
def Qq (x:Ctx)(frm:Int->Int)(s:Fn)(y:In):Int :=
 if Qk x frm s y=false then 2 else
 if frm y.op=5/\Jk y.op<y.a then 8 else
 if y.op=36/\(Q3 x y.a).mu=false then 9 else 0
def Qu (x:Ctx)(frm:Int->Int)(oty:Int->Qe)(s:Fn)(y:In):MS:=if Qq x frm s y≠0 then⟨s,Qq x frm s y⟩else Q7 x oty ⟨s,0⟩ y
def Rf (r:R Fn)(m:MS):Prop:=(∃s,r=.ok s/\m=⟨s,0⟩)\/∃f,r=.error f/\m.e=f/\f≠0
def E0 (g:MS->MS):Prop:=∀m,m.e≠0->(g m).e=m.e
theorem fail_e (m:MS)(f:Int)(h:m.e≠0):fail m f=m:=by simp[fail,h]
theorem fail_s (m:MS)(f:Int):(fail m f).s=m.s:=by unfold fail;split<;>rfl
theorem Rf.bind {r:R Fn}{m:MS}(h:Rf r m){f:Fn->R Fn}{g:MS->MS}(c:E0 g)(d:∀s,r=.ok s->Rf (f s) (g ⟨s,0⟩)):Rf (r.bind f) (g m):=by
 rcases h with ⟨s,rfl,rfl⟩|⟨e,rfl,b,a⟩
 . exact d s rfl
 exact .inr ⟨e,rfl,(c m (by rw[b];exact a)).trans b,a⟩
theorem Rf.map {r:R Fn}{m:MS}(h:Rf r m)(f:Fn->Fn):Rf (r.map f) (JD m (f m.s)):=by
 rcases h with ⟨s,rfl,rfl⟩|⟨e,rfl,b,a⟩
 . exact .inl ⟨_,rfl,rfl⟩
 exact .inr ⟨e,rfl,b,a⟩
theorem mpop_rf (s:Fn)(want:Int):(∃t s',pop s want=.ok (t,s')/\QC ⟨s,0⟩ want=(t,⟨s',0⟩))\/(pop s want=.error 6/\(QC ⟨s,0⟩ want).2.e=6):=by
 unfold pop QC;dsimp only;by_cases h:N s.stack<=(top s).height
 . rw[if_pos h,if_pos h];cases hd:(top s).dead
   . right;simp[fail]
   left;exact⟨want,s,by simp,by simp⟩
 rw[if_neg h,if_neg h];by_cases a:s.stack.getLastD 0=0
 . left;refine⟨want,{ s with stack:=s.stack.dropLast },by rw[if_pos a],?_⟩;rw[if_pos a,if_neg (λc=>c.2.1 a)];rfl
 by_cases b:want≠0/\want≠s.stack.getLastD 0
 . right;refine⟨by rw[if_neg a,if_pos b],?_⟩;have c:s.stack.getLastD 0≠want/\s.stack.getLastD 0≠0/\want≠0:=⟨λe=>b.2 e.symm,a,b.1⟩;show(if s.stack.getLastD 0≠want/\s.stack.getLastD 0≠0/\want≠0 then fail (JD ⟨s,0⟩ { s with stack:=s.stack.dropLast }) 6 else JD ⟨s,0⟩ { s with stack:=s.stack.dropLast }).e=6;rw[if_pos c];rfl
 left;refine⟨_,_,by rw[if_neg a,if_neg b],?_⟩;rw[if_neg a,if_neg (λc=>b ⟨c.2.2,λe=>c.1 e.symm⟩)];rfl
theorem mpop_e (want:Int)(m:MS)(h:m.e≠0):(QC m want).2.e=m.e:=by
 unfold QC;split
 · dsimp only;split
   · rfl
   rw[fail_e m 6 h]
 dsimp only;split
 · rw[fail_e _ 6 (by exact h)];rfl
 rfl
theorem mpop1_rf (s:Fn)(want:Int):Rf (Q4 s want) (QC ⟨s,0⟩ want).2:=by
 rcases mpop_rf s want with ⟨t,s',b,a⟩|⟨b,a⟩
 . exact .inl ⟨s',by rw[Q4,b];rfl,by rw[a]⟩
 exact .inr ⟨6,by rw[Q4,b];rfl,a,by decide⟩
theorem mpopR_e:∀(a:List Int) (m:MS),m.e≠0->(JP m a).e=m.e
 |[],m,h=>rfl
 |t::a,m,h=>by
  have b:=mpop_e t m h;rw[JP,mpopR_e a _ (by rw[b];exact h),b]
theorem mpopR_rf:∀(a:List Int) (s:Fn),Rf (XJ s a) (JP ⟨s,0⟩ a)
 |[],s=>.inl ⟨s,rfl,rfl⟩
 |t::a,s=>by
  rw[XJ,JP]
  exact(mpop1_rf s t).bind (g:=λm=>JP m a) (mpopR_e a) λs' _=>mpopR_rf a s'
theorem mpopAll_rf (s:Fn)(a:List Int):Rf (Xm s a) (Qr ⟨s,0⟩ a):=mpopR_rf _ s
theorem mpopAll_e (a:List Int):E0 (λm=>Qr m a):=mpopR_e _
structure Pk (s s':Fn):Prop where
 bl:s'.blocks=s.blocks
 ps:s'.ps=s.ps
 lo:s'.locs=s.locs
 ln:N s'.stack<=N s.stack
 iv:Inv s->Inv s'
theorem Pk.refl (s:Fn):Pk s s:=⟨rfl,rfl,rfl,lRz,id⟩
theorem Pk.trans {a b c:Fn}(h:Pk a b)(k:Pk b c):Pk a c:=⟨k.bl.trans h.bl,k.ps.trans h.ps,k.lo.trans h.lo,Ky k.ln h.ln,λi=>k.iv (h.iv i)⟩
theorem Pk.label {a b:Fn}(h:Pk a b)(i:Int):label b i=label a i:=by simp[Va.label,h.bl]
theorem XK (m:MS)(want:Int):Pk m.s (QC m want).2.s:=by
 unfold QC;split
 · dsimp only;split
   · exact Pk.refl _
   rw[fail_s];exact Pk.refl _
 rename_i h;have k:Pk m.s { m.s with stack:=m.s.stack.dropLast }:=⟨rfl,rfl,rfl,by simp,fun i=>⟨i.tk,i.so,fun _=>by
  show(top m.s).height<=N m.s.stack.dropLast
  simp;omega⟩⟩
 dsimp only;split
 · rw[fail_s];exact k
 exact k
theorem mpopR_pk:∀(a:List Int) (m:MS),Pk m.s (JP m a).s
 |[],m=>Pk.refl _
 |t::a,m=>(XK m t).trans (mpopR_pk a _)
theorem JH (m:MS)(a:List Int):Pk m.s (Qr m a).s:=mpopR_pk _ m
theorem mapp_rf (s:Fn)(t:Qe):Rf (apply s t) (mapp ⟨s,0⟩ t):=(mpopAll_rf s t.ps).map _
theorem leave_rf (s:Fn)(a:List Int):Rf (JB s a) (mdie (Qr ⟨s,0⟩ a)):=(mpopAll_rf s a).map _
theorem mselect_rf (s:Fn):Rf ((Q4 s 127).bind λs1=>(pop s1 0).bind λp=>(pop p.2 p.1).map λq=>push q.2 [q.1]) (mselect ⟨s,0⟩):=by
 have E:E0 (λm=>Xa (QC (QC m 0).2 (QC m 0).1).2 [(QC (QC m 0).2 (QC m 0).1).1]):=λm h=>by show(QC (QC m 0).2 (QC m 0).1).2.e=m.e;have a:=mpop_e 0 m h;rw[mpop_e _ _ (by rw[a];exact h),a]
 refine(mpop1_rf s 127).bind (g:=λm=>Xa (QC (QC m 0).2 (QC m 0).1).2 [(QC (QC m 0).2 (QC m 0).1).1]) E λs1 _=>?_;try dsimp only
 rcases mpop_rf s1 0 with ⟨t,b,a,c⟩|⟨a,c⟩
 . rw[a,c];show Rf ((pop b t).map λq=>push q.2 [q.1]) (Xa (QC ⟨b,0⟩ t).2 [(QC ⟨b,0⟩ t).1]);rcases mpop_rf b t with ⟨u,j,f,d⟩|⟨f,d⟩
   . rw[f,d];exact .inl ⟨_,rfl,rfl⟩
   rw[f];exact .inr ⟨6,rfl,d,by decide⟩
 rw[a];exact .inr ⟨6,rfl,by show(QC (QC ⟨s1,0⟩ 0).2 _).2.e=6;rw[mpop_e _ _ (by rw[c];decide),c],by decide⟩
theorem mtab_e (l:List Int)(a:Int)(m:MS)(h:m.e≠0):mtab m l a=m:=by
 unfold mtab;split
 · rfl
 exact fail_e m 6 h
theorem mtable_rf (s:Fn)(l:List Int)(a:Int):Rf ((Q4 s 127).bind λs'=>if l.all (λi=>decide ((label s' i).takes=(label s' a).takes))then JB s' (label s' a).takes else .error 6) (mtable ⟨s,0⟩ l a):=by
 have E:E0 (λm=>mdie (Qr (mtab m l a) (label m.s a).takes)):=λm h=>by show(Qr (mtab m l a) (label m.s a).takes).e=m.e;rw[mtab_e l a m h];exact mpopAll_e _ m h
 refine(mpop1_rf s 127).bind (g:=λm=>mdie (Qr (mtab m l a) (label m.s a).takes)) E λs1 _=>?_;try dsimp only
 by_cases h:l.all (λi=>decide ((label s1 i).takes=(label s1 a).takes))=true
 . rw[if_pos h,mtab,if_pos h];exact leave_rf s1 _
 rw[if_neg h];refine .inr ⟨6,rfl,?_,by decide⟩;have e:mtab ⟨s1,0⟩ l a=⟨s1,6⟩:=by rw[mtab,if_neg h];rfl
 show(Qr (mtab ⟨s1,0⟩ l a) _).e=6;rw[e];exact mpopAll_e _ ⟨s1,6⟩ (by show(6:Int)≠0;decide)
theorem mopen_rf (s:Fn)(op:Int)(a:List Int)(h:op=2\/op=3\/op=4):Rf (if op=4 then(Q4 s 127).map (QI · 4 a)else .ok (QI s op a)) (mopen ⟨s,0⟩ op a):=by
 unfold mopen;by_cases b:op=4
 . subst b;simp only[if_true];exact(mpop1_rf s 127).map _
 simp only[if_neg b];exact .inl ⟨_,rfl,rfl⟩
theorem mclose_rf (s:Fn)(a:Bool)(i:Inv s)(r:s.blocks≠[])(v:a=true->(top s).op=4):Rf (if a then(Qw s).map λp=>QI p.2 5 p.1.results else (Qw s).bind λp=>if p.1.op=4/\p.1.results≠[]then .error 6 else .ok (push p.2 p.1.results)) (Q9 ⟨s,0⟩ a):=by
 rcases mpopAll_rf s (top s).results with ⟨s1,o,k⟩|⟨f,o,k,n⟩
 . obtain⟨y,C,B,A,z⟩:=Jt o i;(have m:Qw s=if(N s1.stack)≠(top s).height then .error 6 else .ok (top s,{ s1 with blocks:=s1.blocks.dropLast }):=by rw[Qw,o];rfl);(have b:mchk ⟨s,0⟩ a=if(N s1.stack)≠(top s).height\/(a=false/\(top s).op=4/\(top s).results≠[])then⟨s1,6⟩else ⟨s1,0⟩:=by unfold mchk;rw[k];rfl);by_cases j:N s1.stack=(top s).height
   . (have d:Qw s=.ok (top s,{ s1 with blocks:=s1.blocks.dropLast }):=by rw[m,if_neg (λc=>c j)]);rw[d];have b:mchk ⟨s,0⟩ a=if a=false/\(top s).op=4/\(top s).results≠[]then⟨s1,6⟩else ⟨s1,0⟩:=by
      rw[b];by_cases q:a=false/\(top s).op=4/\(top s).results≠[]
      . rw[if_pos (.inr q),if_pos q]
      rw[if_neg (λc=>c.elim (λc=>c j) q),if_neg q]
     cases a
     . simp only[Ik,if_false];show Rf (if(top s).op=4/\(top s).results≠[]then .error 6 else .ok (push { s1 with blocks:=s1.blocks.dropLast } (top s).results)) _;by_cases l:(top s).op=4/\(top s).results≠[]
       . rw[if_pos l];rw[if_pos ⟨rfl,l⟩]at b;exact .inr ⟨6,rfl,by simp[Q9,b],by decide⟩
       rw[if_neg l];rw[if_neg (λc=>l c.2)]at b;exact .inl ⟨_,rfl,by simp[Q9,b,JD]⟩
     rw[if_neg (by simp)]at b;simp only[if_true];refine .inl ⟨_,rfl,?_⟩;have t:=v rfl;have u:=i.tk (top s) (top_mem r);simp only[Q9,b,JD,QI,els5];simp[t,j,y];rw[u,t];simp
   (have d:Qw s=.error 6:=by rw[m,if_pos j]);rw[d];rw[if_pos (.inl j)]at b;(have g:(Q9 ⟨s,0⟩ a).e=6:=by simp[Q9,b]);cases a
   . exact .inr ⟨6,rfl,g,by decide⟩
   exact .inr ⟨6,rfl,g,by decide⟩
 have m:Qw s=.error f:=by rw[Qw,o];rfl
 have b:(mchk ⟨s,0⟩ a).e=f:=by
  unfold mchk;dsimp only;split
  · rw[fail_e _ 6 (by rw[k];exact n)];exact k
  exact k
 have g:(Q9 ⟨s,0⟩ a).e=f:=by unfold Q9;rw[if_pos (by rw[b];exact n)];exact b
 rw[m];cases a
 . exact .inr ⟨f,rfl,g,n⟩
 exact .inr ⟨f,rfl,g,n⟩
theorem mstep_rf (x:Ctx)(frm:Int->Int)(oty:Int->Qe)(s:Fn)(y:In)(i:Inv s)(n:s.blocks≠[])(t:y.op=5->(top s).op=4):Rf (step x frm oty s y) (Qu x frm oty s y):=by
 unfold step Qu;by_cases j:Qk x frm s y=false
 . (have e:Qq x frm s y=2:=by rw[Qq,if_pos j]);rw[if_pos j,e,if_pos (by decide)];exact .inr ⟨2,rfl,rfl,by decide⟩
 by_cases c2:frm y.op=5/\Jk y.op<y.a
 . (have e:Qq x frm s y=8:=by rw[Qq,if_neg j,if_pos c2]);rw[if_neg j,if_pos c2,e,if_pos (by decide)];exact .inr ⟨8,rfl,rfl,by decide⟩
 by_cases p:y.op=36/\(Q3 x y.a).mu=false
 . (have e:Qq x frm s y=9:=by rw[Qq,if_neg j,if_neg c2,if_pos p]);rw[if_neg j,if_neg c2,if_pos p,e,if_pos (by decide)];exact .inr ⟨9,rfl,rfl,by decide⟩
 have e:Qq x frm s y=0:=by rw[Qq,if_neg j,if_neg c2,if_neg p]
 rw[if_neg j,if_neg c2,if_neg p,e,if_neg (by decide)];unfold JO Q7;dsimp only;by_cases o:y.op=0
 . rw[if_pos o,if_pos o];exact leave_rf s []
 rw[if_neg o,if_neg o];by_cases r:y.op=2\/y.op=3
 . have:=mopen_rf s y.op (Qi y.a) (by omega);rw[if_neg (by omega)]at this;rw[if_pos r,if_pos (show y.op=2\/y.op=3\/y.op=4 by omega)];exact this
 rw[if_neg r];by_cases q:y.op=4
 . have:=mopen_rf s y.op (Qi y.a) (by omega);rw[if_pos q]at this;rw[if_pos q,if_pos (show y.op=2\/y.op=3\/y.op=4 by omega)];exact this
 rw[if_neg q,if_neg (show ¬(y.op=2\/y.op=3\/y.op=4) by omega)];by_cases k:y.op=5
 . have:=mclose_rf s true i n (λ_=>t k);simp only[if_true]at this;rw[if_pos k,if_pos (show y.op=5\/y.op=11 by omega),show decide (y.op=5)=true by simp[k]];exact this
 rw[if_neg k];by_cases m:y.op=11
 . have:=mclose_rf s false i n (λh=>by cases h);simp only[Ik,if_false]at this;rw[if_pos m,if_pos (show y.op=5\/y.op=11 by omega),show decide (y.op=5)=false by simp[k]];exact this
 rw[if_neg m,if_neg (show ¬(y.op=5\/y.op=11) by omega)];by_cases g:y.op=12
 . rw[if_pos g,if_pos g];exact leave_rf s _
 rw[if_neg g,if_neg g];by_cases f:y.op=14
 . rw[if_pos f,if_pos f];exact mtable_rf s y.l y.a
 rw[if_neg f,if_neg f];by_cases d:y.op=15
 . rw[if_pos d,if_pos d];exact leave_rf s _
 rw[if_neg d,if_neg d];by_cases c:y.op=26
 . rw[if_pos c,if_pos c];exact mpop1_rf s 0
 rw[if_neg c,if_neg c];by_cases b:y.op=27
 . rw[if_pos b,if_pos b];exact mselect_rf s
 rw[if_neg b,if_neg b];exact mapp_rf s _
theorem locG_ps:∀(a:List Int) (gs:List Grp) (i:Int),0<=i->XQ (a.map (λt=>⟨1,t⟩)++gs) i=if i<N a then a.getD i.toNat 0 else XQ gs (i-N a)
 |[],gs,i,h=>by simp;intro b;omega
 |p::a,gs,i,h=>by
  simp only[Rk,List.cons_append,XQ]
  by_cases c:i<1
  . have:i=0:=by omega
    subst this
    simp
  . rw[if_neg c,locG_ps a gs (i-1) (by omega)];obtain⟨j,rfl⟩:∃j:Nat,i=(j+1:Nat):=⟨(i-1).toNat,by omega⟩;have e:((j+1:Nat):Int)-1=j:=by omega
    rw[e]
    simp only[Ex,Hx]
    by_cases b:(j:Int)<N a
    . rw[if_pos b,if_pos (by omega)];simp
    . rw[if_neg b,if_neg (by omega)];congr 1;omega
abbrev QP (s:Fn):List Grp:=s.ps.map (λt=>⟨1,t⟩)++s.locs
theorem loc_eq (s:Fn)(i:Int)(h:0<=i):XQ (QP s) i=loc s i:=by rw[loc,locG_ps _ _ _ h]
theorem nloc_eq (s:Fn):((QP s).map (·.n)).sum=X3 s:=by
 rw[X3,Lx,List.sum_append];congr 1
 simp only[List.map_map];induction s.ps with
 |nil=>rfl
 |cons p ps ih=>simp only[Rk,List.sum_cons,Ex,ih];show(1:Int)+_=_;simp;omega
abbrev sb (lv:Vu)(nl:Int)(s b:Vu)(e po:Int):List Vu:=[lv,U O nl,s,b,U O e,U O po]
abbrev mbk (tv rv:Vu)(h:Int)(d i:Bool)(a:Int)(l:Bool):List Vu:=[tv,rv,U O h,G d,G i,U O a,G l]
def MRep (D:Nat)(w0:J)(ks:List Qc)(b:Blk)(cs:List Vu):Prop:=∃tv rv a,cs=mbk tv rv b.height b.dead (decide (b.op=4)) a (decide (b.op=3))/\Ty D w0 ks tv b.takes/\Ty D w0 ks rv b.results
theorem mrep_len (b:Blk)(c:List Vu)(h:MRep D w0 ks b c):N c=7:=by obtain⟨d,rv,a,rfl,_⟩:=h;rfl
abbrev mxR (p:Nat)(lv:Vu)(nl:Int)(sv bv:Vu)(e po:Int):Qc:=box 217 6 p (sb lv nl sv bv e po)
abbrev mlR (n:Nat)(bv:Vu)(cs:List Vu):Qc:=⟨265,7,n,bv,cs⟩
def MSt (D:Nat)(w0:J)(p:Nat)(lv:Vu)(nl:Int)(ks:List Qc)(m:MS)(V:J):Prop:=∃sv bv bcs po,Mo D w0 (mxR p lv nl sv bv m.e po::stR m.s sv::mlR (N m.s.blocks) bv bcs::ks) V/\Fl (MRep D w0 ks) m.s.blocks bcs
section
variable {D:Nat}{w0:J}{p:Nat}{lv:Vu}{nl:Int}{ks:List Qc}{m:MS}{V W V1:J}
theorem MSt.keep (h:MSt D w0 p lv nl ks m V)(d:Below V.heap.size V W):MSt D w0 p lv nl ks m W:=by
 obtain⟨b,j,a,c,g,f⟩:=h;exact⟨b,j,a,c,g.keep d,f⟩
theorem MSt.drewN (h:MSt D w0 p lv nl ks m V)(n:Nat):MSt D w0 p lv nl ks m (V.drewN n):=h.keep ⟨rfl,rfl,rfl,lRz,λ_ _=>rfl⟩
theorem MSt.mo (h:MSt D w0 p lv nl ks m V):Mo D w0 ks V:=by
 obtain⟨c,g,b,d,a,f⟩:=h;exact a.tail.tail.tail
theorem MSt.new {ns}(h:MSt D w0 p lv nl ks m V)(j:Below V.heap.size V W)(hn:Own V.heap.size W ns):MSt D w0 p lv nl (ns++ks) m W:=by
 obtain⟨f,n,d,g,l,k⟩:=h;refine⟨f,n,d,g,(l.new j hn).perm ?_,k.mono λb c ⟨tv,rv,a,e,x,y⟩=>⟨tv,rv,a,e,x.sub λr hr=>mR hr,y.sub λr hr=>mR hr⟩⟩;classical
 rw[Th];intro a;simp[Hd,List.count_append];omega
theorem Ty.ms {v:Vu}{xs:List Int}(t:Ty D w0 ks v xs)(h:MSt D w0 p lv nl ks m V):∃a c,v=S a (N xs) c/\Has V a xs:=t.shape h.mo λr hr=>hr
theorem MSt.bxn (h:MSt D w0 p lv nl ks m V)(cur:Array Vu)(e n:Nat)(hn:cur.size=n):MSt D w0 p lv nl (box e n V.heap.size cur.toList::ks) m (V.alloc (Fc cur e)):=by
 refine h.new (ns:=[box e n V.heap.size cur.toList]) (bFz.alloc lRz _) (Own.one ?_);subst hn;refine⟨by simp,.inr ⟨V.heap.size,1,cur,rfl,lRz,?_,lRz,by decide,by simp,?_⟩⟩
 . show(V.heap.push _)[V.heap.size]?=_;exact Array.getElem?_push_size
 show cur.toList.take (1*cur.size)=cur.toList;rw[List.take_of_length_le (by simp)]
theorem MSt.setBox {e g:Nat}(h:MSt D w0 p lv nl (box e n g cs::ks) m V)(z:(e==2)=false)(o:Nat)(u:Vu):MSt D w0 p lv nl (box e n g (cs.set o u)::ks) m (V.setCell ⟨g,o,none⟩ u):=by
 obtain⟨f,j,d,k,B,A⟩:=h;have y:∀r:Qc,(mxR p lv nl f j m.e k::stR m.s f::mlR (N m.s.blocks) j d::r::ks).Perm (r::mxR p lv nl f j m.e k::stR m.s f::mlR (N m.s.blocks) j d::ks):=λr=>by
  classical
  rw[Th];intro a;simp[Hd];omega
 have l:e≠2:=by simpa using z
 have q:∀{v:Vu} {xs:List Int},Ty D w0 (box e n g cs::ks) v xs->Ty D w0 (box e n g (cs.set o u)::ks) v xs:=λt=>by
  rcases t with t|t
  . exact .inl t
  rcases List.mem_cons.1 t with t|t
  . exact absurd (congrArg Qc.e t).symm l
  exact .inr (mC t)
 refine⟨f,j,d,k,((B.perm (y _)).set o u).perm (y _).symm,A.mono λb c ⟨tv,rv,a,e,t1,t2⟩=>⟨tv,rv,a,e,q t1,q t2⟩⟩
theorem MSt.opn {d:List Blk}(h:MSt D w0 p lv nl ks m V)(v:m.s.blocks=d++[b]):∃k sc g c f j rv a n,Mo D w0 (mxR p lv nl (S k (N m.s.stack) sc) (S (some ⟨g,0,none⟩) (N d+1) c) m.e n::stR m.s (S k (N m.s.stack) sc)::mlR (N d+1) (S (some ⟨g,0,none⟩) (N d+1) c) (f++mbk j rv b.height b.dead (decide (b.op=4)) a (decide (b.op=3)))::ks) V /\ (N d)+1<=c/\Fl (MRep D w0 ks) d f/\N f=N d*7/\Ty D w0 ks j b.takes/\Ty D w0 ks rv b.results:=by
 obtain⟨u,t,R,n,l,z⟩:=h;rw[v]at z;have H:N m.s.blocks=N d+1:=by rw[v];simp
 rw[H]at l;obtain⟨f,c2,rfl,y,L⟩:=Fl.split z;obtain⟨j,rv,a,rfl,B,A⟩:=Fl.un L;have E:V.ownsRow D 2 1 u (N m.s.stack) (I m.s.stack):=l.row (r:=stR m.s u) (by simp);have C:V.ownsRow D 265 7 t (N d+1) (f++mbk j rv b.height b.dead (decide (b.op=4)) a (decide (b.op=3))):=l.row (r:=mlR _ t _) (by simp);obtain⟨k,sc,rfl⟩:=Qh E;obtain⟨g,c,rfl,o⟩:∃g c,t=S (some ⟨g,0,none⟩) (N d+1) c/\N d+1<=c:=by
  rcases C.2 with ⟨_,X⟩|⟨g,q,M,F,_,_,o,_⟩
  . omega
  exact⟨g,q,F,o⟩
 exact⟨k,sc,g,c,f,j,rv,a,n,l,o,y,Fl.len mrep_len y,B,A⟩
theorem MSt.opnS (h:MSt D w0 p lv nl ks m V):∃b sc d c a f,Mo D w0 (mxR p lv nl (S b (N m.s.stack) sc) (S d (N m.s.blocks) c) m.e f::stR m.s (S b (N m.s.stack) sc)::mlR (N m.s.blocks) (S d (N m.s.blocks) c) a::ks) V/\Fl (MRep D w0 ks) m.s.blocks a:=by
 obtain⟨j,k,a,f,g,o⟩:=h;have n:V.ownsRow D 2 1 j (N m.s.stack) (I m.s.stack):=g.row (r:=stR m.s j) (by simp);have l:V.ownsRow D 265 7 k (N m.s.blocks) a:=g.row (r:=mlR _ k _) (by simp);obtain⟨b,sc,rfl⟩:=Qh n;obtain⟨d,c,rfl⟩:=Qh l;exact⟨b,sc,d,c,a,f,g,o⟩
theorem Xj {a bv:Vu}{e po:Int}{b:List Qc}(h:Mo D w0 (mxR p lv nl a bv e po::b) V) :
    (V.cell? ⟨p,0,none⟩=some lv/\V.cell? ⟨p,1,none⟩=some (U O nl)/\V.cell? ⟨p,2,none⟩=some a/\V.cell? ⟨p,3,none⟩=some bv/\V.cell? ⟨p,4,none⟩=some (U O e)/\V.cell? ⟨p,5,none⟩=some (U O po))/\V.frozen? ⟨p,2,none⟩=false/\V.frozen? ⟨p,3,none⟩=false/\V.frozen? ⟨p,4,none⟩=false/\V.frozen? ⟨p,5,none⟩=false :=
 ⟨⟨(h.b0 0).1,(h.b0 1).1,(h.b0 2).1,(h.b0 3).1,(h.b0 4).1,(h.b0 5).1⟩,(h.b0 2 (u:=a)).2,(h.b0 3 (u:=bv)).2,(h.b0 4 (u:=U O e)).2,(h.b0 5 (u:=U O po)).2⟩
theorem mlast {b r:Vu}{x:Qc}{g k c:Nat}{c1:List Vu}{tv:Vu}{h a:Int}{d i l:Bool}{f:List Qc}(o:Mo D w0 (x::stR m.s b::mlR (k+1) (S (some ⟨g,0,none⟩) (k+1) c) (c1++mbk tv rv h d i a l)::f) V)(p:N c1=k*7):V.cell? ⟨g,k*7,none⟩=some tv/\V.cell? ⟨g,k*7+1,none⟩=some rv/\V.cell? ⟨g,k*7+2,none⟩=some (U O h)/\V.cell? ⟨g,k*7+3,none⟩=some (G d)/\V.cell? ⟨g,k*7+4,none⟩=some (G i)/\V.cell? ⟨g,k*7+5,none⟩=some (U O a)/\V.cell? ⟨g,k*7+6,none⟩=some (G l)/\V.frozen? ⟨g,k*7+3,none⟩=false:=by
 have E:=λ(j:Nat) (u:Vu) (hj:j<7) (hu:(mbk tv rv h d i a l)[j]?=some u)=>o.cell (T:=265) (sz:=7) (n:=k+1) (g:=g) (c:=c) (cs:=c1++mbk tv rv h d i a l) (by simp) rfl (j:=k*7+j) (u:=u) (by omega) (by rw[Lq (by omega),show k*7+j-N c1=j by omega];exact hu);exact⟨(E 0 _ (by omega) rfl).1,(E 1 _ (by omega) rfl).1,(E 2 _ (by omega) rfl).1,(E 3 _ (by omega) rfl).1,(E 4 _ (by omega) rfl).1,(E 5 _ (by omega) rfl).1,(E 6 _ (by omega) rfl).1,(E 3 (G d) (by omega) rfl).2⟩
theorem MSt.cut {a:Option Addr}{sc:Nat}{bv:Vu}{bcs:List Vu}{po:Int}(h:Mo D w0 (mxR p lv nl (S a (N m.s.stack) sc) bv m.e po::stR m.s (S a (N m.s.stack) sc)::mlR (N m.s.blocks) bv bcs::ks) V)(d:Fl (MRep D w0 ks) m.s.blocks bcs)(hn:n<=N m.s.stack):MSt D w0 p lv nl ks (JD m { m.s with stack:=m.s.stack.take n }) (V.setCell ⟨p,2,none⟩ (S a n sc)):=by
 have b:=(h.set 2 (S a n sc)).perm perm3;have k:=b.row (r:=stR m.s (S a (N m.s.stack) sc)) (by simp);have j:=own_take k hn;have c:(m.s.stack.take n).length=n:=by simp;omega
 have g:=b.swap (r':=⟨2,1,n,S a n sc,I (m.s.stack.take n)⟩) (by
  show(V.setCell ⟨p,2,none⟩ (S a n sc)).ownsRow D 2 1 (S a n sc) n (I (m.s.stack.take n))
  have e:(I m.s.stack).take (n*1)=I (m.s.stack.take n):=by simp[I,List.map_take]
  rw[<- e];exact j) (by cases a <;> rfl)
 have f:=g.perm perm3;refine⟨S a n sc,bv,bcs,po,?_,d⟩;simpa[stR,c,JD]using f
end
theorem Q1 {lv:Vu}{nl:Int}{m:MS}(f:Int)(h:MSt D w0 p lv nl ks m V):Ec Q 182 #[Yp (some ⟨p,0,none⟩),U O f] V λe w'=>e=Z (.tuple #[])/\MSt D w0 p lv nl ks (fail m f) w':=by
 have q:=Hm h;obtain⟨g,l,d,j,b,c⟩:=h;obtain⟨⟨y,v,u,t,s,r⟩,C,B,A,z⟩:=Xj b;by_cases a:m.e=0
 . (have k:(m.e==0)=true:=by simp[a]);(have n:Hid (MSt D w0 p lv nl ks (fail m f) (V.setCell ⟨p,4,none⟩ (U O f))):=by(have e:fail m f={ m with e:=f }:=by simp[fail,a]);rw[e];exact⟨g,l,d,j,b.set 4 (U O f),c⟩);clear b c a;go_enter func182,ntmps182;go_wp2;go_end0;exact⟨rfl,n.o⟩
 have k:(m.e==0)=false:=by simp[a]
 have e:fail m f=m:=by simp[fail,a]
 rw[e];clear b c a e;go_enter func182,ntmps182;go_wp2;go_end0;exact⟨rfl,q.o⟩
theorem stop_c (p g k c:Nat)(w:J)(d:w.cell? ⟨p,3,none⟩=some (S (some ⟨g,0,none⟩) (k+1) c))(b:k<=1099511627776):Ec Q 185 #[Yp (some ⟨p,0,none⟩)] w λe w'=>e=Z (Yp (some ⟨g,k*7,none⟩))/\∃n,w'=w.drewN n:=by
 have a:IntKind.i64.wrap (((k+1:Nat):Int)-1)=k:=by rw[Kv];omega
 go_enter func185,ntmps185;go_wp2;go_quiet (fail)
 go_wp2;go_ret;exact⟨rfl,_,rfl⟩
theorem slabel_c (p g k c:Nat)(n:Int)(w:J)(q:w.cell? ⟨p,3,none⟩=some (S (some ⟨g,0,none⟩) (k+1) c))(o:k<=1099511627776)(hn:0<=n)(a:n<=k):Ec Q 149 #[Yp (some ⟨p,0,none⟩),U O n] w λe w'=>e=Z (Yp (some ⟨g,(k-n.toNat)*7,none⟩))/\∃m,w'=w.drewN m:=by
 obtain⟨j,rfl⟩:∃j:Nat,n=j:=⟨n.toNat,by omega⟩;have l:IntKind.i64.wrap (((k+1:Nat):Int)-1)=k:=by rw[Kv];omega
 obtain⟨i,b⟩:∃i:Nat,i=k-j:=⟨_,rfl⟩;have d:IntKind.i64.wrap ((k:Int)-(j:Int))=i:=by rw[Kv];omega
 have f:(i:Int)<((k+1:Nat):Int):=by omega
 simp only[Hx];rw[<- b];clear b hn a;go_enter func149,ntmps149;go_wp2;go_quiet (fail)
 go_wp2;go_ret;exact⟨rfl,_,rfl⟩
theorem XD {lv:Vu}{nl:Int}{m:MS}(want:Int)(h:MSt D w0 p lv nl ks m V)(i:Inv m.s)(B:m.s.blocks≠[])(F:N m.s.blocks<=1048577)(R:N m.s.stack<=1099511627776):Ec Q 150 #[Yp (some ⟨p,0,none⟩),U O want] V λe w'=>e=Z (U O (QC m want).1)/\MSt D w0 p lv nl ks (QC m want).2 w':=by
 obtain⟨L,d⟩:=JL B;obtain⟨b,f⟩:∃b,b=top m.s:=⟨_,rfl⟩;rw[<- f]at d;have C:=i.ht B;rw[<- f]at C;obtain⟨sa,sc,g,c,c1,tv,rv,a,po,q,hc,H,hl,t1,t2⟩:=h.opn d;have a5:N L<=1048577:=by rw[d]at F;simp at F;omega
 obtain⟨⟨q0,q1,q2,q3,q4,q5⟩,f2,f3,f4,f5⟩:=Xj q;obtain⟨e0,e1,e2,e3,e4,e5,e6,f6⟩:=mlast (m:=m) (r:=tv) q hl;have HL:=Hm (λw=>stop_c p g (N L) c w);have hH:=Hm h;have HF:=Hm (λn=>Q1 6 (h.drewN n));have hw:IntKind.i64.wrap ((N m.s.stack:Int)-1)=(N m.s.stack:Int)-1:=by rw[Kv];omega
 by_cases y:N m.s.stack<=b.height
 . (have d0:((N m.s.stack:Int)==(b.height:Int))=true:=by simp;omega);cases hd:b.dead
   . (have A:QC m want=(want,fail m 6):=by simp[QC,<- f,y,hd]);rw[A];rw[hd]at e3;clear q H h A f d;go_enter func150,ntmps150;(go_wp2_with fail);refine(HL.o _ (by assumption) (by omega)).mono ?_;rintro e w1 ⟨rfl,n,rfl⟩;(go_wp2_with (go_at_call 182;refine(HF.o n).mono ?_;rintro e w2 ⟨rfl,u⟩));go_ret;exact⟨rfl,u⟩
   (have A:QC m want=(want,m):=by simp[QC,<- f,y,hd]);rw[A];rw[hd]at e3;clear q H h A HF f d;go_enter func150,ntmps150;(go_wp2_with fail);refine(HL.o _ (by assumption) (by omega)).mono ?_;rintro e w1 ⟨rfl,n,rfl⟩;go_wp2;go_ret;exact⟨rfl,hH.o.drewN n⟩
 have Y:V.ownsRow D 2 1 (S sa (N m.s.stack) sc) (N m.s.stack) (I m.s.stack):=q.row (r:=stR m.s _) (by simp);obtain⟨v,X,aa⟩:∃v,sa=some ⟨v,0,none⟩/\N m.s.stack<=sc:=by
  rcases Y.2 with ⟨_,h0⟩|⟨v,a9,a8,hv,_,_,k,_⟩
  . omega
  cases hv;exact⟨v,rfl,k⟩
 subst X;obtain⟨xs,t,k⟩:∃xs t,m.s.stack=xs++[t]:=by
  have:m.s.stack≠[]:=λe=>by rw[e]at y;simp at y
  exact⟨_,_,(List.dropLast_concat_getLast this).symm⟩
 have hn:N m.s.stack=N xs+1:=by rw[k];simp
 have ab:V.cell? ⟨v,N xs,none⟩=some (U O t):=by rw[World.ownsRow.cellAt Y (N xs) (by omega),k];simp[I]
 obtain⟨j,l⟩:∃j,j=JD m { m.s with stack:=m.s.stack.dropLast }:=⟨_,rfl⟩;have HM:Hid (∀n,MSt D w0 p lv nl ks j (((V.drewN n)).setCell ⟨p,2,none⟩ (S (some ⟨v,0,none⟩) (N xs) sc))):=λn=>by
  have e:m.s.stack.dropLast=m.s.stack.take (N xs):=by rw[k];simp
  rw[l,e];have E:N m.s.blocks=N L+1:=by rw[d];simp
  refine MSt.cut (m:=m) (bv:=S (some ⟨g,0,none⟩) (N L+1) c) (po:=po) (by rw[E];exact q.drewN n) ?_ (by omega);rw[d];exact H.app (Fl.one ⟨tv,rv,a,rfl,t1,t2⟩)
 have ad:=Hm (λn=>Q1 6 (HM.o n));have hg:m.s.stack.getLastD 0=t:=by rw[k];simp
 have z:QC m want=(if t=0 then want else t,if t≠want/\t≠0/\want≠0 then fail j 6 else j):=by rw[l];simp only[QC,<- f,y,if_false,hg]
 have a0:IntKind.i64.wrap ((N m.s.stack:Int)-1)=N xs:=by rw[Kv];omega
 have i1:(N xs:Int)<(N m.s.stack:Int):=by omega
 have i3:(N xs:Int)<=(sc:Int):=by omega
 have d0:((N m.s.stack:Int)==(b.height:Int))=false:=by simp;omega
 clear q H h Y k hn hw y aa R l C HF d hH f;obtain⟨b1,k1⟩:∃x,(t != want)=x:=⟨_,rfl⟩;obtain⟨M,k2⟩:∃x,(t != 0)=x:=⟨_,rfl⟩;obtain⟨b3,k3⟩:∃x,(want != 0)=x:=⟨_,rfl⟩;have k4:(t==0)=!M:=by rw[<- k2,bne,Bool.not_not]
 have HP:Hid (QC m want=(if M=false then want else t,if b1=true/\M=true/\b3=true then fail j 6 else j)):=by show QC m want=_;rw[z,<- k1,<- k2,<- k3];simp
 clear z;cases b1<;>cases M<;>cases b3
 all_goals
  try simp only[Bool.not_true,Bool.not_false]at k4
  go_enter func150,ntmps150
  go_wp2_with fail
  refine(HL.o _ (by assumption) (by omega)).mono ?_
  rintro e w1 ⟨rfl,n,rfl⟩
  go_wp2_with (go_at_call 182;refine(ad.o n).mono ?_;rintro e w2 ⟨rfl,u⟩)
  go_ret
  have hq:=HP.o
  simp only[Ik,false_and,and_false,if_true,if_false,and_self,Bool.true_eq_false]at hq
  rw[hq]
  first
   |exact⟨rfl,HM.o n⟩
   |exact⟨rfl,u⟩
def XC (x:Ctx)(go:Int)(gv:List Int)(i:Int):R (List Int):=if go<=i then .error 2 else if(Q3 x i).mu then .error 5 else .ok (gv++[(Q3 x i).ty])
def Xe (x:Ctx)(go want:Int)(gv:List Int)(y:In):R (List Int) :=
 if frm y.op=7\/frm y.op=8\/frm y.op=9\/frm y.op=10 then .ok (gv++(oty y.op).rs)else
 if y.op=35 then XC x go gv y.a else if y.op=11 then(if gv=[want]then .ok gv else .error 6)else .error 5
def QS (x:Ctx)(go want:Int):List Int->Nat->List In->Except (Int × Nat) (List Int)
 |g,_,[]=>.ok g
 |g,k,y::ys=>match Xe x go want g y with
  |.error e=>.error (e,k)
  |.ok g'=>QS x go want g' (k+1) ys
abbrev cbR (p:Nat)(sp:Vu)(want:Int)(v:Vu):Qc:=box 321 3 p [sp,U O want,v]
def CSt (D:Nat)(w0:J)(p:Nat)(sp:Vu)(want:Int)(ks:List Qc)(g:List Int)(V:J):Prop:=∃v,Mo D w0 (cbR p sp want v::⟨2,1,N g,v,I g⟩::ks) V
def CsP (D:Nat)(w0:J)(p:Nat)(sp:Vu)(want:Int)(ks:List Qc)(r:R (List Int))(e:Ending)(w':J):Prop:=(∃f,r=.error f/\e=Z (flt f)/\Mo D w0 ks w')\/∃g,r=.ok g/\e=Z Nf/\CSt D w0 p sp want ks g w'
section
variable {D:Nat}{w0:J}{p:Nat}{sp:Vu}{want:Int}{ks:List Qc}{g:List Int}{V W V1:J}
theorem CSt.keep (h:CSt D w0 p sp want ks g V)(a:Below V.heap.size V W):CSt D w0 p sp want ks g W:=by
 obtain⟨v,h⟩:=h;exact⟨v,h.keep a⟩
theorem CSt.mo (h:CSt D w0 p sp want ks g V):Mo D w0 ks V:=by obtain⟨v,h⟩:=h;exact h.tail.tail
theorem CSt.opn (h:CSt D w0 p sp want ks g V):∃a c,Mo D w0 (cbR p sp want (S a (N g) c)::⟨2,1,N g,S a (N g) c,I g⟩::ks) V/\V.cell? ⟨p,0,none⟩=some sp/\V.cell? ⟨p,1,none⟩=some (U O want)/\V.cell? ⟨p,2,none⟩=some (S a (N g) c)/\V.frozen? ⟨p,2,none⟩=false:=by
 obtain⟨v,h⟩:=h;have b:V.ownsRow D 2 1 v (N g) (I g):=h.row (r:=⟨2,1,N g,v,I g⟩) (by simp);obtain⟨a,c,rfl⟩:=Qh b;exact⟨a,c,h,(h.b0 0).1,(h.b0 1).1,(h.b0 2).1,(h.b0 2).2⟩
theorem CSt.pushed {a:Option Addr}{c:Nat}{xs:List Int}(h:Mo D w0 (cbR p sp want (S a (N g) c)::⟨2,1,N g,S a (N g) c,I g⟩::ks) V)(k:Below V.heap.size V V1)(d:W.ownsRow D 2 1 v' (N g+N xs) (I g++I xs))(j:V1.grownBy W (Tq a (N g) c).ownBlock)(f:v'.ownBlock=(Tq a (N g) c).ownBlock\/v'.ownBlock=some V1.heap.size):(W.cell? ⟨p,2,none⟩=some (S a (N g) c)/\W.frozen? ⟨p,2,none⟩=false)/\CSt D w0 p sp want ks (g++xs) (W.setCell ⟨p,2,none⟩ v'):=by
 have b:=((h.perm (Tw _ _ _)).push (r':=⟨2,1,N g+N xs,v',I g++I xs⟩) k j d f).perm (Tw _ _ _);refine⟨b.b0 2,v',?_⟩;have e:(⟨2,1,(g++xs).length,v',I (g++xs)⟩:Qc)=⟨2,1,N g+N xs,v',I g++I xs⟩:=by simp
 rw[e];exact b.set 2 v'
end
theorem icglob_c {want:Int}{g:List Int}(i:Int)(h:CSt D w0 p (Yp (some ⟨q,0,none⟩)) want ks g V)(b:SpR D w0 q x fo go bd m ks)(h0:0<=i)(a3:go<=N x.globals)(a4:N g<=1048577):Ec Q 218 #[Yp (some ⟨p,0,none⟩),U O i] V (CsP D w0 p (Yp (some ⟨q,0,none⟩)) want ks (XC x go g i)):=by
 obtain⟨i0,hi,X,R,M⟩:=info_parts info2;obtain⟨a,c,E,c0,c1,c2,cf⟩:=h.opn;have r6:=(h.mo.bx b.bx 6 (u:=U O go)).1;obtain⟨r0,r1,r2,r3,r4⟩:=b.cells h.mo;have HM:=Hm E;have HH:=Hm h.mo;by_cases k1:go<=i
 . (have l:Hid (XC x go g i=.error 2):=by show XC x go g i=_;simp[XC,k1]);clear h E b;go_enter func218,ntmps218;go_wp2;go_ret;exact .inl ⟨2,l.o,rfl,HH.o⟩
 obtain⟨j,rfl⟩:∃j:Nat,i=j:=⟨i.toNat,by omega⟩;have hj:j<N x.globals:=by omega
 obtain⟨fa,fc,A,B⟩:=QA h.mo b.gr;obtain⟨gf,ab,s⟩:=B (by omega);subst ab;rw[A]at r4;have n:x.globals[j]?=some (Q3 x j):=by rw[Q3,Hx];simp[Kg,hj]
 have L:=(Gl n).1;have H:=(Gl n).2;rw[<- b.gt]at L H;have d0:=s _ _ L (by omega);have d1:=s _ _ H (by omega);have a1:(j:Int)<(N x.globals:Int):=by omega
 have d:XC x go g j=if(Q3 x j).mu then .error 5 else .ok (g++[(Q3 x j).ty]):=by simp[XC,k1]
 obtain⟨y,z⟩:∃y,y=(Q3 x j).ty:=⟨_,rfl⟩;rw[<- z]at d0 d;cases hmu:(Q3 x j).mu
 . rw[hmu]at d1 d;(have l:Hid (XC x go g j=.ok (g++[y])):=by show XC x go g j=_;rw[d];rfl);clear h b A B s n L H d z hmu hj r0 r1 r2 r3 E;go_enter func218,ntmps218;(go_upto_region 6 with fail);obtain⟨W,F⟩:∃W,W=V.alloc (Fc #[U O y,G false] 145):=⟨_,rfl⟩;rw[<- F];(have ba:Below V.heap.size V W:=by rw[F];exact bFz.alloc lRz _);(have kk:Bk W V.heap.size [U O y,G false]:=by rw[F];exact Bk.new);have e0:=kk.2.1 0 _ rfl;have t:=Hm (HM.o.keep ba);have ad:=(t.o.b0 2 (u:=S a (N g) c)).1;have OW:Hid (W.ownsRow D 2 1 (S a (N g) c) (N g) (I g)):=t.o.row (r:=⟨2,1,N g,S a (N g) c,I g⟩) (by simp);have Y:=t.o.le;have kd:∀o,(W.alloc o).cell? ⟨p,2,none⟩=some (S a (N g) c):=λo=>Qd ad;have HB:Hid (∀o,Below W.heap.size W ((W.alloc o).drew)):=λo=>⟨rfl,rfl,rfl,by show W.heap.size<=(W.alloc o).heap.size;simp,λk hk=>QM W o k hk⟩;have HP:=Hm (λV1 W' v'=>CSt.pushed (V1:=V1) (W:=W') (v':=v') (xs:=[y]) t.o);clear F kk ba c2 c0 c1 cf d0 d1 r4 r6 HM
   go_region_law (first
    | (
     refine Qt rfl (.tmp 33) (.tmp 36) 24 rfl D 2 i0 (U O 0) 1 8 underlying24 hi X R M rfl (by decide) (S a (N g) c) (N g) (I g) (by first|rfl|simp[Lz,Lf]) (World.ownsRow.alloc OW.o _) ⟨W.heap.size,0,none⟩ 1 1 [U O y] (by first|rfl|simp[Lz,Lf]) (by first|rfl|simp) (Jn W [U O y] 2) (oneI _) (by unfold maxLen;omega) (by omega) (Ky Y (HB.o _).size) ?_
     intro v2 w5 f C v
     have HQ:=Hm (HP.o _ w5 v2 (HB.o _) f C v);have a6:=HQ.o.1.1;have a5:=HQ.o.1.2;obtain⟨ar,aq,rfl⟩:=Qh f;clear f C v))
   all_goals
    go_wp2_with fail
    go_ret
    exact .inr ⟨_,l.o,rfl,HQ.o.2⟩
 rw[hmu]at d1 d;have l:Hid (XC x go g j=.error 5):=by show XC x go g j=_;rw[d];rfl
 clear h E b A B s n L H d z hmu hj;go_enter func218,ntmps218;go_wp2;go_ret;exact .inl ⟨5,l.o,rfl,HH.o.keep (bFz.alloc lRz _)⟩
theorem step_append_any {P:Program}{w:J}{b:Array Oper}{o:Oper}{a:Act}{K:Act->J->Prop}{g:Exit->Act->J->Prop}{E:Prop}(f:o.guard=none)(s x:Operand)(t:TypeId) (j:o.op=.call { callee:=.builtin .append,args:=#[s,x],argTypes:=#[t,t] }) (base:Nat) (e:TypeId) (i:TypeInfo) (z:Vu) (size bytes:Nat) (ht:P.underlying t=some (.slice e)) (hi:P.info? e=some i) (hz:i.zero=some z) (hsize:i.size=size) (hby:i.bytes=bytes) (hzs:z.cells.size=size) (hsz:0<size) (v:Vu) (n:Nat) (xs:List Vu) (hs:a.eval s=v) (hown:w.ownsRow base e size v n xs) (a0:Option Addr) (m c:Nat) (news:List Vu) (hx:a.eval x=S a0 m c) (hl:N news=m*size) (hnews:SrcC w a0 news) (h1:∀u∈news,u.oneCell'=true) (h63:n+m<=maxLen) (hbytes:(n+m)*bytes<=140737488355328) (hbase:base<=w.heap.size) (h:∀v' w',w'.ownsRow base e size v' (n+m) (xs++news)->w.grownBy w' v.ownBlock->(v'.ownBlock=v.ownBlock\/v'.ownBlock=some w.heap.size)->K (a.put o.dst v') w'):if Tf o (yielded b a.tmps)=true then Oper.wp P o a w K g else E:=by
 rcases hnews with ⟨rfl,rfl⟩|⟨r,rfl,l⟩
 . (have k:Tf o (yielded b a.tmps)=true:=by simp[Tf,f]);rw[if_pos k];have p:m=0:=by
    rcases Nat.mul_eq_zero.1 hl.symm with h|h
    . exact h
    omega
   subst p;have d:=JR (P:=P) (w:=w) base t o.type e i size ht hi v n xs hown c;have q:=h v w (by simpa using hown) (World.grownBy.refl _ _) (.inl rfl);unfold Oper.wp execOp;simp only[j,resolve,invoke,builtin,Sem.run_bind,Sem.run_pure,Result.andThen_ok,List.map_toArray,Rk,List.map_nil,hs,hx,d];exact q
 exact Qt f s x t j base e i z size bytes ht hi hz hsize hby hzs hsz v n xs hs hown r m c news hx hl l h1 h63 hbytes hbase h
theorem fieldF (pv rv:Vu)(d:∃a n c,pv=S a n c)(b:∃a n c,rv=S a n c)(w:J):(Instr.field 148 (Ag #[pv,rv]) 1).run Q w=.ok rv w:=by
 obtain⟨a,n,c,rfl⟩:=d;obtain⟨j,f,g,rfl⟩:=b;kernel_rfl
theorem icstep_c {want:Int}{g:List Int}(y:In)(la:Option Addr)(lc:Nat)(h:CSt D w0 p (Yp (some ⟨q,0,none⟩)) want ks g V)(af:SpR D w0 q x fo go bd m ks)(h0:0<=y.a)(a8:go<=N x.globals)(bz:N g<=1048576):Ec Q 201 #[Yp (some ⟨p,0,none⟩),inV y la lc] V (CsP D w0 p (Yp (some ⟨q,0,none⟩)) want ks (Xe x go want g y)):=by
 obtain⟨i0,hi,a3,a2,a0⟩:=info_parts info2;obtain⟨M,hM⟩:∃M,M=Xe x go want g y:=⟨_,rfl⟩;rw[<- hM];obtain⟨W,hW⟩:∃W,W=V.alloc (Fc #[U O y.op,U O y.a,U O y.b,U Ou y.v,S la (N y.l) lc] 204):=⟨_,rfl⟩;have ba:Below V.heap.size V W:=by rw[hW];exact bFz.alloc lRz _
 have kk:C5 W V.heap.size 0 (U O y.op) (U O y.a) (U O y.b) (U Ou y.v) (S la (N y.l) lc):=by rw[hW];exact C5.new
 have ak:=Hm kk;obtain⟨⟨c0,c1,c2,c3,c4⟩,cf⟩:=kk;have HF:=Hm (QK y.op W);have HI:=Hm (h.keep ba);have HM:=Hm hM;have bh:=Hm af;clear h hM af cf ba;go_enter func201,ntmps201;go_upto_region 1 with fail
 rw[<- hW];clear hW;go_wp2_with fail
 refine HF.o.mono ?_;rintro e F ⟨rfl,ac⟩;have E:=Hm (HI.o.keep ac);obtain⟨⟨d0,d1,d2,d3,d4⟩,df⟩:=ak.o.keep ac;obtain⟨a,c,hm,g0,g1,g2,gf⟩:=E.o.opn;have R:=Hm hm;clear ac HF HI ak c0 c1 c2 c3 c4 df hm;obtain⟨f,hf⟩:∃f,f=frm y.op:=⟨_,rfl⟩;rw[<- show f=Qj (Qb y.op)from hf];by_cases kc:f=7\/f=8\/f=9\/f=10
 . (have j:Hid (M=.ok (g++(oty y.op).rs)):=by show M=_;rw[HM.o,Xe,if_pos (by rw[<- hf];exact kc)]);have aj:=Hm (itype_c y.op F.drew);have a5:=R.o.le;have a4:(nz [(Qb y.op).g]).length<=1:=(oty_len y.op).2;obtain⟨Y,H⟩:∃Y,Y=nz [(Qb y.op).g]:=⟨_,rfl⟩;obtain⟨ps,ah⟩:∃ps,ps=nz [(Qb y.op).a,(Qb y.op).b]:=⟨_,rfl⟩;rw[<- H,<- ah]at aj;rw[<- H]at a4;(have ap:Hid (M=.ok (g++Y)):=by show M=_;rw[H];exact j.o);clear H ah j;have KC:Hid (∀(P:Prop),(f=7->P)->(f=8->P)->(f=9->P)->(f=10->P)->P):=λP a b c d=>by
    rcases kc with h|h|h|h
    . exact a h
    . exact b h
    . exact c h
    exact d h
   have bl:=Hm hf;clear hf kc HM;refine KC.o _ ?_ ?_ ?_ ?_
   all_goals
    intro ef
    subst ef;clear KC bl
    go_upto_region 6 with fail
    go_region_law (first
     | (
      refine step_append_any rfl (.tmp 17) (.tmp 21) 24 rfl D 2 i0 (U O 0) 1 8 underlying24 hi a3 a2 a0 rfl (by decide) (S a (N g) c) (N g) (I g) (by first|rfl|simp[Lz,Lf]) bg.o ra (N Y) rc (I Y) (by first|rfl|simp[Lz,Lf]) (by simp) SR.o (one_I _) (by unfold maxLen;omega) (by omega) (Ky a5 ao.o.size) ?_
      intro v2 w5 C ai aa
      have HQ:=Hm (CSt.pushed (xs:=Y) R.o ao.o C ai aa);have b7:=HQ.o.1.1;have b5:=HQ.o.1.2;obtain⟨bs,br,rfl⟩:=Qh C;clear C ai aa)
     | (
      go_simp
      go_at_call 217
      refine aj.o.mono ?_
      rintro e w2 ⟨pv,rv,rfl,L,A⟩;have t:Below F.heap.size F w2:=⟨A.os,A.tape,A.output,A.size,A.block⟩;have ao:=Hm t;have bg:Hid (w2.ownsRow D 2 1 (S a (N g) c) (N g) (I g)):=Qc.Ok.keep' (R.o.row (r:=⟨2,1,N g,S a (N g) c,I g⟩) (by simp)) t;have b3:w2.cell? ⟨p,2,none⟩=some (S a (N g) c):=(t.cell (p:=⟨p,2,none⟩) (Kk F _ g2)).trans g2;obtain⟨pa,pc,rfl⟩:=Qh L.hp;obtain⟨ra,rc,rfl⟩:=Qh L.hr
      have SR:Hid (SrcC w2 ra (I Y)):=(by
       obtain⟨a1,c1,e1,hh⟩:=XN L.hr
       cases e1
       exact Has.src hh)
      have fF:=fieldF (S pa (N ps) pc) (S ra (N Y) rc) ⟨_,_,_,rfl⟩ ⟨_,_,_,rfl⟩;clear L A t))
    all_goals
     go_wp2_with fail
     go_ret
     exact .inr ⟨_,ap.o,rfl,HQ.o.2⟩
 have k7:(f==7)=false:=by simp;omega
 have k8:(f==8)=false:=by simp;omega
 have k9:(f==9)=false:=by simp;omega
 have bv:(f==10)=false:=by simp;omega
 have z:M=if y.op=35 then XC x go g y.a else if y.op=11 then(if g=[want]then .ok g else .error 6)else .error 5:=by rw[HM.o,Xe,if_neg (by rw[<- hf];exact kc)]
 clear hf kc HM;by_cases k:y.op=35
 . (have j:Hid (M=XC x go g y.a):=by show M=_;rw[z,if_pos k]);have HG:=Hm (icglob_c (go:=go) y.a E.o bh.o h0 a8 (by omega));(have av:(y.op==35)=true:=by simp[k]);clear z k;(go_wp2_with fail);refine HG.o.mono ?_;rintro e w2 (⟨f2,hr,rfl,hb⟩|⟨g',hr,rfl,hI⟩)
   . go_wp2;go_ret;exact .inl ⟨f2,j.o.trans hr,rfl,hb⟩
   go_wp2;go_ret;exact .inr ⟨g',j.o.trans hr,rfl,hI⟩
 have av:(y.op==35)=false:=by simp[k]
 by_cases B:y.op=11
 . (have aw:(y.op==11)=true:=by simp[B]);(have s:M=if g=[want]then .ok g else .error 6:=by rw[z,if_neg k,if_pos B]);clear z k B;have hg:Hid (Has F a g):=by have hr:F.ownsRow D 2 1 (S a (N g) c) (N g) (I g):=R.o.row (r:=⟨2,1,N g,S a (N g) c,I g⟩) (by simp);obtain⟨a1,c1,e1,hh⟩:=XN hr;cases e1;exact hh
   have X:=Hm (ieq_c a (some ⟨F.heap.size,0,none⟩) c 1 g [want] ((F.alloc (Fc #[U O want] 2)).drew) (by omega) (by simp) (hg.o.keep ((bFz.alloc lRz _).drew)) (.inr ⟨F.heap.size,0,rfl,fun i hi=>by
    have:i=0:=by simp at hi;omega
    subst this
    exact Qf rfl rfl⟩))
   have kd:∀o,(F.alloc o).cell? ⟨p,2,none⟩=some (S a (N g) c):=λo=>Qd g2;(go_upto_region 12 with fail);by_cases u:g=[want]
   . (have j:Hid (M=.ok g):=by show M=_;rw[s,if_pos u]);(have hd:decide (g=[want])=true:=by simp[u]);rw[hd]at X;clear s hd u
     go_region_law (
      go_simp
      go_at_call 219
      refine X.o.mono ?_
      rintro e w2 ⟨rfl,n,rfl⟩)
     all_goals
      go_wp2
      go_ret
      exact .inr ⟨g,j.o,rfl,E.o.keep (Qo (bFz.alloc lRz _) _)⟩
   (have j:Hid (M=.error 6):=by show M=_;rw[s,if_neg u]);(have hd:decide (g=[want])=false:=by simp[u]);rw[hd]at X;clear s hd u
   go_region_law (
    go_simp
    go_at_call 219
    refine X.o.mono ?_
    rintro e w2 ⟨rfl,n,rfl⟩)
   all_goals
    go_wp2
    go_ret
    exact .inl ⟨6,j.o,rfl,(E.o.keep (Qo (bFz.alloc lRz _) _)).mo⟩
 have aw:(y.op==11)=false:=by simp[B]
 have j:Hid (M=.error 5):=by show M=_;rw[z,if_neg k,if_neg B]
 clear z k B;go_wp2;go_ret;exact .inl ⟨5,j.o,rfl,E.o.mo⟩
abbrev Q6 (q:Nat)(x:Ctx)(m:Spc)(fo go bd:Int):List Qc:=[box 238 9 q (spB x m fo go bd),⟨148,2,N x.types,m.tv,m.tcs⟩,⟨148,2,N x.funcs,m.fv,m.fcs⟩,⟨145,2,N x.globals,m.gv,m.gcs⟩]
structure SpF (D:Nat)(w0:J)(x:Ctx)(m:Spc):Prop where
 tt:FTs D w0 x.types m.tcs
 ft:FTs D w0 x.funcs m.fcs
 gt:m.gcs=gCs x.globals
def SSt (D:Nat)(w0:J)(q:Nat)(x:Ctx)(fo go bd:Int)(nv:Vu)(ks:List Qc)(V:J):Prop:=∃m:Spc,m.nv=nv/\Mo D w0 (Q6 q x m fo go bd++ks) V/\SpF D w0 x m
def SsP (D:Nat)(w0:J)(q:Nat)(ks:List Qc)(nv:Vu)(r:R (Ctx × Int × Int × Int))(e:Ending)(w':J):Prop:=(∃f,r=.error f/\e=Z (flt f)/\Below D w0 w'/\D<=w'.heap.size)\/∃x fo go bd,r=.ok (x,fo,go,bd)/\e=Z Nf/\SSt D w0 q x fo go bd nv ks w'
section
variable {D:Nat}{w0:J}{q:Nat}{x:Ctx}{fo go bd:Int}{nv:Vu}{ks:List Qc}{V W V1:J}
theorem SSt.keep (h:SSt D w0 q x fo go bd nv ks V)(a:Below V.heap.size V W):SSt D w0 q x fo go bd nv ks W:=by
 obtain⟨m,e,c,b⟩:=h;exact⟨m,e,c.keep a,b⟩
theorem SSt.mo (h:SSt D w0 q x fo go bd nv ks V):Mo D w0 ks V:=by
 obtain⟨m,e,a,b⟩:=h;exact a.right
theorem SSt.spr (h:SpF D w0 x m):SpR D w0 q x fo go bd m (Q6 q x m fo go bd++ks):=⟨by simp,by simp,by simp,by simp,h.tt,h.ft,h.gt⟩
theorem SSt.of (a:m.nv=nv)(h:Mo D w0 (Q6 q x m fo go bd++ks) V)(b:SpF D w0 x m):SSt D w0 q x fo go bd nv ks V:=⟨m,a,h,b⟩
theorem SSt.num (h:SSt D w0 q x fo go bd nv ks V)(j:Nat)(u:Vu){a:Ctx}{c b d:Int}(k:a.types=x.types)(f:a.funcs=x.funcs)(l:a.globals=x.globals)(p:∀m:Spc,(spB x m fo go bd).set j u=spB a m c b d):SSt D w0 q a c b d nv ks (V.setCell ⟨q,j,none⟩ u):=by
 obtain⟨m,e,r,g⟩:=h;refine⟨m,e,?_,⟨by rw[k];exact g.tt,by rw[f];exact g.ft,by rw[l];exact g.gt⟩⟩;have o:=Mo.set (n:=1) (T:=238) (sz:=9) r j u;rw[p m]at o;show Mo D w0 ([box 238 9 q (spB a m c b d),⟨148,2,N a.types,m.tv,m.tcs⟩,⟨148,2,N a.funcs,m.fv,m.fcs⟩,⟨145,2,N a.globals,m.gv,m.gcs⟩]++ks) _;rw[k,f,l];exact o
theorem FTs.snoc (h:FTs D w0 xs cs){t:Qe}{pv:Vu}(j:Ty D w0 [] pv t.ps)(g:Ty D w0 [] rv t.rs):FTs D w0 (xs++[t]) (cs++[pv,rv]):=by
 refine⟨by simp[h.1];omega,λi y hy=>?_⟩;by_cases l:i<N xs
 . rw[Rz l]at hy;obtain⟨p,r,a,b,c,d⟩:=h.2 i y hy;have:=h.1;exact⟨p,r,by rw[Rz (by omega)];exact a,by rw[Rz (by omega)];exact b,c,d⟩
 have f:i=N xs:=by have:=(List.getElem?_eq_some_iff.1 hy).1;simp at this;omega
 subst f;simp at hy;subst hy;have k:=h.1;exact⟨pv,rv,by rw[Lq (by omega),k,Nat.sub_self];rfl,by rw[Lq (by omega),show(N xs)*2+1-N cs=1 by omega];rfl,j,g⟩
theorem gCs_snoc (gs:List Qx)(g:Qx):gCs (gs++[g])=gCs gs++[U O g.ty,G g.mu]:=by simp[gCs]
theorem perm4T (a b c d:Qc)(ks:List Qc):(a::b::c::d::ks).Perm (b::a::c::d::ks):=by
 classical
 rw[Th];intro z;simp[Hd];omega
theorem SSt.pushT {y:Qe}(h:Mo D w0 (Q6 q x m fo go bd++ks) V)(g:Below V.heap.size V V1)(b:W.ownsRow D 148 2 v' (N x.types+1) (m.tcs++c2))(d:V1.grownBy W m.tv.ownBlock)(c:v'.ownBlock=m.tv.ownBlock\/v'.ownBlock=some V1.heap.size)(f:SpF D w0 { x with types:=x.types++[y] } { m with tv:=v',tcs:=m.tcs++c2 }):(W.cell? ⟨q,0,none⟩=some m.tv/\W.frozen? ⟨q,0,none⟩=false)/\SSt D w0 q { x with types:=x.types++[y] } fo go bd m.nv ks (W.setCell ⟨q,0,none⟩ v'):=by
 have a:=((h.perm (perm4T _ _ _ _ _)).push (r':=⟨148,2,N x.types+1,v',m.tcs++c2⟩) g d b c).perm (perm4T _ _ _ _ _).symm;refine⟨a.b0 0,{ m with tv:=v',tcs:=m.tcs++c2 },rfl,?_,f⟩;have j:=a.set 0 v';have e:(x.types++[y]).length=N x.types+1:=by simp
 simp only[Q6,e];exact j
theorem perm4F (a b c d:Qc)(ks:List Qc):(a::b::c::d::ks).Perm (c::a::b::d::ks):=by
 classical
 rw[Th];intro z;simp[Hd];omega
theorem SSt.pushF {y:Qe}(h:Mo D w0 (Q6 q x m fo go bd++ks) V)(g:Below V.heap.size V V1)(b:W.ownsRow D 148 2 v' (N x.funcs+1) (m.fcs++c2))(d:V1.grownBy W m.fv.ownBlock)(c:v'.ownBlock=m.fv.ownBlock\/v'.ownBlock=some V1.heap.size)(f:SpF D w0 { x with funcs:=x.funcs++[y] } { m with fv:=v',fcs:=m.fcs++c2 }):(W.cell? ⟨q,1,none⟩=some m.fv/\W.frozen? ⟨q,1,none⟩=false)/\SSt D w0 q { x with funcs:=x.funcs++[y] } fo go bd m.nv ks (W.setCell ⟨q,1,none⟩ v'):=by
 have a:=((h.perm (perm4F _ _ _ _ _)).push (r':=⟨148,2,N x.funcs+1,v',m.fcs++c2⟩) g d b c).perm (perm4F _ _ _ _ _).symm;refine⟨a.b0 1,{ m with fv:=v',fcs:=m.fcs++c2 },rfl,?_,f⟩;have j:=a.set 1 v';have e:(x.funcs++[y]).length=N x.funcs+1:=by simp
 simp only[Q6,e];exact j
theorem perm4G (a b c d:Qc)(ks:List Qc):(a::b::c::d::ks).Perm (d::a::b::c::ks):=by
 classical
 rw[Th];intro z;simp[Hd];omega
theorem SSt.pushG {y:Qx}(h:Mo D w0 (Q6 q x m fo go bd++ks) V)(g:Below V.heap.size V V1)(b:W.ownsRow D 145 2 v' (N x.globals+1) (m.gcs++c2))(d:V1.grownBy W m.gv.ownBlock)(c:v'.ownBlock=m.gv.ownBlock\/v'.ownBlock=some V1.heap.size)(f:SpF D w0 { x with globals:=x.globals++[y] } { m with gv:=v',gcs:=m.gcs++c2 }):(W.cell? ⟨q,4,none⟩=some m.gv/\W.frozen? ⟨q,4,none⟩=false)/\SSt D w0 q { x with globals:=x.globals++[y] } fo go bd m.nv ks (W.setCell ⟨q,4,none⟩ v'):=by
 have a:=((h.perm (perm4G _ _ _ _ _)).push (r':=⟨145,2,N x.globals+1,v',m.gcs++c2⟩) g d b c).perm (perm4G _ _ _ _ _).symm;refine⟨a.b0 4,{ m with gv:=v',gcs:=m.gcs++c2 },rfl,?_,f⟩;have j:=a.set 4 v';have e:(x.globals++[y]).length=N x.globals+1:=by simp
 simp only[Q6,e];exact j
end
theorem isize_c (k:Nat)(o:k<4)(h:SSt D w0 q x fo go bd nv ks V):Ec Q 197 #[Yp (some ⟨q,0,none⟩),U O (k:Int)] V λe w'=>e=Z (U O (if k=0 then(N x.funcs:Int)else if k=1 then(x.tables:Int)else if k=2 then(x.mems:Int)else (N x.globals:Int)))/\V=w':=by
 obtain⟨m,e,c,d⟩:=h;obtain⟨n,g,l,j,f⟩:=(SSt.spr (q:=q) (fo:=fo) (go:=go) (bd:=bd) (ks:=ks) d).cells c;obtain⟨u,t,b⟩:=Qh (c.row (r:=⟨148,2,N x.funcs,m.fv,m.fcs⟩) (by simp));obtain⟨s,p,a⟩:=Qh (c.row (r:=⟨145,2,N x.globals,m.gv,m.gcs⟩) (by simp));dsimp only at b a;rw[b]at g;rw[a]at f;clear c d b a e;rcases(by omega:k=0\/k=1\/k=2\/k=3)with rfl|rfl|rfl|rfl
 all_goals
  go_enter func197,ntmps197
  go_wp2
  go_ret
  exact⟨rfl,rfl⟩
theorem inamed_c (i:Int)(h:SSt D w0 q x fo go bd nv ks V)(j:0<=i):Ec Q 202 #[Yp (some ⟨q,0,none⟩),U O i] V λe w'=>e=Z (if i<N x.funcs then Nf else flt 2)/\V=w':=by
 obtain⟨m,e,c,f⟩:=h;obtain⟨u,d,t,s,p⟩:=(SSt.spr (q:=q) (fo:=fo) (go:=go) (bd:=bd) (ks:=ks) f).cells c;obtain⟨n,l,a⟩:=Qh (c.row (r:=⟨148,2,N x.funcs,m.fv,m.fcs⟩) (by simp));dsimp only at a;rw[a]at d;have b:=Hm (ihasFunc_c q (N x.funcs) l n i V d);rw[Xi j]at b;clear c f a e;by_cases k:i<N x.funcs
 . rw[if_pos k];(have hd:decide (i<(N x.funcs:Int))=true:=by simp[k]);rw[hd]at b;clear hd k;go_enter func202,ntmps202;(go_wp2_with (go_at_call 220;refine b.o.mono ?_;rintro e g ⟨rfl,rfl⟩));go_ret;exact⟨rfl,rfl⟩
 rw[if_neg k];have hd:decide (i<(N x.funcs:Int))=false:=by simp;omega
 rw[hd]at b;clear hd k;go_enter func202,ntmps202;go_wp2_with (go_at_call 220;refine b.o.mono ?_;rintro e g ⟨rfl,rfl⟩)
 go_ret;exact⟨rfl,rfl⟩
theorem info148:(Q.info? 148).map (λi=>(i.zero,i.size,i.bytes))=some (some (Ag #[S none 0 0,S none 0 0]),2,48):=by kernel_rfl
theorem one2 {a b:Vu}(f:a.oneCell'=true)(d:b.oneCell'=true):∀u∈[a,b],u.oneCell'=true:=by
 intro u c;simp at c;rcases c with rfl|rfl
 . exact f
 exact d
def Xd (x:Ctx)(i:Int):R Ctx:=if i<N x.types then .ok { x with funcs:=x.funcs++[x.types.getD i.toNat Qe.z] }else .error 2
theorem ifunction_c (i:Int)(h:SSt D w0 q x fo go bd nv ks V)(h0:0<=i)(bc:N x.funcs<=4194304):Ec Q 167 #[Yp (some ⟨q,0,none⟩),U O i] V (SsP D w0 q ks nv ((Xd x i).map λx'=>(x',fo,go,bd))):=by
 obtain⟨i0,hi,ai,ah,ag⟩:=info_parts info148;obtain⟨m,e,f,s⟩:=h;subst e;obtain⟨r0,r1,r2,r3,r4⟩:=(SSt.spr (q:=q) (fo:=fo) (go:=go) (bd:=bd) (ks:=ks) s).cells f;obtain⟨ta,tc,p,t⟩:=QA f (e:=148) (sz:=2) (n:=N x.types) (v:=m.tv) (cs:=m.tcs) (by simp);obtain⟨E,C,d⟩:=Qh (f.row (r:=⟨148,2,N x.funcs,m.fv,m.fcs⟩) (by simp));dsimp only at d;rw[p]at r0;rw[d]at r1;have M:=Hm (XZ ta (N x.types) tc i V);rw[Xi h0]at M;have L:=Hm (⟨f.b,f.le⟩:Below D w0 V/\D<=V.heap.size);by_cases k:i<N x.types
 . obtain⟨j,rfl⟩:∃j:Nat,i=j:=⟨i.toNat,by omega⟩;(have hj:j<N x.types:=by omega);have ba:(j:Int)<(N x.types:Int):=k;(have B:Hid ((Xd x j).map (λx'=>(x',fo,go,bd))=.ok ({ x with funcs:=x.funcs++[x.types.getD j Qe.z] },fo,go,bd)):=by show(Xd x j).map _=_;rw[Xd,if_pos k];rfl);(have hd:decide ((j:Int)<(N x.types:Int))=true:=by simp[hj]);rw[hd]at M;obtain⟨gt,aq,u⟩:=t (by omega);subst aq;obtain⟨pv,rv,e1,e2,X,R⟩:=s.tt.get hj [];have d0:=u _ _ e1 (by omega);have d1:=u _ _ e2 (by omega);(obtain⟨pa,pc,ak⟩:∃a c,pv=S a (x.types.getD j Qe.z).ps.length c:=by obtain⟨a,c,e,_⟩:=(X.sub (ks':=Q6 q x m fo go bd++ks) (λr hr=>by cases hr)).has0 f;exact⟨a,c,e⟩);(obtain⟨ra,rc,aj⟩:∃a c,rv=S a (x.types.getD j Qe.z).rs.length c:=by obtain⟨a,c,e,_⟩:=(R.sub (ks':=Q6 q x m fo go bd++ks) (λr hr=>by cases hr)).has0 f;exact⟨a,c,e⟩);have A:Hid (∀v':Vu,SpF D w0 { x with funcs:=x.funcs++[x.types.getD j Qe.z] } { m with fv:=v',fcs:=m.fcs++[pv,rv] }):=λv'=>⟨s.tt,s.ft.snoc X R,s.gt⟩;subst ak aj;obtain⟨pn,H⟩:∃n,n=(x.types.getD j Qe.z).ps.length:=⟨_,rfl⟩;obtain⟨Y,F⟩:∃n,n=(x.types.getD j Qe.z).rs.length:=⟨_,rfl⟩;rw[<- H]at d0 A;rw[<- F]at d1 A;(have OW:Hid (V.ownsRow D 148 2 (S E (N x.funcs) C) (N x.funcs) m.fcs):=by have:=f.row (r:=⟨148,2,N x.funcs,m.fv,m.fcs⟩) (by simp);rw[d]at this;exact this);have ao:=f.le;have HB:Hid (∀o,Below V.heap.size V ((V.alloc o).drew)):=λo=>⟨rfl,rfl,rfl,by show V.heap.size<=(V.alloc o).heap.size;simp,λk hk=>QM V o k hk⟩
   (have HP:Hid (∀V1 W v',Below V.heap.size V V1->W.ownsRow D 148 2 v' (N x.funcs+1) (m.fcs++[S pa pn pc,S ra Y rc])->V1.grownBy W (Tq E (N x.funcs) C).ownBlock->(v'.ownBlock=(Tq E (N x.funcs) C).ownBlock\/v'.ownBlock=some V1.heap.size)->(W.cell? ⟨q,1,none⟩=some (S E (N x.funcs) C)/\W.frozen? ⟨q,1,none⟩=false)/\SSt D w0 q { x with funcs:=x.funcs++[x.types.getD j Qe.z] } fo go bd m.nv ks (W.setCell ⟨q,1,none⟩ v')):=λV1 W v' hb ho hg hl=>by have:=SSt.pushF (y:=x.types.getD j Qe.z) f hb ho (by rw[d];exact hg) (by rw[d];exact hl) (A.o v');rw[d]at this;exact this);have kd:∀o,(V.alloc o).cell? ⟨q,1,none⟩=some (S E (N x.funcs) C):=λo=>Qd r1;clear f s p t d u e1 e2 X R H F r2 r3 r4 hd k hj;go_enter func167,ntmps167;go_upto_region 3 with (go_at_call 198;refine M.o.mono ?_;rintro e w1 ⟨rfl,rfl⟩)
   go_region_law (first
    | (
     refine Qt rfl (.tmp 17) (.tmp 25) 38 rfl D 148 i0 (Ag #[S none 0 0,S none 0 0]) 2 48 underlying38 hi ai ah ag rfl (by decide) (S E (N x.funcs) C) (N x.funcs) m.fcs (by first|rfl|simp[Lz,Lf]) (World.ownsRow.alloc OW.o _) ⟨V.heap.size,0,none⟩ 1 1 [S pa pn pc,S ra Y rc] (by first|rfl|simp[Lz,Lf]) (by first|rfl|simp) (Jn V [S pa pn pc,S ra Y rc] 148) (one2 rfl rfl) (by unfold maxLen;omega) (by omega) (Ky ao (HB.o _).size) ?_
     intro v2 w5 g I l
     have HQ:=Hm (HP.o _ w5 v2 (HB.o _) g I l);have bh:=HQ.o.1.1;have bg:=HQ.o.1.2;obtain⟨a4,a3,rfl⟩:=Qh g;clear g I l))
   all_goals
    go_wp2_with fail
    go_ret
    exact .inr ⟨_,_,_,_,B.o,rfl,HQ.o.2⟩
 have B:Hid ((Xd x i).map (λx'=>(x',fo,go,bd))=.error 2):=by show(Xd x i).map _=_;rw[Xd,if_neg k];rfl
 have hd:decide (i<(N x.types:Int))=false:=by simp;omega
 rw[hd]at M;clear f s p t d r1 r2 r3 r4 hd k;go_enter func167,ntmps167;go_wp2_with (go_at_call 198;refine M.o.mono ?_;rintro e w1 ⟨rfl,rfl⟩)
 go_ret;exact .inl ⟨2,B.o,rfl,L.o.1,L.o.2⟩
def X2 (n:Nat)(l:Qg)(most:Int):R Nat:=if(l.has=true/\l.max<l.min)\/most<l.min\/most<l.max then .error 3 else if 0<n then .error 4 else .ok (n+1)
def OnP (V:J)(a:Addr)(r:R Nat)(e:Ending)(w':J):Prop:=(∃f,r=.error f/\e=Z (flt f)/\Below V.heap.size V w')\/∃(n:Nat) (W:J),r=.ok n/\e=Z Nf/\Below V.heap.size V W/\w'=W.setCell a (U O n)
theorem ione_c (q k n:Nat)(l:Qg)(a:Int)(V:J)(z:V.cell? ⟨q,k,none⟩=some (U O (n:Int)))(B:V.frozen? ⟨q,k,none⟩=false)(hn:n<=1):Ec Q 199 #[Yp (some ⟨q,k,none⟩),Ag #[U O l.min,U O l.max,G l.has],U O a] V (OnP V ⟨q,k,none⟩ (X2 n l a)):=by
 obtain⟨f,d,m⟩:=l;obtain⟨M,A⟩:∃M,M=X2 n ⟨f,d,m⟩ a:=⟨_,rfl⟩;rw[<- A];have y:=Hm A;obtain⟨W,u⟩:∃W,W=V.alloc (Fc #[U O f,U O d,G m] 144):=⟨_,rfl⟩;have v:Below V.heap.size V W:=by rw[u];exact bFz.alloc lRz _
 have kk:Bk W V.heap.size [U O f,U O d,G m]:=by rw[u];exact Bk.new
 have L:=kk.2.1 0 _ rfl;have I:=kk.2.1 1 _ rfl;have H:=kk.2.1 2 _ rfl;have t:=Kk V _ z;have X:W.cell? ⟨q,k,none⟩=some (U O (n:Int)):=(v.cell (p:=⟨q,k,none⟩) t).trans z;have R:W.frozen? ⟨q,k,none⟩=false:=(v.frozen (p:=⟨q,k,none⟩) t).trans B;have c:=Hm v;clear A z B kk v;go_enter func199,ntmps199;go_upto_region 1 with fail
 rw[<- u];clear u;by_cases g:(m=true/\d<f)\/a<f\/a<d
 . (have b:Hid (M=.error 3):=by show M=_;rw[y.o,X2,if_pos g]);clear y;cases m
   . (have c2:a<f\/a<d:=by simpa using g);clear g;by_cases D:a<f
     . go_wp2;go_ret;exact .inl ⟨3,b.o,rfl,c.o⟩
     (have C:a<d:=by omega);go_wp2;go_ret;exact .inl ⟨3,b.o,rfl,c.o⟩
   by_cases F:d<f
   . clear g;go_wp2;go_ret;exact .inl ⟨3,b.o,rfl,c.o⟩
   (have c2:a<f\/a<d:=by simpa[F]using g);clear g;by_cases D:a<f
   . go_wp2;go_ret;exact .inl ⟨3,b.o,rfl,c.o⟩
   (have C:a<d:=by omega);go_wp2;go_ret;exact .inl ⟨3,b.o,rfl,c.o⟩
 have D:¬a<f:=λh=>g (.inr (.inl h));have C:¬a<d:=λh=>g (.inr (.inr h));have j:M=if 0<n then .error 4 else .ok (n+1):=by rw[y.o,X2,if_neg g]
 have r:m=true->¬d<f:=λh h2=>g (.inl ⟨h,h2⟩);clear g y;by_cases s:0<n
 . (have b:Hid (M=.error 4):=by show M=_;rw[j,if_pos s]);clear j;cases m
   . clear r;go_wp2;go_ret;exact .inl ⟨4,b.o,rfl,c.o⟩
   have E:=r rfl;clear r;go_wp2;go_ret;exact .inl ⟨4,b.o,rfl,c.o⟩
 obtain rfl:n=0:=by omega
 have b:Hid (M=.ok 1):=by show M=_;rw[j];rfl
 clear j s hn;cases m
 . clear r;go_wp2;go_ret;exact .inr ⟨1,W,b.o,rfl,c.o,rfl⟩
 have E:=r rfl;clear r;go_wp2;go_ret;exact .inr ⟨1,W,b.o,rfl,c.o,rfl⟩
theorem on_val {a:Addr}{r:R Nat}{e:Ending}{b:J}(h:OnP V a r e b):∃rv,e=Z rv/\((∃f,r=.error f/\rv=flt f/\Below V.heap.size V b)\/∃(n:Nat) (W:J),r=.ok n/\rv=Nf/\Below V.heap.size V W/\b=W.setCell a (U O n)):=by
 rcases h with ⟨f,x,y,z⟩|⟨n,W,x,y,z,t⟩
 . exact⟨_,y,.inl ⟨f,x,rfl,z⟩⟩
 exact⟨_,y,.inr ⟨n,W,x,rfl,z,t⟩⟩
theorem itable_c (l:Qg)(h:SSt D w0 q x fo go bd nv ks V)(hn:x.tables<=1):Ec Q 168 #[Yp (some ⟨q,0,none⟩),Ag #[U O l.min,U O l.max,G l.has]] V (SsP D w0 q ks nv ((X2 x.tables l 4294967295).map λn=>({ x with tables:=n },fo,go,bd))):=by
 obtain⟨W,d⟩:∃W,W=V.alloc (Fc #[U O l.min,U O l.max,G l.has] 144):=⟨_,rfl⟩;have u:Below V.heap.size V W:=by rw[d];exact bFz.alloc lRz _
 have kk:Bk W V.heap.size [U O l.min,U O l.max,G l.has]:=by rw[d];exact Bk.new
 have F:=kk.2.1 0 _ rfl;have E:=kk.2.1 1 _ rfl;have C:=kk.2.1 2 _ rfl;have k:=h.keep u;have c:W.cell? ⟨q,2,none⟩=some (U O (x.tables:Int))/\W.frozen? ⟨q,2,none⟩=false:=by obtain⟨m,e,y,B⟩:=k;exact y.b0 2
 have p:=Hm (ione_c q 2 x.tables l 4294967295 W.drew c.1 c.2 hn);have HI:=Hm k;have r:Hid (∀(n:Nat) (W':J),SSt D w0 q x fo go bd nv ks W'->SSt D w0 q { x with tables:=n } fo go bd nv ks (W'.setCell ⟨q,2,none⟩ (U O n))):=λn W' hs=>hs.num 2 (U O n) rfl rfl rfl (λm=>rfl);clear h k kk u c;go_enter func168,ntmps168;go_upto_region 1 with fail
 rw[<- d];clear d
 go_region_law (
  go_simp
  go_at_call 199
  refine p.o.mono ?_
  intro e A t
  obtain⟨rv,rfl,s⟩:=on_val t;have z:=Hm s;clear t s)
 all_goals
  go_wp2
  go_ret
  rcases z.o with ⟨f,j,g,a⟩|⟨n,H,j,g,a,v⟩
  . exact .inl ⟨_,by rw[j];rfl,by rw[g];rfl,(HI.o.keep ⟨a.os,a.tape,a.output,a.size,a.block⟩).mo.b,(HI.o.keep ⟨a.os,a.tape,a.output,a.size,a.block⟩).mo.le⟩
  . exact .inr ⟨_,_,_,_,by rw[j];rfl,by rw[g];rfl,by rw[v];exact r.o _ _ (HI.o.keep ⟨a.os,a.tape,a.output,a.size,a.block⟩)⟩
theorem imemory_c (l:Qg)(h:SSt D w0 q x fo go bd nv ks V)(hn:x.mems<=1):Ec Q 169 #[Yp (some ⟨q,0,none⟩),Ag #[U O l.min,U O l.max,G l.has]] V (SsP D w0 q ks nv ((X2 x.mems l 65536).map λn=>({ x with mems:=n },fo,go,bd))):=by
 obtain⟨W,d⟩:∃W,W=V.alloc (Fc #[U O l.min,U O l.max,G l.has] 144):=⟨_,rfl⟩;have u:Below V.heap.size V W:=by rw[d];exact bFz.alloc lRz _
 have kk:Bk W V.heap.size [U O l.min,U O l.max,G l.has]:=by rw[d];exact Bk.new
 have F:=kk.2.1 0 _ rfl;have E:=kk.2.1 1 _ rfl;have C:=kk.2.1 2 _ rfl;have k:=h.keep u;have c:W.cell? ⟨q,3,none⟩=some (U O (x.mems:Int))/\W.frozen? ⟨q,3,none⟩=false:=by obtain⟨m,e,y,B⟩:=k;exact y.b0 3
 have p:=Hm (ione_c q 3 x.mems l 65536 W.drew c.1 c.2 hn);have HI:=Hm k;have r:Hid (∀(n:Nat) (W':J),SSt D w0 q x fo go bd nv ks W'->SSt D w0 q { x with mems:=n } fo go bd nv ks (W'.setCell ⟨q,3,none⟩ (U O n))):=λn W' hs=>hs.num 3 (U O n) rfl rfl rfl (λm=>rfl);clear h k kk u c;go_enter func169,ntmps169;go_upto_region 1 with fail
 rw[<- d];clear d
 go_region_law (
  go_simp
  go_at_call 199
  refine p.o.mono ?_
  intro e A t
  obtain⟨rv,rfl,s⟩:=on_val t;have z:=Hm s;clear t s)
 all_goals
  go_wp2
  go_ret
  rcases z.o with ⟨f,j,g,a⟩|⟨n,H,j,g,a,v⟩
  . exact .inl ⟨_,by rw[j];rfl,by rw[g];rfl,(HI.o.keep ⟨a.os,a.tape,a.output,a.size,a.block⟩).mo.b,(HI.o.keep ⟨a.os,a.tape,a.output,a.size,a.block⟩).mo.le⟩
  . exact .inr ⟨_,_,_,_,by rw[j];rfl,by rw[g];rfl,by rw[v];exact r.o _ _ (HI.o.keep ⟨a.os,a.tape,a.output,a.size,a.block⟩)⟩
theorem info145:(Q.info? 145).map (λi=>(i.zero,i.size,i.bytes))=some (some (Ag #[U O 0,G false]),2,16):=by kernel_rfl
theorem SsP.val {r:R (Ctx × Int × Int × Int)}{e:Ending}{d:J}(h:SsP D w0 q ks nv r e d):∃rv,e=Z rv/\((∃f,r=.error f/\rv=flt f/\Below D w0 d/\D<=d.heap.size)\/∃x fo go bd,r=.ok (x,fo,go,bd)/\rv=Nf/\SSt D w0 q x fo go bd nv ks d):=by
 rcases h with ⟨f,a,b,c⟩|⟨x,fo,go,bd,a,b,c⟩
 . exact⟨_,b,.inl ⟨f,a,rfl,c⟩⟩
 exact⟨_,b,.inr ⟨x,fo,go,bd,a,rfl,c⟩⟩
theorem ifunction_err (i:Int)(h:SSt D w0 q x fo go bd nv ks V)(t:0<=i)(k:¬i<N x.types):Ec Q 167 #[Yp (some ⟨q,0,none⟩),U O i] V λe w'=>e=Z (flt 2)/\V=w':=by
 obtain⟨m,e,b,d⟩:=h;obtain⟨s,r,p,l,j⟩:=(SSt.spr (q:=q) (fo:=fo) (go:=go) (bd:=bd) (ks:=ks) d).cells b;obtain⟨g,f,a,_⟩:=QA b (e:=148) (sz:=2) (n:=N x.types) (v:=m.tv) (cs:=m.tcs) (by simp);rw[a]at s;have c:=Hm (XZ g (N x.types) f i V);rw[Xi t]at c;have hd:decide (i<(N x.types:Int))=false:=by simp;omega
 rw[hd]at c;clear b d a r p l j hd k e;go_enter func167,ntmps167;go_wp2_with (go_at_call 198;refine c.o.mono ?_;rintro e u ⟨rfl,rfl⟩)
 go_ret;exact⟨rfl,rfl⟩
def impM (x:Ctx)(fo go bd:Int)(y:Imp):R (Ctx × Int × Int × Int) :=
 if y.kind=0 then(Xd x y.ty).map λx'=>(x',(N x'.funcs:Int),go,bd)else
 if y.kind=1 then(X2 x.tables y.lim 4294967295).map λn=>({ x with tables:=n },fo,go,bd)else
 if y.kind=2 then(X2 x.mems y.lim 65536).map λn=>({ x with mems:=n },fo,go,bd)else
 .ok ({ x with globals:=x.globals++[y.gl] },fo,((N x.globals+1:Nat):Int),bd)
theorem iimp_0 (mod r:ByteArray)(ty:Int)(a:Qg)(gl:Qx)(h:SSt D w0 q x fo go bd nv ks V)(y:0<=ty)(s:N x.funcs<=4194304):Ec Q 166 #[Yp (some ⟨q,0,none⟩),Ag #[Xs mod,Xs r,U O 0,U O ty,U O a.min,U O a.max,G a.has,U O gl.ty,G gl.mu]] V (SsP D w0 q ks nv ((Xd x ty).map λx'=>(x',(N x'.funcs:Int),go,bd))):=by
 obtain⟨W,l⟩:∃W,W=V.alloc (Fc #[Xs mod,Xs r,U O 0,U O ty,U O a.min,U O a.max,G a.has,U O gl.ty,G gl.mu] 147):=⟨_,rfl⟩;have t:Below V.heap.size V W:=by rw[l];exact bFz.alloc lRz _
 have kk:Bk W V.heap.size [Xs mod,Xs r,U O 0,U O ty,U O a.min,U O a.max,G a.has,U O gl.ty,G gl.mu]:=by rw[l];exact Bk.new
 have H:=kk.2.1 2 _ rfl;have F:=kk.2.1 3 _ rfl;have n:=h.keep t;have j:Hid (∀{x1:Ctx} {W':J},SSt D w0 q x1 fo go bd nv ks W'->(W'.cell? ⟨q,5,none⟩=some (U O fo)/\W'.frozen? ⟨q,5,none⟩=false)/\SSt D w0 q x1 (N x1.funcs:Int) go bd nv ks (W'.setCell ⟨q,5,none⟩ (U O (N x1.funcs:Int)))):=fun {x1 W'} hs=>⟨by
     obtain⟨m,e,C,E⟩:=hs
     exact C.b0 5,hs.num 5 _ rfl rfl rfl (fun m=>rfl)⟩
 by_cases k:ty<N x.types
 . have p:=Hm (ifunction_c ty n y s);(have c:Xd x ty=.ok { x with funcs:=x.funcs++[x.types.getD ty.toNat Qe.z] }:=by rw[Xd,if_pos k]);rw[c]at p⊢;clear h n kk t;go_enter func166,ntmps166;(go_upto_region 1 with fail);rw[<- l];clear l;(go_wp2_with fail);refine p.o.mono ?_;rintro e w1 (⟨f,hr,rfl,hb⟩|⟨x1,fo1,go1,bd1,hr,rfl,hI1⟩)
   . cases hr
   cases hr;have u:=Hm (isize_c 0 (by omega) hI1);obtain⟨⟨B,A⟩,d⟩:=j.o hI1;have g:=Hm d;clear hI1 d c k;(go_wp2_with (go_at_call 197;refine u.o.mono ?_;rintro e v ⟨rfl,rfl⟩));go_ret;exact .inr ⟨_,_,_,_,rfl,rfl,by simpa using g.o⟩
 have p:=Hm (ifunction_err ty n y k);have c:Xd x ty=.error 2:=by rw[Xd,if_neg k]
 rw[c];have u:=Hm (isize_c 0 (by omega) n);obtain⟨⟨B,A⟩,d⟩:=j.o n;have g:=Hm d;clear d c k;clear h n kk t;go_enter func166,ntmps166;go_upto_region 1 with fail
 rw[<- l];clear l;go_wp2_with (first|(go_at_call 167;refine p.o.mono ?_;rintro e v ⟨rfl,rfl⟩)|(go_at_call 197;refine u.o.mono ?_;rintro e v ⟨rfl,rfl⟩))
 go_ret;exact .inl ⟨2,rfl,rfl,g.o.mo.b,g.o.mo.le⟩
theorem iimp_1 (mod c:ByteArray)(ty:Int)(a:Qg)(gl:Qx)(h:SSt D w0 q x fo go bd nv ks V)(hn:x.tables<=1):Ec Q 166 #[Yp (some ⟨q,0,none⟩),Ag #[Xs mod,Xs c,U O 1,U O ty,U O a.min,U O a.max,G a.has,U O gl.ty,G gl.mu]] V (SsP D w0 q ks nv ((X2 x.tables a 4294967295).map λn=>({ x with tables:=n },fo,go,bd))):=by
 obtain⟨W,b⟩:∃W,W=V.alloc (Fc #[Xs mod,Xs c,U O 1,U O ty,U O a.min,U O a.max,G a.has,U O gl.ty,G gl.mu] 147):=⟨_,rfl⟩;have s:Below V.heap.size V W:=by rw[b];exact bFz.alloc lRz _
 have kk:Bk W V.heap.size [Xs mod,Xs c,U O 1,U O ty,U O a.min,U O a.max,G a.has,U O gl.ty,G gl.mu]:=by rw[b];exact Bk.new
 have E:=kk.2.1 2 _ rfl;have C:=kk.2.1 4 _ rfl;have B:=kk.2.1 5 _ rfl;have A:=kk.2.1 6 _ rfl;have r:=h.keep s;have y:=Hm (itable_c a r hn);clear h r kk s;go_enter func166,ntmps166;go_upto_region 1 with fail
 rw[<- b];clear b;go_wp2_with fail
 refine y.o.mono ?_;intro e z p;obtain⟨rv,rfl,m⟩:=p.val;have v:=Hm m;clear p m;go_wp2;go_ret;rcases v.o with ⟨f,d,rfl,u⟩|⟨t,k,j,l,d,rfl,g⟩
 . exact .inl ⟨f,d,rfl,u⟩
 exact .inr ⟨t,k,j,l,d,rfl,g⟩
theorem iimp_2 (mod c:ByteArray)(ty:Int)(a:Qg)(gl:Qx)(h:SSt D w0 q x fo go bd nv ks V)(hn:x.mems<=1):Ec Q 166 #[Yp (some ⟨q,0,none⟩),Ag #[Xs mod,Xs c,U O 2,U O ty,U O a.min,U O a.max,G a.has,U O gl.ty,G gl.mu]] V (SsP D w0 q ks nv ((X2 x.mems a 65536).map λn=>({ x with mems:=n },fo,go,bd))):=by
 obtain⟨W,b⟩:∃W,W=V.alloc (Fc #[Xs mod,Xs c,U O 2,U O ty,U O a.min,U O a.max,G a.has,U O gl.ty,G gl.mu] 147):=⟨_,rfl⟩;have s:Below V.heap.size V W:=by rw[b];exact bFz.alloc lRz _
 have kk:Bk W V.heap.size [Xs mod,Xs c,U O 2,U O ty,U O a.min,U O a.max,G a.has,U O gl.ty,G gl.mu]:=by rw[b];exact Bk.new
 have E:=kk.2.1 2 _ rfl;have C:=kk.2.1 4 _ rfl;have B:=kk.2.1 5 _ rfl;have A:=kk.2.1 6 _ rfl;have r:=h.keep s;have y:=Hm (imemory_c a r hn);clear h r kk s;go_enter func166,ntmps166;go_upto_region 1 with fail
 rw[<- b];clear b;go_wp2_with fail
 refine y.o.mono ?_;intro e z p;obtain⟨rv,rfl,m⟩:=p.val;have v:=Hm m;clear p m;go_wp2;go_ret;rcases v.o with ⟨f,d,rfl,u⟩|⟨t,k,j,l,d,rfl,g⟩
 . exact .inl ⟨f,d,rfl,u⟩
 exact .inr ⟨t,k,j,l,d,rfl,g⟩
theorem iimp_3 (mod E:ByteArray)(ty:Int)(a:Qg)(gl:Qx)(h:SSt D w0 q x fo go bd nv ks V)(aj:N x.globals<=4194304):Ec Q 166 #[Yp (some ⟨q,0,none⟩),Ag #[Xs mod,Xs E,U O 3,U O ty,U O a.min,U O a.max,G a.has,U O gl.ty,G gl.mu]] V (SsP D w0 q ks nv (.ok ({ x with globals:=x.globals++[gl] },fo,((N x.globals+1:Nat):Int),bd))):=by
 obtain⟨W,z⟩:∃W,W=V.alloc (Fc #[Xs mod,Xs E,U O 3,U O ty,U O a.min,U O a.max,G a.has,U O gl.ty,G gl.mu] 147):=⟨_,rfl⟩;have ba:Below V.heap.size V W:=by rw[z];exact bFz.alloc lRz _
 have kk:Bk W V.heap.size [Xs mod,Xs E,U O 3,U O ty,U O a.min,U O a.max,G a.has,U O gl.ty,G gl.mu]:=by rw[z];exact Bk.new
 have e2:=kk.2.1 2 _ rfl;have e7:=kk.2.1 7 _ rfl;have e8:=kk.2.1 8 _ rfl;have Y:=h.keep ba;have HI:=Hm Y;obtain⟨i0,hi,I,H,F⟩:=info_parts info145;have v:Hid (∀{x1:Ctx} {W':J},SSt D w0 q x1 fo go bd nv ks W'->(W'.cell? ⟨q,6,none⟩=some (U O go)/\W'.frozen? ⟨q,6,none⟩=false)/\SSt D w0 q x1 fo (N x1.globals:Int) bd nv ks (W'.setCell ⟨q,6,none⟩ (U O (N x1.globals:Int)))):=fun {x1 W'} hs=>⟨by
     obtain⟨m,e,l,n⟩:=hs
     exact l.b0 6,hs.num 6 _ rfl rfl rfl (fun m=>rfl)⟩
 obtain⟨f,g⟩:=gl;dsimp only at e7 e8;obtain⟨m,e,l,n⟩:=Y;subst e;obtain⟨r0,r1,r2,r3,X⟩:=(SSt.spr (q:=q) (fo:=fo) (go:=go) (bd:=bd) (ks:=ks) n).cells l;have b:W.ownsRow D 145 2 m.gv (N x.globals) m.gcs:=l.row (r:=⟨145,2,N x.globals,m.gv,m.gcs⟩) (by simp);obtain⟨u,t,d⟩:=Qh b;rw[d]at X b;have OW:=Hm b;have L:=l.le;have HB:Hid (∀o,Below W.heap.size W ((W.alloc o).drew)):=λo=>⟨rfl,rfl,rfl,by show W.heap.size<=(W.alloc o).heap.size;simp,λk hk=>QM W o k hk⟩;have HP:Hid (∀V1 W' v',Below W.heap.size W V1->W'.ownsRow D 145 2 v' (N x.globals+1) (m.gcs++[U O f,G g])->V1.grownBy W' (Tq u (N x.globals) t).ownBlock->(v'.ownBlock=(Tq u (N x.globals) t).ownBlock\/v'.ownBlock=some V1.heap.size)->(W'.cell? ⟨q,4,none⟩=some (S u (N x.globals) t)/\W'.frozen? ⟨q,4,none⟩=false)/\SSt D w0 q { x with globals:=x.globals++[⟨f,g⟩] } fo go bd m.nv ks (W'.setCell ⟨q,4,none⟩ v')):=λV1 W' v' hb ho hg hl=>by have:=SSt.pushG (y:=⟨f,g⟩) l hb ho (by rw[d];exact hg) (by rw[d];exact hl) ⟨n.tt,n.ft,by rw[gCs_snoc,<- n.gt]⟩;rw[d]at this;exact this
 have kd:∀o,(W.alloc o).cell? ⟨q,4,none⟩=some (S u (N x.globals) t):=λo=>Qd X;clear l n d b r0 r1 r2 r3;clear h kk ba;go_enter func166,ntmps166;go_upto_region 1 with fail
 rw[<- z];clear z;go_upto_region 11 with fail
 go_region_law (first
  | (
   refine Qt rfl (.tmp 37) (.tmp 40) 64 rfl D 145 i0 (Ag #[U O 0,G false]) 2 16 underlying64 hi I H F rfl (by decide) (S u (N x.globals) t) (N x.globals) m.gcs (by first|rfl|simp[Lz,Lf]) (World.ownsRow.alloc OW.o _) ⟨W.heap.size,0,none⟩ 1 1 [U O f,G g] (by first|rfl|simp[Lz,Lf]) (by first|rfl|simp) (Jn W [U O f,G g] 145) (one2 rfl rfl) (by unfold maxLen;omega) (by omega) (Ky L (HB.o _).size) ?_
   intro v2 R c s j
   have A:=Hm (HP.o _ R v2 (HB.o _) c s j);have aq:=A.o.1.1;have ap:=A.o.1.2;obtain⟨C,B,rfl⟩:=Qh c;clear c s j))
 all_goals
  have HS:=Hm (isize_c 3 (by omega) A.o.2);obtain⟨⟨u0,u1⟩,p⟩:=v.o A.o.2;have M:=Hm p;clear p
  go_upto_region 12 with fail
  generalize R.setCell ⟨q,4,none⟩ (S C (N x.globals+1) B)=W9 at *
  go_wp2_with (go_at_call 197;refine HS.o.mono ?_;rintro e w2 ⟨rfl,rfl⟩)
  go_ret
  exact .inr ⟨_,_,_,_,rfl,rfl,by simpa using M.o⟩
theorem iownFunc_c {D w0}{rs V}(i:Nat)(p:Mo D w0 rs V)(s:SpR D w0 q x fo go bd m rs)(a:Nat)(af:fo=a)(hj:a+i<N x.funcs)(a3:N x.funcs<=4194304):Ec Q 221 #[Yp (some ⟨q,0,none⟩),U O (i:Int)] V λe w'=>∃g f d c,e=Z (Ag #[S g (x.funcs.getD (a+i) Qe.z).ps.length f,S d (x.funcs.getD (a+i) Qe.z).rs.length c])/\Ty D w0 [] (S g (x.funcs.getD (a+i) Qe.z).ps.length f) (x.funcs.getD (a+i) Qe.z).ps/\Ty D w0 [] (S d (x.funcs.getD (a+i) Qe.z).rs.length c) (x.funcs.getD (a+i) Qe.z).rs/\Below V.heap.size V w':=by
 subst af;obtain⟨r0,r1,r2,r3,r4⟩:=s.cells p;have r5:V.cell? ⟨q,5,none⟩=some (U O (a:Int)):=(p.bx s.bx 5 (u:=U O (a:Int))).1;obtain⟨fa,fc,C,E⟩:=QA p s.fr;rw[C]at r1;obtain⟨gt,ae,l⟩:=E (by omega);subst ae;obtain⟨j,B⟩:∃j,j=a+i:=⟨_,rfl⟩;rw[<- B]at hj⊢;have a2:(j:Int)<(N x.funcs:Int):=by omega
 obtain⟨pv,rv,e1,e2,t1,Y⟩:=s.ft.get hj [];have d0:=l _ _ e1 (by omega);have d1:=l _ _ e2 (by omega);obtain⟨g,f,ad,_⟩:=(t1.sub (ks':=rs) (λr hr=>by cases hr)).has0 p;obtain⟨d,c,ac,_⟩:=(Y.sub (ks':=rs) (λr hr=>by cases hr)).has0 p;subst ad ac;have L:=Hm t1;have I:=Hm Y;generalize x.funcs.getD j Qe.z=ft at *;obtain⟨R,A⟩:∃n,n=N ft.ps:=⟨_,rfl⟩;obtain⟨M,y⟩:∃n,n=N ft.rs:=⟨_,rfl⟩;rw[<- A]at d0 L⊢;rw[<- y]at d1 I⊢;obtain⟨W,b⟩:∃W,W=V.alloc (Fc #[S none 0 0,S none 0 0] 148):=⟨_,rfl⟩;have k:Bk W V.heap.size [S none 0 0,S none 0 0]:=by have:=Bk.new (w:=V) (cs:=[S none 0 0,S none 0 0]) (t:=148);rw[b];simpa using this
 have H:Below V.heap.size V W:=by rw[b];exact bFz.alloc lRz _
 have ay:W.cell? ⟨q,1,none⟩=some (S (some ⟨gt,0,none⟩) (N x.funcs) fc):=by rw[b];exact Qd r1
 have au:W.cell? ⟨q,5,none⟩=some (U O (a:Int)):=by rw[b];exact Qd r5
 have a7:W.cell? ⟨gt,j*2,none⟩=some (S g R f):=by rw[b];exact Qd d0
 have a6:W.cell? ⟨gt,j*2+1,none⟩=some (S d M c):=by rw[b];exact Qd d1
 have y0:=k.2.1 0 _ rfl;have y1:=k.2.1 1 _ rfl;have z0:=k.2.2 0;have z1:=k.2.2 1;have HK:=Hm k;have HB:=Hm H;have a1:IntKind.i64.wrap ((a:Int)+(i:Int))=(j:Int):=by rw[Kv];omega
 have a0:wrap64 ((a:Int)+(i:Int))=(j:Int):=by unfold wrap64;omega
 clear B;clear p s E l e1 e2 t1 Y A y C k H r0 r1 r2 r3 r4 r5 d0 d1;go_enter func221,ntmps221;go_upto_region 1 with fail
 rw[<- b];clear b;go_region
 all_goals
  go_wp2
  refine Qv (λX=>(X.cell? ⟨V.heap.size,0,none⟩=some (S g R f)/\X.cell? ⟨V.heap.size,1,none⟩=some (S d M c))/\Below V.heap.size V X) ?_ ?_
  . have F:=(HK.o.set (j:=0) (v:=S g R f)).set (j:=1) (v:=S d M c)
    exact⟨⟨F.2.1 0 _ rfl,F.2.1 1 _ rfl⟩,((HB.o.drew).setCell lRz _).setCell lRz _⟩
  . rintro X ⟨⟨u0,u1⟩,h2⟩
    exact bodyPost_ret (v:=Ag #[S g R f,S d M c]) (by simp[results,results221,go_sem,u0,u1]) rfl ⟨_,_,_,_,rfl,L.o,I.o,h2⟩
theorem iseg_c (k:Nat)(g:k=1\/k=2)(h:SSt D w0 q x fo go bd nv ks V):Ec Q 204 #[Yp (some ⟨q,0,none⟩),U O (k:Int)] V λe w'=>e=Z (if(if k=1 then x.tables else x.mems)=0 then flt 2 else Nf)/\V=w':=by
 have b:=Hm (isize_c k (by omega) h);clear h;rcases g with rfl|rfl
 . by_cases c:x.tables=0
   . (have f:((x.tables:Int)==0)=true:=by simp[c]);simp only[c,if_true];have a:Hid (Ec Q 197 #[Yp (some ⟨q,0,none⟩),U O 1] V λe w'=>e=Z (U O (x.tables:Int))/\V=w'):=b.o;clear b c;go_enter func204,ntmps204;(go_wp2_with (go_at_call 197;refine a.o.mono ?_;rintro e d ⟨rfl,rfl⟩));go_ret;exact⟨rfl,rfl⟩
   (have f:((x.tables:Int)==0)=false:=by simp;omega);simp only[c,if_true,if_false];have a:Hid (Ec Q 197 #[Yp (some ⟨q,0,none⟩),U O 1] V λe w'=>e=Z (U O (x.tables:Int))/\V=w'):=b.o;clear b c;go_enter func204,ntmps204;(go_wp2_with (go_at_call 197;refine a.o.mono ?_;rintro e d ⟨rfl,rfl⟩));go_ret;exact⟨rfl,rfl⟩
 by_cases c:x.mems=0
 . (have f:((x.mems:Int)==0)=true:=by simp[c]);(have e:(if(2:Nat)=1 then x.tables else x.mems)=0:=by simp[c]);rw[if_pos e];have a:Hid (Ec Q 197 #[Yp (some ⟨q,0,none⟩),U O 2] V λe w'=>e=Z (U O (x.mems:Int))/\V=w'):=b.o;clear b c e;go_enter func204,ntmps204;(go_wp2_with (go_at_call 197;refine a.o.mono ?_;rintro e d ⟨rfl,rfl⟩));go_ret;exact⟨rfl,rfl⟩
 have f:((x.mems:Int)==0)=false:=by simp;omega
 have e:¬(if(2:Nat)=1 then x.tables else x.mems)=0:=by simpa using c
 rw[if_neg e];have a:Hid (Ec Q 197 #[Yp (some ⟨q,0,none⟩),U O 2] V λe w'=>e=Z (U O (x.mems:Int))/\V=w'):=b.o;clear b c e;go_enter func204,ntmps204;go_wp2_with (go_at_call 197;refine a.o.mono ?_;rintro e d ⟨rfl,rfl⟩)
 go_ret;exact⟨rfl,rfl⟩
theorem ioff_c (q:Nat)(V:J):Ec Q 205 #[Yp (some ⟨q,0,none⟩)] V λe w'=>e=Z (Yp (some ⟨V.heap.size,0,none⟩))/\w'=V.alloc (Fc #[Yp (some ⟨q,0,none⟩),U O 127,S none 0 0] 321):=by
 go_enter func205,ntmps205;go_wp2;go_ret;exact⟨rfl,rfl⟩
