import Derived.Test.YtejkdbnngphgaaaGreatDoorRows
import Derived.Lib.LaidTab
import Derived.LaidMore
import Derived.LaidLaws
import Derived.OpenShut
import Derived.Stop.Joined
import Derived.Test.YtejkdbnngphgaaaGreatDoorGaq
import Derived.Test.YtejkdbnngphgaaaGreatDoorGat
import Derived.Test.YtejkdbnngphgaaaGreatDoorGap
set_option linter.all false
set_option maxHeartbeats 400000000
set_option maxRecDepth 100000
namespace Go.Proofs
open Value renaming int->U,slice->S,bool->G,pointer->Yp,string->Xs,agg->Ag
open IntKind renaming i64->O,u64->Ou
open Ending renaming returned->Z
open Obj renaming cells->Fc
open Go renaming World->J,Calls->Ec,Value->Vu,Addr->Ad
open Go.RowKit renaming Below->Bw
open Tryz renaming prog->Q
open Tryz
open Nat renaming zero_le->Hw,mod_eq_of_lt->Mc,add_zero->Hc,zero_add->Kk
open Calls renaming regrown_of->Mn
open Exit renaming normal->Bh
open IntKind renaming wrap_u8->Td
open Value renaming oneCell'->Hq
open List renaming getD_cons_zero->Tg,length_cons->Kj,length->N
namespace YtejkdbnngphgaaaGreatDoor
open Go.ChangeShapes Go.WideShapes Go.ChangeAt Go.WideMaps Go.WideElems Go.RowKit
variable {W:J}{ps:List MemPlace}{P:Program}
theorem of_vars {a:String}{k:IntKind}{m:List Int}{rest:List (String × DataW Unit)}{g:Nat}{t e:TypeId}{n:Nat} (hg:P.globalNamed a=some g) (c:(P.globals[g]?).map (·.type)=some t) (ht:P.underlying t=some (.array n e)) (s:P.underlying e=some (.int k)) (l:P.cellsOf e=1) (j:P.cellsOf t=n) (h:DataW.LaidVars P W ((a,Lib.tabData k m)::rest) ps):Lib.TabIs P W a k m/\∃q,DataW.LaidVars P W rest q:=by
 obtain⟨y,v,z,o,p,q,f,d,b,u,r,_⟩:=h;obtain rfl:=Option.some.inj (hg.symm.trans f);obtain rfl:=Option.some.inj (c.symm.trans d);refine⟨?_,q,r⟩;unfold Lib.TabIs;rw[b,<- Lib.cells_of_tab ht s l j u]
theorem of_err {a nm:String}{d:DataW Unit}{rest:List (String × DataW Unit)}{g:Nat}{t:TypeId}{m:Array (String × TypeId)} (hg:P.globalNamed a=some g) (c:(P.globals[g]?).map (·.type)=some t) (ht:P.underlying t=some (.interface m)) (h:DataW.LaidVars P W ((a,.iface nm d)::rest) ps):(∃ev,W.cell? ⟨g,0,none⟩=some ev/\Yz.IsErr ev)/\∃q,DataW.LaidVars P W rest q:=by
 obtain⟨y,s,r,l,p,q,j,f,b,o,n,_⟩:=h;obtain rfl:=Option.some.inj (hg.symm.trans j);obtain rfl:=Option.some.inj (c.symm.trans f);refine⟨?_,q,n⟩;obtain⟨_,u,v,k,_,_⟩:=iface_of_trod ht o;refine⟨.iface u v,?_,.inr ⟨u,v,rfl⟩⟩;rw[World.var?_cell hg b 0];have:r=#[.iface u v]:=by apply Array.ext';exact k
 rw[this];rfl
theorem of_skip {x:String × DataW Unit}{rest:List (String × DataW Unit)}(h:DataW.LaidVars P W (x::rest) ps):∃q,DataW.LaidVars P W rest q:=by
 obtain⟨a,d⟩:=x;obtain⟨m,k,n,c,p,q,j,f,b,l,g,_⟩:=h;exact⟨q,g⟩
def z32:List Int:=[0,1,28,2,29,14,24,3,30,22,20,15,25,17,4,8,31,27,13,23,21,19,16,7,26,12,18,6,11,5,10,9]
def z64:List Int:=[0,1,56,2,57,49,28,3,61,58,42,50,38,29,17,4,62,47,59,36,45,43,51,22,53,39,33,30,24,18,12,5,63,55,48,27,60,41,37,16,46,35,44,21,52,32,23,11,54,26,40,15,34,20,31,10,25,14,19,9,13,8,7,6]
theorem d32:(Rows.laid_math_bits_deBruijn32tab:DataW Unit)=Lib.tabData .u8 z32:=rfl
theorem d64:(Rows.laid_math_bits_deBruijn64tab:DataW Unit)=Lib.tabData .u8 z64:=rfl
theorem d10:(Rows.laid_internal_strconv_uint64pow10:DataW Unit)=Lib.tabData Ou Lib.pow10Tab:=by kernel_rfl
abbrev lds:List (String × DataW Unit):=[("math/bits.deBruijn32tab",Rows.laid_math_bits_deBruijn32tab),("math/bits.deBruijn64tab",Rows.laid_math_bits_deBruijn64tab),("internal/strconv.uint64pow10",Rows.laid_internal_strconv_uint64pow10),("unicode/utf8.acceptRanges",Rows.laid_unicode_utf8_acceptRanges),("strconv.ErrRange",Rows.laid_strconv_ErrRange),("strconv.ErrSyntax",Rows.laid_strconv_ErrSyntax),("unicode/utf8.first",Rows.laid_unicode_utf8_first)]
theorem of_laid (h:laidMetH Q lds W):Yz.Vs W.heap.size W:=by
 rw[MakeChecks.laidMetH_plain _ _ _ (by kernel_rfl)]at h;obtain⟨ps,k,_,_⟩:=h;rw[show lds=[("math/bits.deBruijn32tab",Lib.tabData .u8 z32),("math/bits.deBruijn64tab",Lib.tabData .u8 z64),("internal/strconv.uint64pow10",Lib.tabData Ou Lib.pow10Tab),("unicode/utf8.acceptRanges",Rows.laid_unicode_utf8_acceptRanges),("strconv.ErrRange",Rows.laid_strconv_ErrRange),("strconv.ErrSyntax",Rows.laid_strconv_ErrSyntax),("unicode/utf8.first",Rows.laid_unicode_utf8_first)] by unfold lds;rw[d32,d64,d10]]at k;obtain⟨_,y,o⟩:=of_vars (g:=6) (t:=317) (e:=5) (n:=32) (by kernel_rfl) (by kernel_rfl) (by kernel_rfl) (by kernel_rfl) (by kernel_rfl) (by kernel_rfl) k;obtain⟨b,v,m⟩:=of_vars (g:=7) (t:=318) (e:=5) (n:=64) (by kernel_rfl) (by kernel_rfl) (by kernel_rfl) (by kernel_rfl) (by kernel_rfl) (by kernel_rfl) o;obtain⟨d,u,a⟩:=of_vars (g:=5) (t:=309) (e:=68) (n:=20) (by kernel_rfl) (by kernel_rfl) (by kernel_rfl) (by kernel_rfl) (by kernel_rfl) (by kernel_rfl) m;obtain⟨l,a⟩:=of_skip a;unfold Rows.laid_strconv_ErrRange at a;obtain⟨p,s,j⟩:=of_err (g:=2) (t:=228) (by kernel_rfl) (by kernel_rfl) underlying228 a;unfold Rows.laid_strconv_ErrSyntax at j;obtain⟨q,r,z⟩:=of_err (g:=1) (t:=228) (by kernel_rfl) (by kernel_rfl) underlying228 j;have c:=b.cell (g:=7) (by kernel_rfl) 15 (by decide);have f:7<W.heap.size:=World.block_lt_of_cell? W _ c;exact⟨c,Lib.tabBelow_of_tabIs d,q,p,f⟩
open Go.RowKit
end YtejkdbnngphgaaaGreatDoor
namespace YtejkdbnngphgaaaGreatDoor.By
open Go.RowKit
def Has (w:J)(a:Option Ad)(xs:List Int):Prop:=xs=[]\/∃b off,a=some ⟨b,off,none⟩/\∀i,i<N xs->w.cell? ⟨b,off+i,none⟩=some (U .u8 (xs.getD i 0))
def marks (k n:Nat):List Int:=(List.range n).map λi=>((k+i:Nat):Int)%256
end YtejkdbnngphgaaaGreatDoor.By
namespace YtejkdbnngphgaaaGreatDoor
open Go.RowKit Go.Sort
theorem eqB_any (a b)(ca p:Nat)(c:List Int)(w)(hl:N c<=1099511627776)(ha:HI .u8 0 w a c)(j:HI .u8 0 w b c):Ec Q 8 #[S a (N c) ca,S b (N c) p] w λe w'=>e=Z (G true)/\∃n,w'=w.drewN n:=by
 by_cases hx:c=[]
 . subst hx;clear ha j hl;go_enter func8,ntmps8;go_wp2;refine wp_loop_rounds 1 ?_;rw[rounds_succ];go_wp2;go_ret;exact⟨rfl,0,rfl⟩
 have g:0<N c:=List.length_pos_iff.2 hx;rcases ha with h|⟨b1,o1,rfl,_,f⟩
 . exact absurd h hx
 rcases j with h|⟨s,o2,rfl,_,o⟩
 . exact absurd h hx
 clear hx;go_enter func8,ntmps8;go_wp2;go_loopw [5] (λi wr=>∃k:Nat,k<=N c/\i=U O k/\∃m,wr=w.drewN m) (λi _=>N c-(intOf i).toNat)
 case atStart=>exact⟨0,Hw _,rfl,0,rfl⟩
 obtain⟨k,q,rfl,m,rfl⟩:=hrel;by_cases d:k<N c
 . have r:(w.drewN m).cell? ⟨b1,o1+k,none⟩=some (U .u8 (c.getD k 0)):=f k d;(have l:(k:Int)<(N c:Int):=by omega);go_wp2;(go_quiet (fail));go_wp2;(go_roundw);(case rel=>exact⟨k+1,by omega,by go_num,_,rfl⟩);case measure=>simp[intOf];omega
 go_wp2;go_ret;exact⟨rfl,m,rfl⟩
theorem two (w:J)(b z:List Vu)(t a:TypeId):Bk ((w.alloc (Fc b.toArray t)).alloc (Fc z.toArray a)) w.heap.size b/\Bk ((w.alloc (Fc b.toArray t)).alloc (Fc z.toArray a)) (w.heap.size+1) z/\Bw w.heap.size w ((w.alloc (Fc b.toArray t)).alloc (Fc z.toArray a)):=by
 refine⟨Bk.new.past,?_,(bFz.alloc lRz _).alloc (by simp) _⟩;have:=(Bk.new (w:=w.alloc (Fc b.toArray t)) (cs:=z) (t:=a));simpa using this
theorem reLimits_c (x:Qp)(w:J)(q:Qp.Is 0 w x)(f:Qp.Is 0 w x)(hl:Qp.LB 1048576 x):Ec Q 123 #[Ag #[U O x.min,U O x.max,G x.has],Ag #[U O x.min,U O x.max,G x.has]] w λe w'=>e=Z (G true)/\Bw w.heap.size w w':=by
 have d:Hid (Bk ((w.alloc (Fc #[U O x.min,U O x.max,G x.has] 120)).alloc (Fc #[U O x.min,U O x.max,G x.has] 120)) w.heap.size [U O x.min,U O x.max,G x.has]/\Bk ((w.alloc (Fc #[U O x.min,U O x.max,G x.has] 120)).alloc (Fc #[U O x.min,U O x.max,G x.has] 120)) (w.heap.size+1) [U O x.min,U O x.max,G x.has]/\Bw w.heap.size w ((w.alloc (Fc #[U O x.min,U O x.max,G x.has] 120)).alloc (Fc #[U O x.min,U O x.max,G x.has] 120))):=two w [U O x.min,U O x.max,G x.has] [U O x.min,U O x.max,G x.has] 120 120;go_enter func123,ntmps123;go_upto_region 1 with fail
 refine Qh (λW=>Bk W w.heap.size [U O x.min,U O x.max,G x.has]/\Bk W (w.heap.size+1) [U O x.min,U O x.max,G x.has]/\Bw w.heap.size w W) d.o ?_;rintro W ⟨b,a,c⟩;clear d;have l:=b.2.1 0 _ rfl;have p:=a.2.1 0 _ rfl;have k:=b.2.1 1 _ rfl;have n:=a.2.1 1 _ rfl;have j:=b.2.1 2 _ rfl;have m:=a.2.1 2 _ rfl;have g:=Hm c;clear c b a;go_wp2;go_ret;exact⟨rfl,g.o⟩
theorem reGType_c (x:Q8)(w:J)(n:Q8.Is 0 w x)(f:Q8.Is 0 w x)(hl:Q8.LB 1048576 x):Ec Q 180 #[Ag #[U O x.ty,G x.mu],Ag #[U O x.ty,G x.mu]] w λe w'=>e=Z (G true)/\Bw w.heap.size w w':=by
 have d:Hid (Bk ((w.alloc (Fc #[U O x.ty,G x.mu] 74)).alloc (Fc #[U O x.ty,G x.mu] 74)) w.heap.size [U O x.ty,G x.mu]/\Bk ((w.alloc (Fc #[U O x.ty,G x.mu] 74)).alloc (Fc #[U O x.ty,G x.mu] 74)) (w.heap.size+1) [U O x.ty,G x.mu]/\Bw w.heap.size w ((w.alloc (Fc #[U O x.ty,G x.mu] 74)).alloc (Fc #[U O x.ty,G x.mu] 74))):=two w [U O x.ty,G x.mu] [U O x.ty,G x.mu] 74 74;go_enter func180,ntmps180;go_upto_region 1 with fail
 refine Qh (λW=>Bk W w.heap.size [U O x.ty,G x.mu]/\Bk W (w.heap.size+1) [U O x.ty,G x.mu]/\Bw w.heap.size w W) d.o ?_;rintro W ⟨b,a,c⟩;clear d;have k:=b.2.1 0 _ rfl;have m:=a.2.1 0 _ rfl;have j:=b.2.1 1 _ rfl;have l:=a.2.1 1 _ rfl;have g:=Hm c;clear c b a;go_wp2;go_ret;exact⟨rfl,g.o⟩
theorem reGrp_c (x:Grp)(w:J)(p:Grp.Is 0 w x)(f:Grp.Is 0 w x)(hl:Grp.LB 1048576 x):Ec Q 221 #[Ag #[U O x.n,U O x.ty],Ag #[U O x.n,U O x.ty]] w λe w'=>e=Z (G true)/\Bw w.heap.size w w':=by
 have d:Hid (Bk ((w.alloc (Fc #[U O x.n,U O x.ty] 206)).alloc (Fc #[U O x.n,U O x.ty] 206)) w.heap.size [U O x.n,U O x.ty]/\Bk ((w.alloc (Fc #[U O x.n,U O x.ty] 206)).alloc (Fc #[U O x.n,U O x.ty] 206)) (w.heap.size+1) [U O x.n,U O x.ty]/\Bw w.heap.size w ((w.alloc (Fc #[U O x.n,U O x.ty] 206)).alloc (Fc #[U O x.n,U O x.ty] 206))):=two w [U O x.n,U O x.ty] [U O x.n,U O x.ty] 206 206;go_enter func221,ntmps221;go_upto_region 1 with fail
 refine Qh (λW=>Bk W w.heap.size [U O x.n,U O x.ty]/\Bk W (w.heap.size+1) [U O x.n,U O x.ty]/\Bw w.heap.size w W) d.o ?_;rintro W ⟨b,a,c⟩;clear d;have k:=b.2.1 0 _ rfl;have m:=a.2.1 0 _ rfl;have j:=b.2.1 1 _ rfl;have l:=a.2.1 1 _ rfl;have g:=Hm c;clear c b a;go_wp2;go_ret;exact⟨rfl,g.o⟩
theorem reIn_c (x:In)(k:Option Ad)(c1:Nat)(c:Option Ad)(d:Nat)(w:J)(u:In.Is 0 w x k)(q:In.Is 0 w x c)(hl:In.LB 1048576 x):Ec Q 220 #[Ag #[U O x.op,U O x.a,U O x.b,U Ou x.v,S k (N x.l) c1],Ag #[U O x.op,U O x.a,U O x.b,U Ou x.v,S c (N x.l) d]] w λe w'=>e=Z (G true)/\Bw w.heap.size w w':=by
 have Y:N x.l<=1048576:=hl;have t:=u;clear u;have V:=Hm t;clear t;have n:=q;clear q;have s:=Hm n;clear n;have y:Hid (Bk ((w.alloc (Fc #[U O x.op,U O x.a,U O x.b,U Ou x.v,S k (N x.l) c1] 70)).alloc (Fc #[U O x.op,U O x.a,U O x.b,U Ou x.v,S c (N x.l) d] 70)) w.heap.size [U O x.op,U O x.a,U O x.b,U Ou x.v,S k (N x.l) c1]/\Bk ((w.alloc (Fc #[U O x.op,U O x.a,U O x.b,U Ou x.v,S k (N x.l) c1] 70)).alloc (Fc #[U O x.op,U O x.a,U O x.b,U Ou x.v,S c (N x.l) d] 70)) (w.heap.size+1) [U O x.op,U O x.a,U O x.b,U Ou x.v,S c (N x.l) d]/\Bw w.heap.size w ((w.alloc (Fc #[U O x.op,U O x.a,U O x.b,U Ou x.v,S k (N x.l) c1] 70)).alloc (Fc #[U O x.op,U O x.a,U O x.b,U Ou x.v,S c (N x.l) d] 70))):=two w [U O x.op,U O x.a,U O x.b,U Ou x.v,S k (N x.l) c1] [U O x.op,U O x.a,U O x.b,U Ou x.v,S c (N x.l) d] 70 70;go_enter func220,ntmps220;go_upto_region 1 with fail
 refine Qh (λW=>Bk W w.heap.size [U O x.op,U O x.a,U O x.b,U Ou x.v,S k (N x.l) c1]/\Bk W (w.heap.size+1) [U O x.op,U O x.a,U O x.b,U Ou x.v,S c (N x.l) d]/\Bw w.heap.size w W) y.o ?_;rintro W ⟨g,f,m⟩;clear y;have D:=g.2.1 0 _ rfl;have L:=f.2.1 0 _ rfl;have C:=g.2.1 1 _ rfl;have I:=f.2.1 1 _ rfl;have B:=g.2.1 2 _ rfl;have H:=f.2.1 2 _ rfl;have A:=g.2.1 3 _ rfl;have F:=f.2.1 3 _ rfl;have z:=g.2.1 4 _ rfl;have E:=f.2.1 4 _ rfl;have r:=Hm (eq_any k c c1 d x.l W (by omega) (V.o.up (Qc m)).has (s.o.up (Qc m)).has);go_wp2_with fail
 refine r.o.mono ?_;rintro e R ⟨rfl,M,p⟩;have j:Bw W.heap.size W R:=by rw[p];exact Jw bFz _
 clear p;have g:=g.keep j;have f:=f.keep j;have m:=m.trans (j.mono m.size);clear r j;have D:=g.2.1 0 _ rfl;have L:=f.2.1 0 _ rfl;have C:=g.2.1 1 _ rfl;have I:=f.2.1 1 _ rfl;have B:=g.2.1 2 _ rfl;have H:=f.2.1 2 _ rfl;have A:=g.2.1 3 _ rfl;have F:=f.2.1 3 _ rfl;have z:=g.2.1 4 _ rfl;have E:=f.2.1 4 _ rfl;have X:=Hm m;clear m g f;go_wp2;go_ret;exact⟨rfl,X.o⟩
theorem reIns_c (a a':Option Ad)(c c':Nat)(f:List In)(w:J)(hl:N f<=1048576/\∀i,i<N f->In.LB 1048576 (f.getD i I0))(h:In.Ls 0 w a f)(h':In.Ls 0 w a' f):Ec Q 181 #[S a (N f) c,S a' (N f) c'] w λe w'=>e=Z (G true)/\Bw w.heap.size w w':=by
 obtain⟨hn,hl⟩:=hl;have H1:=Hm h;have H2:=Hm h';have H3:=Hm hl;clear h h' hl;go_enter func181,ntmps181;go_wp2;go_loopw [5] (λi wr=>∃k:Nat,k<=N f/\i=U O k/\Bw w.heap.size w wr) (λi _=>N f-(intOf i).toNat)
 case atStart=>exact⟨0,Hw _,rfl,bFz⟩
 obtain⟨k,hk,rfl,r⟩:=hrel;by_cases g:k<N f
 . (have ay:(k:Int)<(N f:Int):=by omega);rcases H1.o.up (Qc r)with hx|⟨b,o,ea,_,hc⟩
   . subst hx;simp at g
   rcases H2.o.up (Qc r)with hx|⟨b',o',M,_,q⟩
   . subst hx;simp at g
   have g1:=hc k g;have g2:=q k g;have hl:=H3.o k g;subst ea M;generalize f.getD k I0=x at g1 g2 hl;obtain⟨a1,c1,⟨q0,Y,X,V,R⟩,hi⟩:=g1;obtain⟨t,s,⟨p0,p1,p2,p3,p4⟩,n⟩:=g2;have B:=cell_regrown q0;have H:=cell_regrown p0;have A:=cell_regrown Y;have F:=cell_regrown p1;have z:=cell_regrown X;have E:=cell_regrown p2;have y:=cell_regrown V;have D:=cell_regrown p3;have u:=cell_regrown R;have C:=cell_regrown p4;have cE:∀d os,Ec Q 220 #[Ag #[U O x.op,U O x.a,U O x.b,U Ou x.v,S a1 (N x.l) c1],Ag #[U O x.op,U O x.a,U O x.b,U Ou x.v,S t (N x.l) s]] (grow (redrawn wr d) os) λe w''=>e=Z (G true)/\∃p:Regrown,w''=grow (redrawn wr p.d) p.os:=λd os=>Mn (reIn_c x a1 c1 t s _ (hi.up (Qc (below_regrown wr d os))) (n.up (Qc (below_regrown wr d os))) hl);have HB:=Hm r;have HE:=Hm cE;clear r hc q hi n hl H1 H2 H3 cE q0 p0 Y p1 X p2 V p3 R p4;go_wp2;refine wp_region_quiet_below (by kernel_rfl) (by kernel_rfl) ?_;(repeat (quiet_step (exact HE.o _ _)));refine wpQuiet_nil ?_;intro _ L;obtain⟨⟨dq,j⟩,m⟩:=L;subst m;have I:=HB.o.trans ((below_regrown wr dq j).mono HB.o.size);clear B H A F z E y D u C;generalize grow (redrawn wr dq) j=w5 at *;show Exit.then _ _ Bh _ w5;go_wp2;(go_roundw);(case rel=>exact⟨k+1,by omega,by go_num,I⟩);case measure=>simp[intOf];omega
 go_wp2;go_ret;exact⟨rfl,r⟩
theorem reLA:(∀(a v:Option Ad) (c M:Nat) (g:List Qp) (w:J) (hl:N g<=1048576/\∀i,i<N g->Qp.LB 1048576 (g.getD i Qp.z)) (h:Qp.Ls 0 w a g) (H:Qp.Ls 0 w v g),Ec Q 39 #[S a (N g) c,S v (N g) M] w λe w'=>e=Z (G true)/\Bw w.heap.size w w')/\(∀(a v:Option Ad) (c M:Nat) (g:List Grp) (w:J) (hl:N g<=1048576/\∀i,i<N g->Grp.LB 1048576 (g.getD i Grp.z)) (h:Grp.Ls 0 w a g) (H:Grp.Ls 0 w v g),Ec Q 182 #[S a (N g) c,S v (N g) M] w λe w'=>e=Z (G true)/\Bw w.heap.size w w'):=by
 refine⟨?c0,?c1⟩;case' c0=>have f:=0
 case' c1=>have ai:=0
 all_goals
  intro a v c M g w hl h H
  obtain⟨hn,hl⟩:=hl;have H1:=Hm h;have H2:=Hm H;have H3:=Hm hl;clear h H hl
  first|(replace f:=f;go_enter func39,ntmps39)|(go_enter func182,ntmps182)
  go_wp2
  go_loopw [5] (λi wr=>∃k:Nat,k<=N g/\i=U O k/\Bw w.heap.size w wr) (λi _=>N g-(intOf i).toNat)
  case atStart=>exact⟨0,Hw _,rfl,bFz⟩
  case round =>
   obtain⟨k,hk,rfl,u⟩:=hrel
   by_cases j:k<N g
   . have aj:(k:Int)<(N g:Int):=by omega
     rcases H1.o.up (Qc u)with hx|⟨b,o,ea,_,hc⟩
     . subst hx;simp at j
     rcases H2.o.up (Qc u)with hx|⟨b',o',aa,_,t⟩
     . subst hx;simp at j
     have g1:=hc k j;have I:=t k j;have hl:=H3.o k j;subst ea aa
     first|(replace f:=f;generalize g.getD k Qp.z=x at g1 I hl)|(generalize g.getD k Grp.z=x at g1 I hl)
     first|(replace f:=f;obtain⟨⟨A,y,q2⟩,F⟩:=g1)|(obtain⟨⟨A,y⟩,F⟩:=g1)
     first|(replace f:=f;obtain⟨⟨C,B,p2⟩,l⟩:=I)|(obtain⟨⟨C,B⟩,l⟩:=I)
     first
     | (
      replace f:=f;have q:=cell_regrown A)
     |skip
     first
     | (
      replace f:=f;have s:=cell_regrown C)
     |skip
     first|(replace f:=f;have m:=cell_regrown y)|(have q:=cell_regrown A)
     first|(replace f:=f;have r:=cell_regrown B)|(have s:=cell_regrown C)
     first|(replace f:=f;have R:=cell_regrown q2)|(have m:=cell_regrown y)
     first|(replace f:=f;have V:=cell_regrown p2)|(have r:=cell_regrown B)
     first|(replace f:=f;have L:∀d os,Ec Q 123 #[Ag #[U O x.min,U O x.max,G x.has],Ag #[U O x.min,U O x.max,G x.has]] (grow (redrawn wr d) os) λe w''=>e=Z (G true)/\∃p:Regrown,w''=grow (redrawn wr p.d) p.os:=λd os=>Mn (reLimits_c x _ (F.up (Qc (below_regrown wr d os))) (l.up (Qc (below_regrown wr d os))) hl))|(have L:∀d os,Ec Q 221 #[Ag #[U O x.n,U O x.ty],Ag #[U O x.n,U O x.ty]] (grow (redrawn wr d) os) λe w''=>e=Z (G true)/\∃p:Regrown,w''=grow (redrawn wr p.d) p.os:=λd os=>Mn (reGrp_c x _ (F.up (Qc (below_regrown wr d os))) (l.up (Qc (below_regrown wr d os))) hl))
     have HB:=Hm u;have HE:=Hm L
     first|(replace f:=f;clear u hc t F l hl H1 H2 H3 L A C y B q2 p2)|(clear u hc t F l hl H1 H2 H3 L A C y B)
     go_wp2
     refine wp_region_quiet_below (by kernel_rfl) (by kernel_rfl) ?_
     repeat (quiet_step (exact HE.o _ _))
     refine wpQuiet_nil ?_
     intro _ Y
     obtain⟨⟨dq,D⟩,E⟩:=Y;subst E;have X:=HB.o.trans ((below_regrown wr dq D).mono HB.o.size)
     first|(replace f:=f;clear q s m r R V)|(clear q s m r)
     generalize grow (redrawn wr dq) D=w5 at *
     show Exit.then _ _ Bh _ w5
     go_wp2
     go_roundw
     case rel=>exact⟨k+1,by omega,by go_num,X⟩
     case measure=>simp[intOf];omega
   . go_wp2
     go_ret
     exact⟨rfl,u⟩
def reLimitss_c:=reLA.1
def reGrps_c:=reLA.2
theorem reFType_c (x:QE)(n:Option Ad)(c1:Nat)(m:Option Ad)(c2:Nat)(b:Option Ad)(d:Nat)(a:Option Ad)(c:Nat)(w:J)(R:QE.Is 0 w x n m)(y:QE.Is 0 w x b a)(hl:QE.LB 1048576 x):Ec Q 121 #[Ag #[S n (N x.ps) c1,S m (N x.rs) c2],Ag #[S b (N x.ps) d,S a (N x.rs) c]] w λe w'=>e=Z (G true)/\Bw w.heap.size w w':=by
 obtain⟨l0,l1⟩:=hl;obtain⟨C,B⟩:=R;have Y:=Hm C;have X:=Hm B;clear C B;obtain⟨q,p⟩:=y;have A:=Hm q;have z:=Hm p;clear q p;have I:Hid (Bk ((w.alloc (Fc #[S n (N x.ps) c1,S m (N x.rs) c2] 137)).alloc (Fc #[S b (N x.ps) d,S a (N x.rs) c] 137)) w.heap.size [S n (N x.ps) c1,S m (N x.rs) c2]/\Bk ((w.alloc (Fc #[S n (N x.ps) c1,S m (N x.rs) c2] 137)).alloc (Fc #[S b (N x.ps) d,S a (N x.rs) c] 137)) (w.heap.size+1) [S b (N x.ps) d,S a (N x.rs) c]/\Bw w.heap.size w ((w.alloc (Fc #[S n (N x.ps) c1,S m (N x.rs) c2] 137)).alloc (Fc #[S b (N x.ps) d,S a (N x.rs) c] 137))):=two w [S n (N x.ps) c1,S m (N x.rs) c2] [S b (N x.ps) d,S a (N x.rs) c] 137 137;go_enter func121,ntmps121;go_upto_region 1 with fail
 refine Qh (λW=>Bk W w.heap.size [S n (N x.ps) c1,S m (N x.rs) c2]/\Bk W (w.heap.size+1) [S b (N x.ps) d,S a (N x.rs) c]/\Bw w.heap.size w W) I.o ?_;rintro W ⟨j,g,f⟩;clear I;have E:=j.2.1 0 _ rfl;have H:=g.2.1 0 _ rfl;have D:=j.2.1 1 _ rfl;have F:=g.2.1 1 _ rfl;have u:=Hm (eq_any n b c1 d x.ps W (by omega) (Y.o.up (Qc f)).has (A.o.up (Qc f)).has);go_wp2_with fail
 refine u.o.mono ?_;rintro e v ⟨rfl,M,s⟩;have l:Bw W.heap.size W v:=by rw[s];exact Jw bFz _
 clear s;have j:=j.keep l;have g:=g.keep l;have f:=f.trans (l.mono f.size);clear u l;have E:=j.2.1 0 _ rfl;have H:=g.2.1 0 _ rfl;have D:=j.2.1 1 _ rfl;have F:=g.2.1 1 _ rfl;have t:=Hm (eq_any m a c2 c x.rs v (by omega) (X.o.up (Qc f)).has (z.o.up (Qc f)).has);go_wp2_with fail
 refine t.o.mono ?_;rintro e V ⟨rfl,L,r⟩;have k:Bw v.heap.size v V:=by rw[r];exact Jw bFz _
 clear r;have j:=j.keep k;have g:=g.keep k;have f:=f.trans (k.mono f.size);clear t k;have E:=j.2.1 0 _ rfl;have H:=g.2.1 0 _ rfl;have D:=j.2.1 1 _ rfl;have F:=g.2.1 1 _ rfl;have HB:=Hm f;clear f j g;go_wp2;go_ret;exact⟨rfl,HB.o⟩
theorem reImp_c (x:Imp)(w:J)(R:Imp.Is 0 w x)(H:Imp.Is 0 w x)(hl:Imp.LB 1048576 x):Ec Q 122 #[Ag #[Xs x.mod,Xs x.nm,U O x.kind,U O x.ty,U O x.lim.min,U O x.lim.max,G x.lim.has,U O x.gl.ty,G x.gl.mu],Ag #[Xs x.mod,Xs x.nm,U O x.kind,U O x.ty,U O x.lim.min,U O x.lim.max,G x.lim.has,U O x.gl.ty,G x.gl.mu]] w λe w'=>e=Z (G true)/\Bw w.heap.size w w':=by
 obtain⟨M,l1⟩:=hl;have F:Hid (Bk ((w.alloc (Fc #[Xs x.mod,Xs x.nm,U O x.kind,U O x.ty,U O x.lim.min,U O x.lim.max,G x.lim.has,U O x.gl.ty,G x.gl.mu] 143)).alloc (Fc #[Xs x.mod,Xs x.nm,U O x.kind,U O x.ty,U O x.lim.min,U O x.lim.max,G x.lim.has,U O x.gl.ty,G x.gl.mu] 143)) w.heap.size [Xs x.mod,Xs x.nm,U O x.kind,U O x.ty,U O x.lim.min,U O x.lim.max,G x.lim.has,U O x.gl.ty,G x.gl.mu]/\Bk ((w.alloc (Fc #[Xs x.mod,Xs x.nm,U O x.kind,U O x.ty,U O x.lim.min,U O x.lim.max,G x.lim.has,U O x.gl.ty,G x.gl.mu] 143)).alloc (Fc #[Xs x.mod,Xs x.nm,U O x.kind,U O x.ty,U O x.lim.min,U O x.lim.max,G x.lim.has,U O x.gl.ty,G x.gl.mu] 143)) (w.heap.size+1) [Xs x.mod,Xs x.nm,U O x.kind,U O x.ty,U O x.lim.min,U O x.lim.max,G x.lim.has,U O x.gl.ty,G x.gl.mu]/\Bw w.heap.size w ((w.alloc (Fc #[Xs x.mod,Xs x.nm,U O x.kind,U O x.ty,U O x.lim.min,U O x.lim.max,G x.lim.has,U O x.gl.ty,G x.gl.mu] 143)).alloc (Fc #[Xs x.mod,Xs x.nm,U O x.kind,U O x.ty,U O x.lim.min,U O x.lim.max,G x.lim.has,U O x.gl.ty,G x.gl.mu] 143))):=two w [Xs x.mod,Xs x.nm,U O x.kind,U O x.ty,U O x.lim.min,U O x.lim.max,G x.lim.has,U O x.gl.ty,G x.gl.mu] [Xs x.mod,Xs x.nm,U O x.kind,U O x.ty,U O x.lim.min,U O x.lim.max,G x.lim.has,U O x.gl.ty,G x.gl.mu] 143 143;go_enter func122,ntmps122;go_upto_region 1 with fail
 refine Qh (λW=>Bk W w.heap.size [Xs x.mod,Xs x.nm,U O x.kind,U O x.ty,U O x.lim.min,U O x.lim.max,G x.lim.has,U O x.gl.ty,G x.gl.mu]/\Bk W (w.heap.size+1) [Xs x.mod,Xs x.nm,U O x.kind,U O x.ty,U O x.lim.min,U O x.lim.max,G x.lim.has,U O x.gl.ty,G x.gl.mu]/\Bw w.heap.size w W) F.o ?_;rintro W ⟨b,a,f⟩;clear F;have t:=b.2.1 0 _ rfl;have E:=a.2.1 0 _ rfl;have s:=b.2.1 1 _ rfl;have D:=a.2.1 1 _ rfl;have r:=b.2.1 2 _ rfl;have C:=a.2.1 2 _ rfl;have q:=b.2.1 3 _ rfl;have B:=a.2.1 3 _ rfl;have p:=b.2.1 4 _ rfl;have A:=a.2.1 4 _ rfl;have n:=b.2.1 5 _ rfl;have z:=a.2.1 5 _ rfl;have m:=b.2.1 6 _ rfl;have y:=a.2.1 6 _ rfl;have l:=b.2.1 7 _ rfl;have v:=a.2.1 7 _ rfl;have k:=b.2.1 8 _ rfl;have u:=a.2.1 8 _ rfl;have j:=Hm (reLimits_c x.lim W trivial trivial trivial);go_wp2_with fail
 refine j.o.mono ?_;rintro e I ⟨rfl,d⟩;have b:=b.keep d;have a:=a.keep d;have f:=f.trans (d.mono f.size);clear j d;have t:=b.2.1 0 _ rfl;have E:=a.2.1 0 _ rfl;have s:=b.2.1 1 _ rfl;have D:=a.2.1 1 _ rfl;have r:=b.2.1 2 _ rfl;have C:=a.2.1 2 _ rfl;have q:=b.2.1 3 _ rfl;have B:=a.2.1 3 _ rfl;have p:=b.2.1 4 _ rfl;have A:=a.2.1 4 _ rfl;have n:=b.2.1 5 _ rfl;have z:=a.2.1 5 _ rfl;have m:=b.2.1 6 _ rfl;have y:=a.2.1 6 _ rfl;have l:=b.2.1 7 _ rfl;have v:=a.2.1 7 _ rfl;have k:=b.2.1 8 _ rfl;have u:=a.2.1 8 _ rfl;have g:=Hm (reGType_c x.gl I trivial trivial trivial);go_wp2_with fail
 refine g.o.mono ?_;rintro e V ⟨rfl,c⟩;have b:=b.keep c;have a:=a.keep c;have f:=f.trans (c.mono f.size);clear g c;have t:=b.2.1 0 _ rfl;have E:=a.2.1 0 _ rfl;have s:=b.2.1 1 _ rfl;have D:=a.2.1 1 _ rfl;have r:=b.2.1 2 _ rfl;have C:=a.2.1 2 _ rfl;have q:=b.2.1 3 _ rfl;have B:=a.2.1 3 _ rfl;have p:=b.2.1 4 _ rfl;have A:=a.2.1 4 _ rfl;have n:=b.2.1 5 _ rfl;have z:=a.2.1 5 _ rfl;have m:=b.2.1 6 _ rfl;have y:=a.2.1 6 _ rfl;have l:=b.2.1 7 _ rfl;have v:=a.2.1 7 _ rfl;have k:=b.2.1 8 _ rfl;have u:=a.2.1 8 _ rfl;have L:=Hm f;clear f b a;go_wp2;go_ret;exact⟨rfl,L.o⟩
theorem reImps_c (a a':Option Ad)(c c':Nat)(f:List Imp)(w:J)(hl:N f<=1048576/\∀i,i<N f->Imp.LB 1048576 (f.getD i Imp.z))(h:Imp.Ls 0 w a f)(h':Imp.Ls 0 w a' f):Ec Q 37 #[S a (N f) c,S a' (N f) c'] w λe w'=>e=Z (G true)/\Bw w.heap.size w w':=by
 obtain⟨hn,hl⟩:=hl;have H1:=Hm h;have H2:=Hm h';have H3:=Hm hl;clear h h' hl;go_enter func37,ntmps37;go_wp2;go_loopw [5] (λi wr=>∃k:Nat,k<=N f/\i=U O k/\Bw w.heap.size w wr) (λi _=>N f-(intOf i).toNat)
 case atStart=>exact⟨0,Hw _,rfl,bFz⟩
 obtain⟨k,hk,rfl,q⟩:=hrel;by_cases g:k<N f
 . (have a9:(k:Int)<(N f:Int):=by omega);rcases H1.o.up (Qc q)with hx|⟨b,o,ea,_,hc⟩
   . subst hx;simp at g
   rcases H2.o.up (Qc q)with hx|⟨b',o',aa,_,n⟩
   . subst hx;simp at g
   have g1:=hc k g;have g2:=n k g;have hl:=H3.o k g;subst ea aa;generalize f.getD k Imp.z=x at g1 g2 hl;obtain⟨⟨q0,q1,q2,q3,q4,q5,q6,q7,q8⟩,hi⟩:=g1;obtain⟨⟨p0,p1,p2,p3,p4,p5,p6,p7,p8⟩,m⟩:=g2;have C:=cell_regrown q0;have V:=cell_regrown p0;have B:=cell_regrown q1;have R:=cell_regrown p1;have A:=cell_regrown q2;have M:=cell_regrown p2;have y:=cell_regrown q3;have L:=cell_regrown p3;have v:=cell_regrown q4;have I:=cell_regrown p4;have u:=cell_regrown q5;have H:=cell_regrown p5;have t:=cell_regrown q6;have F:=cell_regrown p6;have s:=cell_regrown q7;have E:=cell_regrown p7;have r:=cell_regrown q8;have D:=cell_regrown p8;have cE:∀d os,Ec Q 122 #[Ag #[Xs x.mod,Xs x.nm,U O x.kind,U O x.ty,U O x.lim.min,U O x.lim.max,G x.lim.has,U O x.gl.ty,G x.gl.mu],Ag #[Xs x.mod,Xs x.nm,U O x.kind,U O x.ty,U O x.lim.min,U O x.lim.max,G x.lim.has,U O x.gl.ty,G x.gl.mu]] (grow (redrawn wr d) os) λe w''=>e=Z (G true)/\∃p:Regrown,w''=grow (redrawn wr p.d) p.os:=λd os=>Mn (reImp_c x _ (hi.up (Qc (below_regrown wr d os))) (m.up (Qc (below_regrown wr d os))) hl);have HB:=Hm q;have HE:=Hm cE;clear q hc n hi m hl H1 H2 H3 cE q0 p0 q1 p1 q2 p2 q3 p3 q4 p4 q5 p5 q6 p6 q7 p7 q8 p8;go_wp2;refine wp_region_quiet_below (by kernel_rfl) (by kernel_rfl) ?_;(repeat (quiet_step (exact HE.o _ _)));refine wpQuiet_nil ?_;intro _ Y;obtain⟨⟨dq,j⟩,l⟩:=Y;subst l;have X:=HB.o.trans ((below_regrown wr dq j).mono HB.o.size);clear C V B R A M y L v I u H t F s E r D;generalize grow (redrawn wr dq) j=w5 at *;show Exit.then _ _ Bh _ w5;go_wp2;(go_roundw);(case rel=>exact⟨k+1,by omega,by go_num,X⟩);case measure=>simp[intOf];omega
 go_wp2;go_ret;exact⟨rfl,q⟩
theorem reExp_c (x:Exp)(w:J)(q:Exp.Is 0 w x)(f:Exp.Is 0 w x)(hl:Exp.LB 1048576 x):Ec Q 125 #[Ag #[Xs x.nm,U O x.kind,U O x.ix],Ag #[Xs x.nm,U O x.kind,U O x.ix]] w λe w'=>e=Z (G true)/\Bw w.heap.size w w':=by
 have d:Hid (Bk ((w.alloc (Fc #[Xs x.nm,U O x.kind,U O x.ix] 157)).alloc (Fc #[Xs x.nm,U O x.kind,U O x.ix] 157)) w.heap.size [Xs x.nm,U O x.kind,U O x.ix]/\Bk ((w.alloc (Fc #[Xs x.nm,U O x.kind,U O x.ix] 157)).alloc (Fc #[Xs x.nm,U O x.kind,U O x.ix] 157)) (w.heap.size+1) [Xs x.nm,U O x.kind,U O x.ix]/\Bw w.heap.size w ((w.alloc (Fc #[Xs x.nm,U O x.kind,U O x.ix] 157)).alloc (Fc #[Xs x.nm,U O x.kind,U O x.ix] 157))):=two w [Xs x.nm,U O x.kind,U O x.ix] [Xs x.nm,U O x.kind,U O x.ix] 157 157;go_enter func125,ntmps125;go_upto_region 1 with fail
 refine Qh (λW=>Bk W w.heap.size [Xs x.nm,U O x.kind,U O x.ix]/\Bk W (w.heap.size+1) [Xs x.nm,U O x.kind,U O x.ix]/\Bw w.heap.size w W) d.o ?_;rintro W ⟨b,a,c⟩;clear d;have l:=b.2.1 0 _ rfl;have p:=a.2.1 0 _ rfl;have k:=b.2.1 1 _ rfl;have n:=a.2.1 1 _ rfl;have j:=b.2.1 2 _ rfl;have m:=a.2.1 2 _ rfl;have g:=Hm c;clear c b a;go_wp2;go_ret;exact⟨rfl,g.o⟩
theorem reLB:(∀(a v:Option Ad) (c Y:Nat) (g:List QE) (w:J) (hl:N g<=1048576/\∀i,i<N g->QE.LB 1048576 (g.getD i QE.z)) (h:QE.Ls 0 w a g) (R:QE.Ls 0 w v g),Ec Q 36 #[S a (N g) c,S v (N g) Y] w λe w'=>e=Z (G true)/\Bw w.heap.size w w')/\(∀(a v:Option Ad) (c Y:Nat) (g:List Exp) (w:J) (hl:N g<=1048576/\∀i,i<N g->Exp.LB 1048576 (g.getD i Exp.z)) (h:Exp.Ls 0 w a g) (R:Exp.Ls 0 w v g),Ec Q 41 #[S a (N g) c,S v (N g) Y] w λe w'=>e=Z (G true)/\Bw w.heap.size w w'):=by
 refine⟨?c0,?c1⟩;case' c0=>have f:=0
 case' c1=>have j:=0
 all_goals
  intro a v c Y g w hl h R
  obtain⟨hn,hl⟩:=hl;have H1:=Hm h;have H2:=Hm R;have H3:=Hm hl;clear h R hl
  first|(replace f:=f;go_enter func36,ntmps36)|(go_enter func41,ntmps41)
  go_wp2
  go_loopw [5] (λi wr=>∃k:Nat,k<=N g/\i=U O k/\Bw w.heap.size w wr) (λi _=>N g-(intOf i).toNat)
  case atStart=>exact⟨0,Hw _,rfl,bFz⟩
  case round =>
   obtain⟨k,hk,rfl,u⟩:=hrel
   by_cases l:k<N g
   . have av:(k:Int)<(N g:Int):=by omega
     rcases H1.o.up (Qc u)with hx|⟨b,o,ea,_,hc⟩
     . subst hx;simp at l
     rcases H2.o.up (Qc u)with hx|⟨b',o',ae,_,t⟩
     . subst hx;simp at l
     have g1:=hc k l;have V:=t k l;have hl:=H3.o k l;subst ea ae
     first|(replace f:=f;generalize g.getD k QE.z=x at g1 V hl)|(generalize g.getD k Exp.z=x at g1 V hl)
     first
     | (
      replace f:=f;obtain⟨a1,c1,a2,c2,⟨A,y⟩,F⟩:=g1)
     |skip
     first
     | (
      replace f:=f;obtain⟨M,I,L,H,⟨C,B⟩,m⟩:=V)
     |skip
     first
     | (
      replace j:=j;obtain⟨⟨A,y,q2⟩,F⟩:=g1)
     |skip
     first
     | (
      replace j:=j;obtain⟨⟨C,B,p2⟩,m⟩:=V)
     |skip
     first
     | (
      replace j:=j;have q:=cell_regrown A)
     |skip
     first
     | (
      replace j:=j;have s:=cell_regrown C)
     |skip
     first|(replace f:=f;have q:=cell_regrown A)|(have n:=cell_regrown y)
     first|(replace f:=f;have s:=cell_regrown C)|(have r:=cell_regrown B)
     first|(replace f:=f;have n:=cell_regrown y)|(have aa:=cell_regrown q2)
     first|(replace f:=f;have r:=cell_regrown B)|(have ab:=cell_regrown p2)
     first|(replace f:=f;have X:∀d os,Ec Q 121 #[Ag #[S a1 (N x.ps) c1,S a2 (N x.rs) c2],Ag #[S M (N x.ps) I,S L (N x.rs) H]] (grow (redrawn wr d) os) λe w''=>e=Z (G true)/\∃p:Regrown,w''=grow (redrawn wr p.d) p.os:=λd os=>Mn (reFType_c x a1 c1 a2 c2 M I L H _ (F.up (Qc (below_regrown wr d os))) (m.up (Qc (below_regrown wr d os))) hl))|(have X:∀d os,Ec Q 125 #[Ag #[Xs x.nm,U O x.kind,U O x.ix],Ag #[Xs x.nm,U O x.kind,U O x.ix]] (grow (redrawn wr d) os) λe w''=>e=Z (G true)/\∃p:Regrown,w''=grow (redrawn wr p.d) p.os:=λd os=>Mn (reExp_c x _ (F.up (Qc (below_regrown wr d os))) (m.up (Qc (below_regrown wr d os))) hl))
     have HB:=Hm u;have HE:=Hm X
     first|(replace f:=f;clear u hc t F m hl H1 H2 H3 X A C y B)|(clear u hc t F m hl H1 H2 H3 X A C y B q2 p2)
     go_wp2
     refine wp_region_quiet_below (by kernel_rfl) (by kernel_rfl) ?_
     repeat (quiet_step (exact HE.o _ _))
     refine wpQuiet_nil ?_
     intro _ ad
     obtain⟨⟨dq,D⟩,E⟩:=ad;subst E;have ac:=HB.o.trans ((below_regrown wr dq D).mono HB.o.size)
     first|(replace f:=f;clear q s n r)|(clear q s n r aa ab)
     generalize grow (redrawn wr dq) D=w5 at *
     show Exit.then _ _ Bh _ w5
     go_wp2
     go_roundw
     case rel=>exact⟨k+1,by omega,by go_num,ac⟩
     case measure=>simp[intOf];omega
   . go_wp2
     go_ret
     exact⟨rfl,u⟩
def reFTypes_c:=reLB.1
def reExps_c:=reLB.2
end YtejkdbnngphgaaaGreatDoor
namespace YtejkdbnngphgaaaGreatDoor.Yz
open Go.RowKit Go.Sort
attribute [-go_sem] run_index_string
theorem Xj {B:Nat}{W:J}{T sz n:Nat}{v:Vu}{cs:List Vu}(h:W.ownsRow B T sz v n cs):∃a c,v=S a n c:=Qb.Ok.slice (r:=⟨T,sz,n,v,cs⟩) h
theorem mstr_c (b:Wd)(w:J)(hl:N b<=1048576):Ec Q 140 #[Xs (Sz0 b)] w λe w'=>e=Z (Xs (Sz0 (J4 b)))/\Bw w.heap.size w w':=by
 have aj:(Sz0 b).size=N b:=QJ b;go_enter func140,ntmps140;go_upto_region 3 with fail
 go_loopw [3,4,5] (λvo vi vc wr=>∃k:Nat,k<=N b/\vi=U O (k:Int)/\wr.ownsRow w.heap.size 5 1 vo (JS b k).length (Uz0 (Iy (JS b k)))/\Bw w.heap.size w wr) (λ_ vi _ _=>N b-(intOf vi).toNat)
 case atStart=>refine⟨0,Hw _,rfl,⟨by simp[JS],.inr ⟨w.heap.size,1,#[U .u8 34],rfl,lRz,Array.getElem?_push_size,lRz,by decide,rfl,rfl⟩⟩,bFz.alloc lRz _⟩
 obtain⟨k,hk,rfl,u,hb⟩:=hrel;have HO:=Hm u;have F:=Hm hb;have hn:=preT_len b k;by_cases ab:k<N b
 . (have ak:(k:Int)<(N b:Int):=by omega);have ao:∀w,(Instr.index 9 (Xs (Sz0 b)) (U O (k:Int))).run Q w=.ok (U .u8 ((b.getD k 0).toNat:Int)) w:=λw=>Q4 b k w ab;have HS:=Hm (preT_succ ab);generalize b.getD k 0=c at *;clear u hb;by_cases g1:(c.toNat:Int)<32
   . (have r:plain c=false:=by unfold plain;simp;omega);(have A:(c.toNat:Int) / 16=((c.toNat / 16:Nat):Int):=by omega);obtain⟨n,m⟩:∃x,x=c.toNat / 16:=⟨_,rfl⟩;rw[<- m]at A;have C:=c.toNat_lt;(have V:IntKind.u8.wrap (n:Int)=(n:Int):=by rw[Td];omega);have E:=Hm (JU n wr (by omega));have D:=Hm (JU c.toNat wr (by omega));(have z:Hid (enc c=[92,hx (n%16),hx (c.toNat%16)]):=by show _=_;unfold enc;rw[r,m,Mc (show c.toNat / 16<16 by omega)];rfl);obtain⟨M,q⟩:∃y,y=hx (n%16):=⟨_,rfl⟩;obtain⟨L,p⟩:∃y,y=hx (c.toNat%16):=⟨_,rfl⟩;rw[<- q]at E z;rw[<- p]at D z;clear r m C q p;(go_wp2_with fail);refine E.o.mono ?_;rintro e R ⟨rfl,rfl⟩;(go_wp2_with fail);refine D.o.mono ?_;rintro e R ⟨rfl,rfl⟩;have u:=HO.o;have t:=F.o.size;clear E D;(go_wp2_with (at_builtin;refine wal info5 (u.alloc _) [U .u8 92,U .u8 (M.toNat:Int),U .u8 (L.toNat:Int)] (Qq _ _ _) (by simp[Hq]) ?_;intro Y X a d s f;have g:=Hm (And.intro a d);obtain⟨I,H,rfl⟩:=Xj a;clear a d s f));refine⟨⟨k+1,by omega,(by first|rfl|(congr 1;omega)),?_,(F.o.alloc t _ |>.grown g.o.2 (by simp;omega) (λj hj=>(u.lt j hj).1))⟩,by simp[intOf];omega⟩;rw[HS.o,z.o];simpa using g.o.1
   by_cases g2:(126:Int)<(c.toNat:Int)
   . (have r:plain c=false:=by unfold plain;simp;omega);(have A:(c.toNat:Int) / 16=((c.toNat / 16:Nat):Int):=by omega);obtain⟨n,m⟩:∃x,x=c.toNat / 16:=⟨_,rfl⟩;rw[<- m]at A;have C:=c.toNat_lt;(have V:IntKind.u8.wrap (n:Int)=(n:Int):=by rw[Td];omega);have E:=Hm (JU n wr (by omega));have D:=Hm (JU c.toNat wr (by omega));(have z:Hid (enc c=[92,hx (n%16),hx (c.toNat%16)]):=by show _=_;unfold enc;rw[r,m,Mc (show c.toNat / 16<16 by omega)];rfl);obtain⟨M,q⟩:∃y,y=hx (n%16):=⟨_,rfl⟩;obtain⟨L,p⟩:∃y,y=hx (c.toNat%16):=⟨_,rfl⟩;rw[<- q]at E z;rw[<- p]at D z;clear r m C q p;(go_wp2_with fail);refine E.o.mono ?_;rintro e R ⟨rfl,rfl⟩;(go_wp2_with fail);refine D.o.mono ?_;rintro e R ⟨rfl,rfl⟩;have u:=HO.o;have t:=F.o.size;clear E D;(go_wp2_with (at_builtin;refine wal info5 (u.alloc _) [U .u8 92,U .u8 (M.toNat:Int),U .u8 (L.toNat:Int)] (Qq _ _ _) (by simp[Hq]) ?_;intro Y X a d s f;have g:=Hm (And.intro a d);obtain⟨I,H,rfl⟩:=Xj a;clear a d s f));refine⟨⟨k+1,by omega,(by first|rfl|(congr 1;omega)),?_,(F.o.alloc t _ |>.grown g.o.2 (by simp;omega) (λj hj=>(u.lt j hj).1))⟩,by simp[intOf];omega⟩;rw[HS.o,z.o];simpa using g.o.1
   by_cases g3:(c.toNat:Int)=34
   . (have r:plain c=false:=by unfold plain;simp;omega);(have ac:((c.toNat:Int)==34)=true:=by simp[g3]);clear g3;(have A:(c.toNat:Int) / 16=((c.toNat / 16:Nat):Int):=by omega);obtain⟨n,m⟩:∃x,x=c.toNat / 16:=⟨_,rfl⟩;rw[<- m]at A;have C:=c.toNat_lt;(have V:IntKind.u8.wrap (n:Int)=(n:Int):=by rw[Td];omega);have E:=Hm (JU n wr (by omega));have D:=Hm (JU c.toNat wr (by omega));(have z:Hid (enc c=[92,hx (n%16),hx (c.toNat%16)]):=by show _=_;unfold enc;rw[r,m,Mc (show c.toNat / 16<16 by omega)];rfl);obtain⟨M,q⟩:∃y,y=hx (n%16):=⟨_,rfl⟩;obtain⟨L,p⟩:∃y,y=hx (c.toNat%16):=⟨_,rfl⟩;rw[<- q]at E z;rw[<- p]at D z;clear r m C q p;(go_wp2_with fail);refine E.o.mono ?_;rintro e R ⟨rfl,rfl⟩;(go_wp2_with fail);refine D.o.mono ?_;rintro e R ⟨rfl,rfl⟩;have u:=HO.o;have t:=F.o.size;clear E D;(go_wp2_with (at_builtin;refine wal info5 (u.alloc _) [U .u8 92,U .u8 (M.toNat:Int),U .u8 (L.toNat:Int)] (Qq _ _ _) (by simp[Hq]) ?_;intro Y X a d s f;have g:=Hm (And.intro a d);obtain⟨I,H,rfl⟩:=Xj a;clear a d s f));refine⟨⟨k+1,by omega,(by first|rfl|(congr 1;omega)),?_,(F.o.alloc t _ |>.grown g.o.2 (by simp;omega) (λj hj=>(u.lt j hj).1))⟩,by simp[intOf];omega⟩;rw[HS.o,z.o];simpa using g.o.1
   by_cases g4:(c.toNat:Int)=92
   . (have r:plain c=false:=by unfold plain;simp;omega);(have ac:((c.toNat:Int)==34)=false:=by simp[g3]);(have ah:((c.toNat:Int)==92)=true:=by simp[g4]);clear g3 g4;(have A:(c.toNat:Int) / 16=((c.toNat / 16:Nat):Int):=by omega);obtain⟨n,m⟩:∃x,x=c.toNat / 16:=⟨_,rfl⟩;rw[<- m]at A;have C:=c.toNat_lt;(have V:IntKind.u8.wrap (n:Int)=(n:Int):=by rw[Td];omega);have E:=Hm (JU n wr (by omega));have D:=Hm (JU c.toNat wr (by omega));(have z:Hid (enc c=[92,hx (n%16),hx (c.toNat%16)]):=by show _=_;unfold enc;rw[r,m,Mc (show c.toNat / 16<16 by omega)];rfl);obtain⟨M,q⟩:∃y,y=hx (n%16):=⟨_,rfl⟩;obtain⟨L,p⟩:∃y,y=hx (c.toNat%16):=⟨_,rfl⟩;rw[<- q]at E z;rw[<- p]at D z;clear r m C q p;(go_wp2_with fail);refine E.o.mono ?_;rintro e R ⟨rfl,rfl⟩;(go_wp2_with fail);refine D.o.mono ?_;rintro e R ⟨rfl,rfl⟩;have u:=HO.o;have t:=F.o.size;clear E D;(go_wp2_with (at_builtin;refine wal info5 (u.alloc _) [U .u8 92,U .u8 (M.toNat:Int),U .u8 (L.toNat:Int)] (Qq _ _ _) (by simp[Hq]) ?_;intro Y X a d s f;have g:=Hm (And.intro a d);obtain⟨I,H,rfl⟩:=Xj a;clear a d s f));refine⟨⟨k+1,by omega,(by first|rfl|(congr 1;omega)),?_,(F.o.alloc t _ |>.grown g.o.2 (by simp;omega) (λj hj=>(u.lt j hj).1))⟩,by simp[intOf];omega⟩;rw[HS.o,z.o];simpa using g.o.1
   (have z:Hid (enc c=[c]):=by show _=_;unfold enc;rw[if_pos (by unfold plain;simp;omega)]);(have ac:((c.toNat:Int)==34)=false:=by simp[g3]);(have ah:((c.toNat:Int)==92)=false:=by simp[g4]);clear g3 g4;have u:=HO.o;have t:=F.o.size;(go_wp2_with (at_builtin;refine wal info5 (u.alloc _) [U .u8 (c.toNat:Int)] (cell_one_new _ _ _) (oneB _) ?_;intro Y X a d s f;have g:=Hm (And.intro a d);obtain⟨I,H,rfl⟩:=Xj a;clear a d s f));refine⟨⟨k+1,by omega,(by first|rfl|(congr 1;omega)),?_,(F.o.alloc t _ |>.grown g.o.2 (by simp;omega) (λj hj=>(u.lt j hj).1))⟩,by simp[intOf];omega⟩;rw[HS.o,z.o];simpa using g.o.1
 have e:k=N b:=by omega
 subst e;have t:=F.o.size;have hq:J4 b=JS b (N b)++[34]:=by simp[J4,JS]
 have HQ:=Hm hq;clear hb hq;go_wp2_with (at_builtin;refine wal info5 (u.alloc _) [U .u8 34] (cell_one_new _ _ _) (oneB _) ?_;intro Y X a d s f;have g:=Hm (And.intro a d);have aq:=XF (W:=X) (v:=Y) (B:=w.heap.size) (l:=J4 b) (by rw[HQ.o];simpa using a);obtain⟨I,H,rfl⟩:=Xj a;clear a d s f)
 go_ret;exact⟨rfl,F.o.alloc t _ |>.grown g.o.2 (by simp;omega) (λj hj=>(u.lt j hj).1)⟩
end YtejkdbnngphgaaaGreatDoor.Yz
namespace YtejkdbnngphgaaaGreatDoor.Yz
open Go.RowKit Go.Sort
variable [PK]
theorem form_op (op:Int):(QD (Qe op)=7->op=65)/\(QD (Qe op)=8->op=66)/\(QD (Qe op)=9->op=67)/\(QD (Qe op)=10->op=68):=by
 by_cases h:0<=op/\op<192
 . have e:=of_decide_eq_true (rng 0 192 (λi=>decide ((QD (tbl.getD i Z0)=7->i=65)/\(QD (tbl.getD i Z0)=8->i=66)/\(QD (tbl.getD i Z0)=9->i=67)/\(QD (tbl.getD i Z0)=10->i=68))) (by decide +kernel) op (by omega) (by omega));(have a:Qe op=tbl.getD op.toNat Z0:=by simp only[Qe,h,and_self,if_true]);rw[<- a]at e;exact⟨λk=>by have:=e.1 k;omega,λk=>by have:=e.2.1 k;omega,λk=>by have:=e.2.2.1 k;omega,λk=>by have:=e.2.2.2 k;omega⟩
 have a:Qe op=Z0:=by simp only[Qe,h,if_false]
 have e0:QD Z0=-1:=by decide
 rw[a,e0];exact⟨λk=>absurd k (by decide),λk=>absurd k (by decide),λk=>absurd k (by decide),λk=>absurd k (by decide)⟩
theorem Sx.drew {w:J}{p X:Nat}{f:Option Ad}{r:List Wd}{bd:Bool}{a b c d e:Vu}{V:J}(h:Sx w p X f r bd a b c d e V):Sx w p X f r bd a b c d e V.drew:=h.call (Qu bFz.drew) (h.pb.keep bFz.drew)
theorem sri_1 (p b o c:Nat)(s:Wd)(r:List Wd)(w:J)(h:Pb w p false)(hb:b<PK.hi/\b≠p)(hc:∀i,i<(s::r).length->w.cell? ⟨b,o+i,none⟩=some (Xs (Sz0 ((s::r).getD i []))))(ad:(s::r).length<=c)(hl:∀x∈s::r,N x<=1099511627776)(ah:N r<=1099511627776)(hf:QD (Qe (Qt s))=1):Ec Q 23 #[Yp (some ⟨p,0,none⟩),S (some ⟨b,o,none⟩) (s::r).length c] w (SiP 1 (Qt s) r w p):=by
 have cx:=hc 0 (by simp);simp only[Hc,Tg]at cx;obtain⟨W,hW⟩:∃W,W=w.alloc (Fc #[U O 0,U O 0,U O 0,U Ou 0,S none 0 0] 70):=⟨_,rfl⟩;have aq:Bw w.heap.size w W:=by rw[hW];exact bFz.alloc lRz _
 have ao:Hid (W.heap.size=w.heap.size+1):=by show _=_;rw[hW];simp
 have ay:C5 W w.heap.size 0 (U O 0) (U O 0) (U O 0) (U Ou 0) (S none 0 0):=by rw[hW];exact C5.new
 have bb:W.cell? ⟨b,o,none⟩=some (Xs (Sz0 s)):=(aq.cell (p:=⟨b,o,none⟩) (World.block_lt_of_cell? w _ cx)).trans cx;have KC:=Hm (Xi (Sz0 s) W);rw[QB]at KC;have HW:=Hm hW;simp only[Kj]at ad⊢;have a6:=Hm (Xg hb hc ad);have a1:∀x∈r,N x<=1099511627776:=λx hx=>hl x (by simp[hx]);have HL:=Hm a1;have a7:=Hm h;have aj:=h.lt2;have KF:=Hm (λUz0=>Xh (Qt s) Uz0);rw[hf]at KF;clear cx hW hc hl a1 h hf;generalize Qt s=op at *;go_enter func23,ntmps23;go_upto_region 1 with fail
 rw[<- HW.o];go_wp2_with fail
 refine KC.o.mono ?_;rintro e w1 ⟨rfl,ai⟩;go_upto_region 3 with fail
 generalize(if c=1 then(some ⟨b,o,none⟩:Option Ad)else some ⟨b,o+1,none⟩)=ra at *;generalize c-1=rc at *;have a0:w.heap.size<w1.heap.size:=by have:=ai.size;have:=ao.o;omega
 have q:Bw w.heap.size w w1:=aq.trans (ai.mono (by have:=ao.o;omega));have az:C5 w1 w.heap.size 0 (U O 0) (U O 0) (U O 0) (U Ou 0) (S none 0 0):=ay.keep ai;refine Qh (λUz0=>Sx w p w1.heap.size ra r false (U O op) (U O 0) (U O 0) (U Ou 0) (S none 0 0) Uz0) ⟨C5.new,az.past,a7.o.keep (q.alloc q.size _),Qu (q.alloc q.size _),a6.o.keep (q.alloc q.size _) aj,aj,a0⟩ ?_;rintro Uz0 au;have SU:=Hm au;have A:=au.x.1.1;clear au a6 a7 aq ao ay bb KC HW ad ai q az a0;go_wp2_with fail
 refine(KF.o _).mono ?_;rintro e w2 ⟨rfl,rfl⟩;clear KF A;have d:=SU.o.x.1.2.1;have g:=SU.o.x.2 1;simp only[Kk]at d g;go_upto_region 11 with fail
 refine Qh (λV=>Sx w p w1.heap.size ra r false (U O op) (U O 64) (U O 0) (U Ou 0) (S none 0 0) V) SU.o.set1 ?_;rintro V4 a4;have f:=Hm a4;clear a4 d g SU;match r,ah,HL,f with
 |[],ah,HL,f =>
  obtain⟨⟨A,d,L,I,H⟩,-⟩:=f.o.x;obtain⟨⟨F,E,D,C,B⟩,a⟩:=f.o.z
  simp only[Kk]at A d L I H F E D C B
  have n:=a 0;have m:=a 1;have l:=a 2;have k:=a 3;have j:=a 4;clear a
  go_wp2
  refine Qx (λV=>C5 V w.heap.size 0 (U O op) (U O 64) (U O 0) (U Ou 0) (S none 0 0)/\Pb V p false/\w.grownBy V (some p)) (f.o.fin _ _ _ _ _) ?_
  rintro V ⟨⟨⟨t0,Y,u,X,R⟩,-⟩,M,gU⟩
  simp only[Kk]at t0 Y u X R
  have HU:=Hm (And.intro M gU);clear M gU A d L I H F E D C B n m l k j
  exact bodyPost_ret (v:=inV ⟨op,64,0,0,[]⟩ none 0) (by simp[results,results23,go_sem,t0,Y,u,X,R]) rfl ⟨⟨op,64,0,0,[]⟩,none,0,false,rfl,rfl,QQ _,HU.o.1,HU.o.2,λ_=>⟨by decide,by rw[arg_1];exact .inl ⟨rfl,rfl⟩⟩,λ_ _=>rfl⟩
 |[t],ah,HL,f =>
  rcases f.o.wv with e|⟨b5,o5,rfl,bn,a2⟩
  . cases e
  have ct:=a2 0 (by simp)
  simp only[Hc,Tg]at ct
  clear a2;have KT:=Hm (sty_c t V4)
  simp only[Kj,List.length_nil]
  cases hty:(tyN t==0)with
  |false =>
   rw[hty]at KT;have aw:=Hm hty;clear hty
   go_wp2_with fail
   refine KT.o.mono ?_
   rintro e w5 ⟨rfl,rfl⟩;have d:=f.o.x.1.2.1;have g:=f.o.x.2 1
   simp only[Kk]at d g
   clear KT
   go_upto_region 46 with fail
   refine Qh (λV=>Sx w p w1.heap.size (some ⟨b5,o5,none⟩) [t] false (U O op) (U O (tyN t)) (U O 0) (U Ou 0) (S none 0 0) V) f.o.set1 ?_
   rintro V6 af;have SY:=Hm af;clear af d g f;obtain⟨⟨A,d,L,I,H⟩,-⟩:=SY.o.x;obtain⟨⟨F,E,D,C,B⟩,a⟩:=SY.o.z
   simp only[Kk]at A d L I H F E D C B
   have n:=a 0;have m:=a 1;have l:=a 2;have k:=a 3;have j:=a 4;clear a
   go_wp2
   refine Qx (λV=>C5 V w.heap.size 0 (U O op) (U O (tyN t)) (U O 0) (U Ou 0) (S none 0 0)/\Pb V p false/\w.grownBy V (some p)) (SY.o.fin _ _ _ _ _) ?_
   rintro V ⟨⟨⟨t0,Y,u,X,R⟩,-⟩,M,gU⟩
   simp only[Kk]at t0 Y u X R
   have HU:=Hm (And.intro M gU);clear M gU A d L I H F E D C B n m l k j
   exact bodyPost_ret (v:=inV ⟨op,tyN t,0,0,[]⟩ none 0) (by simp[results,results23,go_sem,t0,Y,u,X,R]) rfl ⟨⟨op,tyN t,0,0,[]⟩,none,0,false,rfl,rfl,QQ _,HU.o.1,HU.o.2,λ_=>⟨by decide,by rw[arg_1];exact .inr ⟨t,rfl,by simpa using aw.o,rfl⟩⟩,λ_ _=>rfl⟩
  |true =>
   rw[hty]at KT;have aw:=Hm hty;clear hty
   go_wp2_with fail
   refine KT.o.mono ?_
   rintro e w5 ⟨rfl,rfl⟩;have d:=f.o.x.1.2.1;have g:=f.o.x.2 1
   simp only[Kk]at d g
   clear KT
   go_upto_region 14 with fail
   refine Qh (λV=>Sx w p w1.heap.size (some ⟨b5,o5,none⟩) [t] false (U O op) (U O (tyN t)) (U O 0) (U Ou 0) (S none 0 0) V) f.o.set1 ?_
   rintro V6 af;have SY:=Hm af;clear af d g f;have KB:=Hm (QG p _ _ SY.o.pb)
   go_wp2_with fail
   refine KB.o.mono ?_
   rintro e w9 ⟨rfl,ab,ac⟩;have S9:=Hm (SY.o.call ac ab);clear ab ac KB SY;obtain⟨⟨A,d,L,I,H⟩,-⟩:=S9.o.x;obtain⟨⟨F,E,D,C,B⟩,a⟩:=S9.o.z
   simp only[Kk]at A d L I H F E D C B
   have n:=a 0;have m:=a 1;have l:=a 2;have k:=a 3;have j:=a 4;clear a
   go_wp2
   refine Qx (λV=>C5 V w.heap.size 0 (U O op) (U O (tyN t)) (U O 0) (U Ou 0) (S none 0 0)/\Pb V p true/\w.grownBy V (some p)) (S9.o.fin _ _ _ _ _) ?_
   rintro V ⟨⟨⟨t0,Y,u,X,R⟩,-⟩,M,gU⟩
   simp only[Kk]at t0 Y u X R
   have HU:=Hm (And.intro M gU);clear M gU A d L I H F E D C B n m l k j
   exact bodyPost_ret (v:=inV ⟨op,tyN t,0,0,[]⟩ none 0) (by simp[results,results23,go_sem,t0,Y,u,X,R]) rfl ⟨⟨op,tyN t,0,0,[]⟩,none,0,true,rfl,rfl,QQ _,HU.o.1,HU.o.2,λh=>absurd h (by decide),λ_ ⟨y,hy⟩=>by rw[arg_1]at hy;exact hy.elim (λh=>absurd h.1 (by simp)) (λ⟨u,h,hn,_⟩=>by cases h;exact absurd (by simpa using aw.o) hn)⟩
 |t::u::r,ah,HL,f =>
  have bm:(1:Int)<(N r:Int)+1+1:=by omega
  simp only[Kj]
  have KB:=Hm (QG p _ _ f.o.pb)
  go_wp2_with fail
  refine KB.o.mono ?_
  rintro e w9 ⟨rfl,ab,ac⟩;have S9:=Hm (f.o.call ac ab);clear ab ac KB f;obtain⟨⟨A,d,L,I,H⟩,-⟩:=S9.o.x;obtain⟨⟨F,E,D,C,B⟩,a⟩:=S9.o.z
  simp only[Kk]at A d L I H F E D C B
  have n:=a 0;have m:=a 1;have l:=a 2;have k:=a 3;have j:=a 4;clear a
  go_wp2
  refine Qx (λV=>C5 V w.heap.size 0 (U O op) (U O 64) (U O 0) (U Ou 0) (S none 0 0)/\Pb V p true/\w.grownBy V (some p)) (S9.o.fin _ _ _ _ _) ?_
  rintro V ⟨⟨⟨t0,Y,u,X,R⟩,-⟩,M,gU⟩
  simp only[Kk]at t0 Y u X R
  have HU:=Hm (And.intro M gU);clear M gU A d L I H F E D C B n m l k j
  exact bodyPost_ret (v:=inV ⟨op,64,0,0,[]⟩ none 0) (by simp[results,results23,go_sem,t0,Y,u,X,R]) rfl ⟨⟨op,64,0,0,[]⟩,none,0,true,rfl,rfl,QQ _,HU.o.1,HU.o.2,λh=>absurd h (by decide),λ_ ⟨y,hy⟩=>by rw[arg_1]at hy;exact hy.elim (λh=>absurd h.1 (by simp)) (λ⟨u,h,_⟩=>absurd h (by simp))⟩
