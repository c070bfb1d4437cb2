import Derived.Lib.AppendZeros
import Derived.Test.YtaccbbndmmhenaaGreatDoorGaj
import Derived.Test.YtaccbbndmmhenaaGreatDoorGak
set_option linter.all false
set_option maxHeartbeats 400000000
set_option maxRecDepth 100000
namespace Go.Proofs
open Value renaming int->U,slice->S,bool->G,pointer->Yp,agg->Ag,nilIface->Nf
open IntKind renaming i64->O
open Ending renaming returned->Z
open Obj renaming cells->Fc
open Go renaming World->J,Calls->Ec,Value->Vu
open Tryz renaming prog->Q
open Tryz
open Act renaming eval->Lz,put->Lf
open IntKind renaming wrap_i64->Kv
open Value renaming ownBlock->Hg,slice->Tq
open List renaming length->N
namespace YtaccbbndmmhenaaGreatDoor.Va
open Go.RowKit Go.Sort
variable {b:Blk}{s:Fn}{V W w0:J}{ks:List Qc}{cs:List Vu}{l:Lo}{B e n D p g c:Nat}{sp:Vu}
section
variable {D:Nat}{w0:J}{p:Nat}{sp:Vu}{l:Lo}{ks:List Qc}{s:Fn}{V W V1:J}
theorem ISt.begun {a:Option Addr}{sc:Nat}{bv v' tv rv:Vu}{bcs:List Vu}(h:Mo D w0 (bxR p sp l (S a (N s.stack) sc) bv::stR s (S a (N s.stack) sc)::blR (N s.blocks) bv bcs::ks) V)(m:Fl (IRep D w0 ks) s.blocks bcs)(n:Below V.heap.size V V1) (c:W.ownsRow D 350 5 v' (N s.blocks+1) (bcs++[tv,U O b.height,U O b.op,rv,G b.dead])) (k:V1.grownBy W bv.ownBlock) (d:v'.ownBlock=bv.ownBlock\/v'.ownBlock=some V1.heap.size) (j:Ty D w0 ks tv b.takes) (g:Ty D w0 ks rv b.results):ISt D w0 p sp l ks { s with blocks:=s.blocks++[b] } (W.setCell ⟨p,5,none⟩ v')/\W.cell? ⟨p,5,none⟩=some bv/\W.frozen? ⟨p,5,none⟩=false:=by
 have r:=(h.perm XE).push (r':=blR (N s.blocks+1) v' (bcs++[tv,U O b.height,U O b.op,rv,G b.dead])) n k c d;have f:=r.perm (rs':=bxR p sp l (S a (N s.stack) sc) bv::blR (N s.blocks+1) v' (bcs++[tv,U O b.height,U O b.op,rv,G b.dead])::stR s (S a (N s.stack) sc)::ks) (List.Perm.swap _ _ _);have q:=(f.set 5 v').perm ((List.Perm.swap _ _ _).cons _);have o:=f.b0 5 (u:=bv);refine⟨⟨S a (N s.stack) sc,v',_,?_,m.app (Fl.one ⟨tv,rv,rfl,j,g⟩)⟩,o⟩;have e:(s.blocks++[b]).length=N s.blocks+1:=by simp
 rw[e];exact q
end
theorem Qc.Ok.keep' {sz:Nat}{v:Vu}(h:V.ownsRow B e sz v n cs)(a:Below V.heap.size V W):W.ownsRow B e sz v n cs:=Qc.Ok.blocks (r:=⟨e,sz,n,v,cs⟩) h λk hk=>a.block k (World.ownsRow.lt h k hk).2
theorem Qh {w:J}{sz:Nat}{v:Vu}{b:List Vu}(h:w.ownsRow B e sz v n b):∃a c,v=S a n c:=by
 rcases h.2 with ⟨e,f⟩|⟨g,k,j,d,_⟩
 . rw[f];exact⟨_,_,e⟩
 exact⟨_,_,d⟩
theorem Qd {w:J}{b o:Nat}{u:Vu}{x:Obj}(h:w.cell? ⟨b,o,none⟩=some u):(w.alloc x).cell? ⟨b,o,none⟩=some u:=(World.cell?_alloc_past _ _ _ (World.block_lt_of_cell? w _ h)).trans h
theorem one5 {a b:Vu}{x y:Int}{z:Bool}(f:a.oneCell'=true)(d:b.oneCell'=true):∀u∈[a,U O x,U O y,b,G z],u.oneCell'=true:=by
 intro u c;simp at c;rcases c with rfl|rfl|rfl|rfl|rfl
 . exact f
 . rfl
 . rfl
 . exact d
 rfl
theorem ibegin_c (op:Int)(v:Vu)(xs:List Int)(h:ISt D w0 p sp l ks s V)(t:Ty D w0 ks v xs)(a3:N s.blocks<=1048577)(a2:N s.stack<=2199023255552):Ec Q 228 #[Yp (some ⟨p,0,none⟩),U O op,v] V λe w'=>e=Z (.tuple #[])/\ISt D w0 p sp l ks (QI s op xs) w':=by
 obtain⟨i0,hi,R,M,L⟩:=info_parts info350;obtain⟨sa,sc,bv,A,C,hf,q4,q5,f4,f5⟩:=h.opnS;have X:V.ownsRow D 350 5 bv (N s.blocks) A:=C.row (r:=blR _ bv A) (by simp);obtain⟨q,E,rfl⟩:∃a c,bv=S a (N s.blocks) c:=by
  rcases X.2 with ⟨e,h0⟩|⟨g,bd,bb,hv,_⟩
  . rw[h0];exact⟨_,_,e⟩
  exact⟨_,_,hv⟩
 obtain⟨m,j,rfl,_⟩:=t.st h;have aa:=C.le;have Y:=(C.lt (T:=337) (sz:=6) (n:=1) (g:=p) (c:=1) (cs:=ib sp l (S sa (N s.stack) sc) (S q (N s.blocks) E)) (by simp)).2;by_cases I:op=3
 . (have k3:(op != 3)=false:=by simp[I]);have HP:=Hm (λV1 W v'=>ISt.begun (V1:=V1) (W:=W) (v':=v') (tv:=S none 0 0) (rv:=S m (N xs) j) (b:=⟨op,[],xs,N s.stack,false⟩) C hf);have HT:=Hm t;(have he:QI s op xs={ s with blocks:=s.blocks++[⟨op,[],xs,N s.stack,false⟩] }:=by simp[QI,I]);rw[he];have OW:=Hm X;clear C hf h X t I he;go_enter func228,ntmps228;(go_upto_region 4 with fail);obtain⟨W,z⟩:∃W,W=V.alloc (Fc #[S none 0 0,U O (N s.stack),U O op,S m (N xs) j,G false] 350):=⟨_,rfl⟩;rw[<- z];(have y:Below V.heap.size V W:=by rw[z];exact bFz.alloc lRz _);have F:=Hm (Qc.Ok.keep' OW.o y);(have kk:Bk W V.heap.size [S none 0 0,U O (N s.stack),U O op,S m (N xs) j,G false]:=by rw[z];exact Bk.new);have e0:=kk.2.1 0 _ rfl;have e1:=kk.2.1 1 _ rfl;have e2:=kk.2.1 2 _ rfl;have e3:=kk.2.1 3 _ rfl;have e4:=kk.2.1 4 _ rfl;have B:W.cell? ⟨p,5,none⟩=some (S q (N s.blocks) E):=(y.cell (p:=⟨p,5,none⟩) Y).trans q5;have kd:∀o,(W.alloc o).cell? ⟨p,5,none⟩=some (S q (N s.blocks) E):=λo=>Qd B;have ak:V.heap.size<=W.heap.size:=y.size;have HB:Hid (∀o,Below V.heap.size V ((W.alloc o).drew)):=λo=>y.trans (⟨rfl,rfl,rfl,by show W.heap.size<=(W.alloc o).heap.size;simp,λk hk=>QM W o k (by omega)⟩);clear z kk q4 q5 y
   go_region_law (first
    | (
     refine Qt rfl (.tmp 26) (.tmp 28) 335 rfl D 350 i0 (Ag #[S none 0 0,U O 0,U O 0,S none 0 0,G false]) 5 72 underlying335 hi R M L rfl (by decide) (S q (N s.blocks) E) (N s.blocks) A (by first|rfl|simp[Lz,Lf]) (World.ownsRow.alloc F.o _) ⟨W.heap.size,0,none⟩ 1 1 [S none 0 0,U O (N s.stack),U O op,S m (N xs) j,G false] (by first|rfl|simp[Lz,Lf]) (by first|rfl|simp) (Jn W [S none 0 0,U O (N s.stack),U O op,S m (N xs) j,G false] 350) (one5 rfl rfl) (by unfold maxLen;omega) (by omega) (Nat.le_trans aa (HB.o _).size) ?_
     intro v2 w5 d u f
     have H:=Hm (HP.o _ w5 v2 (HB.o _) d u f (Ty.nil _ _ _ _ _) HT.o);have ap:=H.o.2.1;have ao:=H.o.2.2;obtain⟨ai,ah,rfl⟩:=Qh d;clear d u f))
   all_goals
    go_wp2_with fail
    go_end0
    exact⟨rfl,H.o.1⟩
 have k3:(op != 3)=true:=by simp[I]
 have HP:=Hm (λV1 W v'=>ISt.begun (V1:=V1) (W:=W) (v':=v') (tv:=S m (N xs) j) (rv:=S m (N xs) j) (b:=⟨op,xs,xs,N s.stack,false⟩) C hf);have HT:=Hm t;have he:QI s op xs={ s with blocks:=s.blocks++[⟨op,xs,xs,N s.stack,false⟩] }:=by simp[QI,I]
 rw[he];have OW:=Hm X;clear C hf h X t I he;go_enter func228,ntmps228;go_upto_region 4 with fail
 obtain⟨W,z⟩:∃W,W=V.alloc (Fc #[S m (N xs) j,U O (N s.stack),U O op,S m (N xs) j,G false] 350):=⟨_,rfl⟩;rw[<- z];have y:Below V.heap.size V W:=by rw[z];exact bFz.alloc lRz _
 have F:=Hm (Qc.Ok.keep' OW.o y);have kk:Bk W V.heap.size [S m (N xs) j,U O (N s.stack),U O op,S m (N xs) j,G false]:=by rw[z];exact Bk.new
 have e0:=kk.2.1 0 _ rfl;have e1:=kk.2.1 1 _ rfl;have e2:=kk.2.1 2 _ rfl;have e3:=kk.2.1 3 _ rfl;have e4:=kk.2.1 4 _ rfl;have B:W.cell? ⟨p,5,none⟩=some (S q (N s.blocks) E):=(y.cell (p:=⟨p,5,none⟩) Y).trans q5;have kd:∀o,(W.alloc o).cell? ⟨p,5,none⟩=some (S q (N s.blocks) E):=λo=>Qd B;have ak:V.heap.size<=W.heap.size:=y.size;have HB:Hid (∀o,Below V.heap.size V ((W.alloc o).drew)):=λo=>y.trans (⟨rfl,rfl,rfl,by show W.heap.size<=(W.alloc o).heap.size;simp,λk hk=>QM W o k (by omega)⟩);clear z kk q4 q5 y
 go_region_law (first
  | (
   refine Qt rfl (.tmp 26) (.tmp 28) 335 rfl D 350 i0 (Ag #[S none 0 0,U O 0,U O 0,S none 0 0,G false]) 5 72 underlying335 hi R M L rfl (by decide) (S q (N s.blocks) E) (N s.blocks) A (by first|rfl|simp[Lz,Lf]) (World.ownsRow.alloc F.o _) ⟨W.heap.size,0,none⟩ 1 1 [S m (N xs) j,U O (N s.stack),U O op,S m (N xs) j,G false] (by first|rfl|simp[Lz,Lf]) (by first|rfl|simp) (Jn W [S m (N xs) j,U O (N s.stack),U O op,S m (N xs) j,G false] 350) (one5 rfl rfl) (by unfold maxLen;omega) (by omega) (Nat.le_trans aa (HB.o _).size) ?_
   intro v2 w5 d u f
   have H:=Hm (HP.o _ w5 v2 (HB.o _) d u f HT.o HT.o);have ap:=H.o.2.1;have ao:=H.o.2.2;obtain⟨ai,ah,rfl⟩:=Qh d;clear d u f))
 all_goals
  go_wp2_with fail
  go_end0
  exact⟨rfl,H.o.1⟩
abbrev oty (op:Int):Qe:=⟨nz [(Qb op).a,(Qb op).b],nz [(Qb op).g]⟩
theorem grow_c (n:Nat)(w:J)(r:0<n)(u:n<=1099511627776):Ec Q 265 #[S none 0 0,U O n] w λe w'=>∃g c,e=Z (S (some ⟨g,0,none⟩) 0 c)/\w'.ownsRow w.heap.size 2 1 (S (some ⟨g,0,none⟩) 0 c) 0 []/\Below w.heap.size w w':=by
 obtain⟨p,q,f,d,b⟩:=info_parts info2;have t:¬((n:Int)<0):=by omega
 have k:=Lib.run_append_nil_zeros (P:=Q) w 24 3 24 2 p (U O 0) O O underlying24 underlying3 q f n r (by rw[d];decide) (by omega) (by rw[b];omega);have m:=Hm k;have j:=grownCap_ge w n 0 2;have a:=grownCap_le_maxLen w n 0 2 (by unfold maxLen;omega);obtain⟨c,l⟩:∃c,c=grownCap w n 0 2:=⟨_,rfl⟩;rw[<- l]at m j a;have s:(0:Int)<=(c:Int):=by omega
 clear k l;go_enter func265,ntmps265;go_wp2_with (at_builtin;refine Lib.wpList_append_run _ rfl _ _ _ _ rfl _ _ rfl rfl _ _ m.o ?_)
 go_ret;refine⟨w.heap.size,c,rfl,⟨rfl,.inr ⟨w.heap.size,c,_,rfl,lRz,Array.getElem?_push_size,Nat.zero_le _,a,?_,by simp⟩⟩,bFz.drew.alloc lRz _⟩;simp[Builtin.zeroCells];omega
theorem concat_c (g:Nat)(D C:Option Addr)(c1 c2:Nat)(xs f:List Int)(w:J)(Y:w.cell? ⟨g,0,none⟩=some (S D (N xs) c1))(h2:w.cell? ⟨g,1,none⟩=some (S C (N f) c2))(V:Has w D xs)(R:Has w C f)(hl:0<N xs+N f)(hm:N xs+N f<=1099511627776):Ec Q 261 #[S (some ⟨g,0,none⟩) 2 2] w λe w'=>∃v,e=Z v/\w'.ownsRow w.heap.size 2 1 v (xs++f).length (I (xs++f))/\Below w.heap.size w w':=by
 obtain⟨M,X,t,s,r⟩:=info_parts info2;have HG:=Hm (grow_c (N xs+N f) w hl hm);have w1:IntKind.i64.wrap (0+(N xs:Int))=N xs:=by rw[Kv];omega
 have w2:IntKind.i64.wrap ((N xs:Int)+(N f:Int))=((N xs+N f:Nat):Int):=by rw[Kv];omega
 have HX:=Hm (λW (q:Below w.heap.size w W)=>SrcC.on (Has.src V) q);have HY:=Hm (λW (q:Below w.heap.size w W)=>SrcC.on (Has.src R) q);have y:=World.block_lt_of_cell? w _ Y;clear V R;go_enter func261,ntmps261;go_wp2;refine wp_loop_rounds 3 ?_;rw[rounds_succ];go_wp2;rw[rounds_succ];go_wp2;rw[rounds_succ];go_wp2_with fail
 refine HG.o.mono ?_;rintro e W1 ⟨g',c,rfl,m,q⟩;have d1:W1.cell? ⟨g,0,none⟩=some (S D (N xs) c1):=(q.cell (p:=⟨g,0,none⟩) y).trans Y;have HB:=Hm q;have u:=q.size;have O0:=Hm m;clear q m HG;go_wp2_with fail
 refine wp_loop_rounds 3 ?_;rw[rounds_succ];go_wp2_with (at_builtin;refine XM rfl _ _ 24 rfl w.heap.size 2 M (U O 0) 1 8 underlying24 X t s r rfl (by decide) _ 0 [] rfl O0.o D (N xs) c1 (I xs) rfl (by simp) (HX.o _ HB.o) (one_I xs) (by unfold maxLen;omega) (by omega) u ?_;intro L E b a j;have d:E.ownsRow w.heap.size 2 1 L (N xs) (I xs):=(by simpa using b);have A:=Hm d;have l:Below w.heap.size w E:=HB.o.grown a u (λk hk=>(World.ownsRow.lt O0.o k hk).1);have d1:E.cell? ⟨g,1,none⟩=some (S C (N f) c2):=(l.cell (p:=⟨g,1,none⟩) y).trans h2;have B:=Hm l;have n:=l.size;obtain⟨va,vc,rfl⟩:=Qh d;clear b d a j l)
 rw[rounds_succ];go_wp2_with (at_builtin;refine XM rfl _ _ 24 rfl w.heap.size 2 M (U O 0) 1 8 underlying24 X t s r rfl (by decide) _ _ _ rfl A.o C (N f) c2 (I f) rfl (by simp) (HY.o _ B.o) (one_I f) (by unfold maxLen;omega) (by omega) n ?_;intro L W3 b a j;have F:=Hm b;have z:Below w.heap.size w W3:=B.o.grown a n (λk hk=>(World.ownsRow.lt A.o k hk).1);have H:=Hm z;obtain⟨va,vc,rfl⟩:=Qh b;clear b a j z)
 rw[rounds_succ];go_wp2;go_ret;exact⟨_,rfl,by have:=F.o;simpa using this,H.o⟩
def FtN (w:J)(t:Qe)(e:Ending)(w':J):Prop:=∃pv rv,e=Z (Ag #[pv,rv])/\Own w.heap.size w' [⟨2,1,N t.ps,pv,I t.ps⟩,⟨2,1,N t.rs,rv,I t.rs⟩]/\Below w.heap.size w w'
section
variable {D:Nat}{w0:J}{p:Nat}{sp:Vu}{l:Lo}{ks:List Qc}{s:Fn}{V W V1:J}
theorem ISt.setBox (h:ISt D w0 p sp l (box e n g cs::ks) s V)(y:(e==2)=false)(o:Nat)(u:Vu):ISt D w0 p sp l (box e n g (cs.set o u)::ks) s (V.setCell ⟨g,o,none⟩ u):=by
 obtain⟨f,j,d,A,z⟩:=h;have q:∀r:Qc,(bxR p sp l f j::stR s f::blR (N s.blocks) j d::r::ks).Perm (r::bxR p sp l f j::stR s f::blR (N s.blocks) j d::ks):=λr=>by
  classical
  rw[List.perm_iff_count];intro a;simp[List.count_cons];omega
 have k:e≠2:=by simpa using y
 have m:∀{v:Vu} {xs:List Int},Ty D w0 (box e n g cs::ks) v xs->Ty D w0 (box e n g (cs.set o u)::ks) v xs:=λt=>by
  rcases t with t|t
  . exact .inl t
  rcases List.mem_cons.1 t with t|t
  . exact absurd (congrArg Qc.e t).symm k
  exact .inr (mC t)
 refine⟨f,j,d,((A.perm (q _)).set o u).perm (q _).symm,z.mono λb c ⟨tv,rv,e,t1,t2⟩=>⟨tv,rv,e,m t1,m t2⟩⟩
theorem ISt.dead {d:Option Addr}{sc:Nat}{a:List Blk}{c1:List Vu}{tv rv:Vu}(t:s.blocks=a++[b]) (h:Mo D w0 (bxR p sp l (S d (N s.stack) sc) (S (some ⟨g,0,none⟩) (N a+1) c)::stR s (S d (N s.stack) sc)::blR (N a+1) (S (some ⟨g,0,none⟩) (N a+1) c) (c1++[tv,U O b.height,U O b.op,rv,G b.dead])::ks) V) (o:Fl (IRep D w0 ks) a c1) (r:N c1=N a*5) (k:Ty D w0 ks tv b.takes) (j:Ty D w0 ks rv b.results) {m:Nat} (n:m<=N s.stack):ISt D w0 p sp l ks { s with stack:=s.stack.take m,blocks:=a++[{ b with dead:=true }] } ((V.setCell ⟨g,N a*5+4,none⟩ (G true)).setCell ⟨p,4,none⟩ (S d m sc)):=by
 have f:=((h.perm XE).set (N a*5+4) (G true)).perm XE.symm;have e:(c1++[tv,U O b.height,U O b.op,rv,G b.dead]).set (N a*5+4) (G true)=c1++[tv,U O b.height,U O b.op,rv,G true]:=by rw[List.set_append_right _ _ (by omega),show(N a)*5+4-N c1=4 by omega];rfl
 rw[e]at f;refine ISt.cut (s:={ s with blocks:=a++[{ b with dead:=true }] }) (bv:=S (some ⟨g,0,none⟩) (N a+1) c) (bcs:=c1++[tv,U O b.height,U O b.op,rv,G true]) ?_ ?_ n
 . (have q:(a++[{ b with dead:=true }]).length=N a+1:=by simp);simp only[q];exact f
 exact o.app (Fl.one ⟨tv,rv,rfl,k,j⟩)
theorem opn_ne {b:Vu}{k:Nat}(h:Mo D w0 (bxR p sp l b (S (some ⟨g,0,none⟩) (k+1) c)::stR s b::blR (k+1) (S (some ⟨g,0,none⟩) (k+1) c) cs::ks) V):g≠p:=λe =>
 Own.disj (a:=[bxR p sp l b (S (some ⟨g,0,none⟩) (k+1) c)]) h.own (Jg.2 ⟨_,List.mem_singleton.2 rfl,rfl⟩) (Jg.2 ⟨blR (k+1) (S (some ⟨g,0,none⟩) (k+1) c) cs,by simp,by rw[<- e];rfl⟩)
end
theorem ileave_c (v:Vu)(xs:List Int)(h:ISt D w0 p sp l ks s V)(t:Ty D w0 ks v xs)(i:Inv s)(B:s.blocks≠[])(q:N s.blocks<=1048577)(X:N s.stack<=1099511627776)(ap:N xs<=1048577):Ec Q 232 #[Yp (some ⟨p,0,none⟩),v] V (FnP D w0 p sp l ks (JB s xs)):=by
 have y:=Hm (ipopAll_c v xs h t i B q X (by omega));have hi:=Hm i;obtain⟨va,vc,rfl,_⟩:=t.st h;clear h t;go_enter func232,ntmps232;go_wp2_with fail
 refine y.o.mono ?_;intro e w1 hp;rcases hp.cases with ⟨f,z,rfl,hb⟩|⟨a,z,rfl,F⟩
 . (have j:Hid (JB s xs=.error f):=by show JB s xs=_;simp only[JB,z];rfl);clear hp z y;go_wp2;go_ret;exact FnP.err j.o hb
 obtain⟨b1,b2,b3,b4,b5⟩:=Jt z hi.o;have k:a.blocks≠[]:=by rw[b1];exact B
 obtain⟨L,d⟩:=JL k;have E:=b5.ht k;have j:Hid (JB s xs=.ok (die a)):=by show JB s xs=_;simp only[JB,z];rfl
 obtain⟨b,u⟩:∃b,b=top a:=⟨_,rfl⟩;rw[<- u]at d E;obtain⟨M,sc,g,c,c1,tv,rv,C,hc,hf,hl,t1,t2⟩:=F.opn d;have m:die a={ a with stack:=a.stack.take b.height,blocks:=L++[{ b with dead:=true }] }:=by
  have e1:a.blocks.dropLast=L:=by rw[d];simp
  simp only[die,<- u,e1]
 obtain⟨q0,q4,q5,f4,f5,e0,e1,e2,e3,e4,f6⟩:=opn_cells C hl;have av:N L<=1048577:=by rw[<- b1,d]at q;simp at q;omega
 have HL:=Hm (λw=>ilast_c p g (N L) c w);have HM:Hid (∀n,ISt D w0 p sp l ks (die a) (((w1.drewN n).setCell ⟨g,N L*5+4,none⟩ (G true)).setCell ⟨p,4,none⟩ (S M b.height sc))):=λn=>by rw[m];exact ISt.dead d (C.drewN n) hf hl t1 t2 E
 have A:w1.ownsRow D 2 1 (S M (N a.stack) sc) (N a.stack) (I a.stack):=C.row (r:=stR a _) (by simp);have Y:(M=none/\N a.stack=0/\sc=0)\/∃R,M=some ⟨R,0,none⟩/\N a.stack<=sc:=by
  rcases A.2 with ⟨H,h1⟩|⟨R,a1,a0,hv,_,_,hx,_⟩
  . simp only[Value.slice.injEq]at H;exact .inl ⟨H.1,h1,H.2.2⟩
  cases hv;exact .inr ⟨R,rfl,hx⟩
 have ax:=opn_ne C;clear hp z y F C hf A b1 b2 b3 b5 d u m t1 t2;go_wp2_with fail
 refine(HL.o _ (by assumption) (by omega)).mono ?_;rintro e w2 ⟨rfl,n,rfl⟩;rcases Y with ⟨rfl,H,rfl⟩|⟨R,rfl,au⟩
 . (have hz:b.height=0:=by omega);rw[H]at q4;rw[hz]at e1 HM;go_wp2;(go_region);go_wp2;go_ret;exact FnP.ok j.o ((HM.o n).keep ⟨rfl,rfl,rfl,lRz,λ_ _=>rfl⟩)
 have i1:(b.height:Int)<=(sc:Int):=by omega
 go_wp2;go_region
 go_wp2;go_ret;exact FnP.ok j.o ((HM.o n).keep ⟨rfl,rfl,rfl,lRz,λ_ _=>rfl⟩)
abbrev z5:List Vu:=[S none 0 0,U O 0,U O 0,S none 0 0,G false]
abbrev b5V (b:Blk)(tv rv:Vu):List Vu:=[tv,U O b.height,U O b.op,rv,G b.dead]
theorem Qv {P:Program}{b:Func}{d:Ending->J->Prop}{c:Exit}{a:Act}(R:J->Prop)(f:R w0)(h:∀W,R W->bodyPost P b d c a W):bodyPost P b d c a w0:=h w0 f
def FinP (D:Nat)(w0:J)(p:Nat)(sp:Vu)(l:Lo)(ks:List Qc)(r:R (Blk × Fn))(e:Ending)(w':J):Prop :=
 (∃f,r=.error f/\e=Z (.tuple #[Ag #[S none 0 0,U O 0,U O 0,S none 0 0,G false],flt f])/\Mo D w0 ks w') \/
 ∃b s' tv rv,r=.ok (b,s')/\e=Z (.tuple #[Ag #[tv,U O b.height,U O b.op,rv,G b.dead],Nf])/\ISt D w0 p sp l ks s' w'/\Ty D w0 ks tv b.takes/\Ty D w0 ks rv b.results
section
variable {D:Nat}{w0:J}{p:Nat}{sp:Vu}{l:Lo}{ks:List Qc}{s:Fn}{V W V1:J}
theorem ISt.lessB {d:Vu}{a:List Blk}{c1 c2:List Vu}(o:s.blocks=a++[b])(h:Mo D w0 (bxR p sp l d (S (some ⟨g,0,none⟩) (N a+1) c)::stR s d::blR (N a+1) (S (some ⟨g,0,none⟩) (N a+1) c) (c1++c2)::ks) V) (n:Fl (IRep D w0 ks) a c1) (k:N c1=N a*5):ISt D w0 p sp l ks { s with blocks:=s.blocks.dropLast } (V.setCell ⟨p,5,none⟩ (S (some ⟨g,0,none⟩) (N a) c)):=by
 have j:=(h.set 5 (S (some ⟨g,0,none⟩) (N a) c)).perm XE;have t:=j.row (r:=blR (N a+1) (S (some ⟨g,0,none⟩) (N a+1) c) (c1++c2)) (by simp);have f:=own_take t (m:=N a) (by omega);have e:(c1++c2).take (N a*5)=c1:=by rw[<- k];simp
 rw[e]at f;have q:=(j.swap (r':=blR (N a) (S (some ⟨g,0,none⟩) (N a) c) c1) f rfl).perm XE.symm;have u:s.blocks.dropLast=a:=by rw[o];simp
 rw[u];exact⟨d,_,c1,q,n⟩
end
theorem put5m {D w0 V}{c0 c1 c2 c3 c4:Vu}(h:Mo D w0 (box e 5 g [c0,c1,c2,c3,c4]::ks) V)(x0 x1 x2 x3 a:Vu):Mo D w0 ks (((((V.setCell ⟨g,0,none⟩ x0).setCell ⟨g,1,none⟩ x1).setCell ⟨g,2,none⟩ x2).setCell ⟨g,3,none⟩ x3).setCell ⟨g,4,none⟩ a)/\∀W,W=(((((V.setCell ⟨g,0,none⟩ x0).setCell ⟨g,1,none⟩ x1).setCell ⟨g,2,none⟩ x2).setCell ⟨g,3,none⟩ x3).setCell ⟨g,4,none⟩ a)->W.cell? ⟨g,0,none⟩=some x0/\W.cell? ⟨g,1,none⟩=some x1/\W.cell? ⟨g,2,none⟩=some x2/\W.cell? ⟨g,3,none⟩=some x3/\W.cell? ⟨g,4,none⟩=some a:=by
 have c:=((((h.set 0 x0).set 1 x1).set 2 x2).set 3 x3).set 4 a;have b:Mo D w0 (box e 5 g [x0,x1,x2,x3,a]::ks) (((((V.setCell ⟨g,0,none⟩ x0).setCell ⟨g,1,none⟩ x1).setCell ⟨g,2,none⟩ x2).setCell ⟨g,3,none⟩ x3).setCell ⟨g,4,none⟩ a):=c;refine⟨b.tail,?_⟩;rintro W rfl;exact⟨(b.b0 0).1,(b.b0 1).1,(b.b0 2).1,(b.b0 3).1,(b.b0 4).1⟩
theorem ISt.put5 {c0 c1 c2 c3 c4:Vu}(h:ISt D w0 p sp l (box e 5 g [c0,c1,c2,c3,c4]::ks) s V)(a:(e==2)=false)(x0 x1 x2 x3 b:Vu) :
    ISt D w0 p sp l ks s (((((V.setCell ⟨g,0,none⟩ x0).setCell ⟨g,1,none⟩ x1).setCell ⟨g,2,none⟩ x2).setCell ⟨g,3,none⟩ x3).setCell ⟨g,4,none⟩ b) :=
 (((((h.setBox a 0 x0).setBox a 1 x1).setBox a 2 x2).setBox a 3 x3).setBox a 4 b).un a
theorem ifinish_c (h:ISt D w0 p sp l ks s V)(i:Inv s)(ao:s.blocks≠[])(aa:N s.blocks<=1048577)(bg:N s.stack<=1099511627776)(bc:∀b∈s.blocks,N b.results<=1048577):Ec Q 253 #[Yp (some ⟨p,0,none⟩)] V (FinP D w0 p sp l ks (Qw s)):=by
 obtain⟨y,F⟩:=JL ao;obtain⟨b,ab⟩:∃b,b=top s:=⟨_,rfl⟩;rw[<- ab]at F;have c9:=bc b (by rw[F];simp);have hi:=Hm i;obtain⟨sa,sc,g,c,c1,tv,rv,Y,hc,hf,hl,t1,t2⟩:=h.opn F;obtain⟨q0,q4,q5,f4,f5,e0,e1,e2,e3,e4,f6⟩:=opn_cells Y hl;have db:N y<=1048577:=by rw[F]at aa;simp at aa;omega
 have HL:=Hm (λw=>ilast_c p g (N y) c w);obtain⟨t,r,bh,_⟩:=t2.st h;obtain⟨A,z,bd,_⟩:=t1.st h;subst bh bd;-- the Gf
 have av:=h.bxn #[S none 0 0,U O 0,U O 0,S none 0 0,G false] 350 5 rfl;have a7:Hid (∀n,ISt D w0 p sp l (box 350 5 (V.heap.size+1) (b5V b (S A (N b.takes) z) (S t (N b.results) r))::box 350 5 V.heap.size z5::ks) s (((V.alloc (Fc #[S none 0 0,U O 0,U O 0,S none 0 0,G false] 350)).drewN n).alloc (Fc #[S A (N b.takes) z,U O b.height,U O b.op,S t (N b.results) r,G b.dead] 350))):=λn=>by have:=(av.keep (W:=(V.alloc (Fc #[S none 0 0,U O 0,U O 0,S none 0 0,G false] 350)).drewN n) ⟨rfl,rfl,rfl,lRz,λ_ _=>rfl⟩).bxn #[S A (N b.takes) z,U O b.height,U O b.op,S t (N b.results) r,G b.dead] 350 5 rfl;simpa using this
 have bu:=Hm t1;have a6:=Hm t2;have bz:=Hm F;have af:=Hm ab;clear h Y hf av t1 t2 ab;go_enter func253,ntmps253;go_wp2_with fail
 refine(HL.o _ (Qd q5) (by omega)).mono ?_;rintro e w2 ⟨rfl,n,rfl⟩;have a5:((V.alloc (Fc #[S none 0 0,U O 0,U O 0,S none 0 0,G false] 350)).drewN n).cell? ⟨g,N y*5,none⟩=some (S A (N b.takes) z):=Qd e0;have az:((V.alloc (Fc #[S none 0 0,U O 0,U O 0,S none 0 0,G false] 350)).drewN n).cell? ⟨g,N y*5+1,none⟩=some (U O b.height):=Qd e1;have ay:((V.alloc (Fc #[S none 0 0,U O 0,U O 0,S none 0 0,G false] 350)).drewN n).cell? ⟨g,N y*5+2,none⟩=some (U O b.op):=Qd e2;have ax:((V.alloc (Fc #[S none 0 0,U O 0,U O 0,S none 0 0,G false] 350)).drewN n).cell? ⟨g,N y*5+3,none⟩=some (S t (N b.results) r):=Qd e3;have aw:((V.alloc (Fc #[S none 0 0,U O 0,U O 0,S none 0 0,G false] 350)).drewN n).cell? ⟨g,N y*5+4,none⟩=some (G b.dead):=Qd e4;have k:=Hm (a7.o n);obtain⟨V1,ac⟩:∃V1,V1=(V.alloc (Fc #[S none 0 0,U O 0,U O 0,S none 0 0,G false] 350)).drewN n:=⟨_,rfl⟩;rw[<- ac]at a5 az ay ax aw k⊢;have bf:V1.heap.size=V.heap.size+1:=by rw[ac];show(V.alloc _).heap.size=_;simp
 clear e0 e1 e2 e3 e4 q4 q5 f4 f5 ac HL a7;go_upto_region 2 with fail
 obtain⟨W,hW⟩:∃W,W=V1.alloc (Fc #[S A (N b.takes) z,U O b.height,U O b.op,S t (N b.results) r,G b.dead] 350):=⟨_,rfl⟩;rw[<- hW]at k⊢;obtain⟨R,ad⟩:∃R,R=V.heap.size+1:=⟨_,rfl⟩;obtain⟨d,ae⟩:∃d,d=V.heap.size:=⟨_,rfl⟩;rw[<- ad,<- ae]at k;rw[<- ad,<- ae];clear hW bf a5 az ay ax aw
 have cl:∀{B:Fn} {W:J},ISt D w0 p sp l (box 350 5 R (b5V b (S A (N b.takes) z) (S t (N b.results) r))::box 350 5 d z5::ks) B W->(W.cell? ⟨R,0,none⟩=some (S A (N b.takes) z)/\W.cell? ⟨R,1,none⟩=some (U O b.height)/\W.cell? ⟨R,2,none⟩=some (U O b.op)/\W.cell? ⟨R,3,none⟩=some (S t (N b.results) r)/\W.cell? ⟨R,4,none⟩=some (G b.dead)) /\
     (W.cell? ⟨d,0,none⟩=some (S none 0 0)/\W.cell? ⟨d,1,none⟩=some (U O 0)/\W.cell? ⟨d,2,none⟩=some (U O 0)/\W.cell? ⟨d,3,none⟩=some (S none 0 0)/\W.cell? ⟨d,4,none⟩=some (G false)) /\
     (W.frozen? ⟨d,0,none⟩=false/\W.frozen? ⟨d,1,none⟩=false/\W.frozen? ⟨d,2,none⟩=false/\W.frozen? ⟨d,3,none⟩=false/\W.frozen? ⟨d,4,none⟩=false):=λhI=>by
  have a:=λj u hj hu=>hI.mo.b0 j (u:=u) hj hu;have b:=λj u hj hu=>hI.mo.tail.b0 j (u:=u) hj hu
  exact⟨⟨(a 0 _ (by omega) rfl).1,(a 1 _ (by omega) rfl).1,(a 2 _ (by omega) rfl).1,(a 3 _ (by omega) rfl).1,(a 4 _ (by omega) rfl).1⟩,⟨(b 0 _ (by omega) rfl).1,(b 1 _ (by omega) rfl).1,(b 2 _ (by omega) rfl).1,(b 3 _ (by omega) rfl).1,(b 4 _ (by omega) rfl).1⟩,(b 0 _ (by omega) rfl).2,(b 1 _ (by omega) rfl).2,(b 2 _ (by omega) rfl).2,(b 3 _ (by omega) rfl).2,(b 4 _ (by omega) rfl).2⟩
 obtain⟨⟨a0,a1,a2,a3,a4⟩,_,_⟩:=cl k.o;have L:=Hm (ipopAll_c (S t (N b.results) r) b.results k.o ((a6.o.cons _).cons _) hi.o ao aa bg (by omega));clear ad ae;go_wp2_with fail
 refine L.o.mono ?_;intro e w1 hp;rcases hp.cases with ⟨f,X,rfl,hb⟩|⟨B,X,rfl,H⟩
 . (have I:Hid (Qw s=.error f):=by show Qw s=_;simp only[Qw,<- af.o,X];rfl);have C:=λj u hj hu=>hb.tail.b0 j (u:=u) hj hu;have z0:=(C 0 _ (by omega) rfl).1;have z1:=(C 1 _ (by omega) rfl).1;have z2:=(C 2 _ (by omega) rfl).1;have z3:=(C 3 _ (by omega) rfl).1;have z4:=(C 4 _ (by omega) rfl).1;have y0:=(C 0 _ (by omega) rfl).2;have y1:=(C 1 _ (by omega) rfl).2;have y2:=(C 2 _ (by omega) rfl).2;have y3:=(C 3 _ (by omega) rfl).2;have y4:=(C 4 _ (by omega) rfl).2;have m:=Hm (put5m hb.tail (S none 0 0) (U O 0) (U O 0) (S none 0 0) (G false));clear hp X L k a0 a1 a2 a3 a4 C hb;go_wp2;refine Qv (λW=>Mo D w0 ks W/\W.cell? ⟨d,0,none⟩=some (S none 0 0)/\W.cell? ⟨d,1,none⟩=some (U O 0)/\W.cell? ⟨d,2,none⟩=some (U O 0)/\W.cell? ⟨d,3,none⟩=some (S none 0 0)/\W.cell? ⟨d,4,none⟩=some (G false)) ⟨m.o.1,m.o.2 _ rfl⟩ ?_;rintro W' ⟨E,u0,u1,u2,u3,u4⟩;exact bodyPost_ret (v:=.tuple #[Ag #[S none 0 0,U O 0,U O 0,S none 0 0,G false],flt f]) (by simp[results,results253,go_sem,u0,u1,u2,u3,u4]) rfl (.inl ⟨f,I.o,rfl,E⟩)
 obtain⟨b1,b2,b3,b4,b5⟩:=Jt X hi.o;have q:B.blocks=y++[b]:=by rw[b1];exact bz.o
 obtain⟨⟨a0,a1,a2,a3,a4⟩,⟨z0,z1,z2,z3,z4⟩,⟨y0,y1,y2,y3,y4⟩⟩:=cl H;obtain⟨c5,c4,g',c',dd,c0,c6,Y,dc,hf,ap,c3,c2⟩:=H.opn q;obtain⟨q0,q4,q5,f4,f5,_,_,_,_,_,_⟩:=opn_cells Y ap;by_cases hh:N B.stack=b.height
 . (have k1:((N B.stack:Int) != (b.height:Int))=false:=by simp[hh]);(have I:Hid (Qw s=.ok (b,{ B with blocks:=B.blocks.dropLast })):=by show Qw s=_;simp only[Qw,<- af.o,X];simp[Except.bind,hh]);have HM:Hid (∀n,ISt D w0 p sp l (box 350 5 R (b5V b (S A (N b.takes) z) (S t (N b.results) r))::box 350 5 d z5::ks) { B with blocks:=B.blocks.dropLast } ((w1.drewN n).setCell ⟨p,5,none⟩ (S (some ⟨g',0,none⟩) (N y) c'))):=λn=>ISt.lessB q (Y.drewN n) hf ap;(have hw:IntKind.i64.wrap (((N y+1:Nat):Int)-1)=N y:=by rw[Kv];omega);(have i1:(N y:Int)<=(c':Int):=by omega);clear hp X L k hh Y hf b1 b2 b3 b5 q H;go_wp2;(go_quiet (fail));go_wp2;(go_region);(go_upto_region 8 with fail);obtain⟨W8,au⟩:∃W8,W8=(w1.drewN (nq+1)).setCell ⟨p,5,none⟩ (S (some ⟨g',0,none⟩) (N y) c'):=⟨_,rfl⟩;have M:=Hm (HM.o (nq+1));rw[<- au]at M⊢;obtain⟨⟨a0,a1,a2,a3,a4⟩,⟨z0,z1,z2,z3,z4⟩,⟨y0,y1,y2,y3,y4⟩⟩:=cl M.o;have m:=Hm (put5m (M.o.mo.tail) (S A (N b.takes) z) (U O b.height) (U O b.op) (S t (N b.results) r) (G b.dead));have bv:=Hm (ISt.put5 (M.o.un rfl) rfl (S A (N b.takes) z) (U O b.height) (U O b.op) (S t (N b.results) r) (G b.dead));clear au HM;go_wp2;refine Qv (λW=>ISt D w0 p sp l ks { B with blocks:=B.blocks.dropLast } W/\W.cell? ⟨d,0,none⟩=some (S A (N b.takes) z)/\W.cell? ⟨d,1,none⟩=some (U O b.height)/\W.cell? ⟨d,2,none⟩=some (U O b.op)/\W.cell? ⟨d,3,none⟩=some (S t (N b.results) r)/\W.cell? ⟨d,4,none⟩=some (G b.dead)) ⟨bv.o,m.o.2 _ rfl⟩ ?_;rintro W' ⟨E,u0,u1,u2,u3,u4⟩;exact bodyPost_ret (v:=.tuple #[Ag #[S A (N b.takes) z,U O b.height,U O b.op,S t (N b.results) r,G b.dead],Nf]) (by simp[results,results253,go_sem,u0,u1,u2,u3,u4]) rfl (.inr ⟨b,_,_,_,I.o,rfl,E,bu.o,a6.o⟩)
 have k1:((N B.stack:Int) != (b.height:Int))=true:=by simp;omega
 have I:Hid (Qw s=.error 6):=by show Qw s=_;simp only[Qw,<- af.o,X];simp[Except.bind,hh]
 have bw:=Hm H.mo;clear hp X L k hh Y hf b1 b2 b3 b5 q H;go_upto_region 5 with fail
 go_quiet (fail)
 go_upto_region 6 with fail
 have m:=Hm (put5m (bw.o.tail.drewN nq) (S none 0 0) (U O 0) (U O 0) (S none 0 0) (G false));go_wp2;refine Qv (λW=>Mo D w0 ks W/\W.cell? ⟨d,0,none⟩=some (S none 0 0)/\W.cell? ⟨d,1,none⟩=some (U O 0)/\W.cell? ⟨d,2,none⟩=some (U O 0)/\W.cell? ⟨d,3,none⟩=some (S none 0 0)/\W.cell? ⟨d,4,none⟩=some (G false)) ⟨m.o.1,m.o.2 _ rfl⟩ ?_;rintro W' ⟨E,u0,u1,u2,u3,u4⟩;exact bodyPost_ret (v:=.tuple #[Ag #[S none 0 0,U O 0,U O 0,S none 0 0,G false],flt 6]) (by simp[results,results253,go_sem,u0,u1,u2,u3,u4]) rfl (.inl ⟨6,I.o,rfl,E⟩)
theorem Own.two {d c:Qc}(l:d.Ok B W)(j:c.Ok B W)(hd:∀i,d.v.ownBlock=some i->c.v.ownBlock≠some i):Own B W [d,c]:=by
 have:=(Own.one l).app (Own.one j) (fun k hk hk2=>by
  obtain⟨a,g,e⟩:=Jg.1 hk;obtain⟨b,f,m⟩:=Jg.1 hk2
  simp at g f;subst g f
  exact hd k e m)
 simpa using this
theorem ok_nil (B:Nat)(W:J):Qc.Ok B W ⟨2,1,0,S none 0 0,I []⟩:=World.ownsRow_nil W B 2 1
theorem ok_one {W0:J}(v:Int)(b:B<=W0.heap.size)(a:Below (W0.alloc (Fc #[U O v] 2)).heap.size (W0.alloc (Fc #[U O v] 2)) W):Qc.Ok B W ⟨2,1,1,S (some ⟨W0.heap.size,0,none⟩) 1 1,I [v]⟩ :=
 Qc.Ok.keep' (World.ownsRow_lit (base:=B) (e:=2) (size:=1) W0 #[U O v] 1 b (by unfold maxLen;omega) rfl) a
theorem ivar_32 (v:Int)(w:J):Ec Q 257 #[U O 32,U O v] w (FtN w ⟨[],[v]⟩):=by
 go_enter func257,ntmps257;go_wp2;refine Qv (λW=>(W.cell? ⟨w.heap.size,0,none⟩=some (S none 0 0)/\W.cell? ⟨w.heap.size,1,none⟩=some (S (some ⟨w.heap.size+1+1,0,none⟩) 1 1))/\Own w.heap.size W [⟨2,1,([]:List Int).length,S none 0 0,I []⟩,⟨2,1,([v]:List Int).length,S (some ⟨w.heap.size+1+1,0,none⟩) 1 1,I [v]⟩]/\Below w.heap.size w W) ⟨⟨Qd (Qd (Qf rfl rfl)),Qd (Qd (Qf rfl rfl))⟩,Own.two (ok_nil _ _) (by have:=ok_one (B:=w.heap.size) (W0:=((w.alloc (Fc #[S none 0 0,S (some ⟨w.heap.size+1+1,0,none⟩) 1 1] 148)).alloc (Fc #[S none 0 0,S (some ⟨w.heap.size+1+1,0,none⟩) 1 1] 148))) (W:=(((w.alloc (Fc #[S none 0 0,S (some ⟨w.heap.size+1+1,0,none⟩) 1 1] 148)).alloc (Fc #[S none 0 0,S (some ⟨w.heap.size+1+1,0,none⟩) 1 1] 148)).alloc (Fc #[U O v] 2))) v (by simp;omega) bFz;simpa using this) (λi b a=>by simp[Hg]at b a),((bFz.alloc lRz _).alloc (by simp) _).alloc (by simp;omega) _⟩ ?_;rintro W ⟨⟨d,c⟩,b,a⟩;exact bodyPost_ret (v:=Ag #[S none 0 0,S (some ⟨w.heap.size+1+1,0,none⟩) 1 1]) (by simp[results,results257,go_sem,d,c]) rfl ⟨_,_,rfl,b,a⟩
theorem ivar_33 (v:Int)(w:J):Ec Q 257 #[U O 33,U O v] w (FtN w ⟨[v],[]⟩):=by
 go_enter func257,ntmps257;go_wp2;refine Qv (λW=>(W.cell? ⟨w.heap.size,0,none⟩=some (S (some ⟨w.heap.size+1+1,0,none⟩) 1 1)/\W.cell? ⟨w.heap.size,1,none⟩=some (S none 0 0))/\Own w.heap.size W [⟨2,1,([v]:List Int).length,S (some ⟨w.heap.size+1+1,0,none⟩) 1 1,I [v]⟩,⟨2,1,([]:List Int).length,S none 0 0,I []⟩]/\Below w.heap.size w W) ⟨⟨Qd (Qd (Qf rfl rfl)),Qd (Qd (Qf rfl rfl))⟩,Own.two (by have:=ok_one (B:=w.heap.size) (W0:=((w.alloc (Fc #[S (some ⟨w.heap.size+1+1,0,none⟩) 1 1,S none 0 0] 148)).alloc (Fc #[S (some ⟨w.heap.size+1+1,0,none⟩) 1 1,S none 0 0] 148))) (W:=(((w.alloc (Fc #[S (some ⟨w.heap.size+1+1,0,none⟩) 1 1,S none 0 0] 148)).alloc (Fc #[S (some ⟨w.heap.size+1+1,0,none⟩) 1 1,S none 0 0] 148)).alloc (Fc #[U O v] 2))) v (by simp;omega) bFz;simpa using this) (ok_nil _ _) (λi b a=>by simp[Hg]at b a),((bFz.alloc lRz _).alloc (by simp) _).alloc (by simp;omega) _⟩ ?_;rintro W ⟨⟨d,c⟩,b,a⟩;exact bodyPost_ret (v:=Ag #[S (some ⟨w.heap.size+1+1,0,none⟩) 1 1,S none 0 0]) (by simp[results,results257,go_sem,d,c]) rfl ⟨_,_,rfl,b,a⟩
theorem ivar_34 (v:Int)(w:J):Ec Q 257 #[U O 34,U O v] w (FtN w ⟨[v],[v]⟩):=by
 go_enter func257,ntmps257;go_wp2;refine Qv (λW=>(W.cell? ⟨w.heap.size,0,none⟩=some (S (some ⟨w.heap.size+1+1,0,none⟩) 1 1)/\W.cell? ⟨w.heap.size,1,none⟩=some (S (some ⟨w.heap.size+1+1+1,0,none⟩) 1 1))/\Own w.heap.size W [⟨2,1,([v]:List Int).length,S (some ⟨w.heap.size+1+1,0,none⟩) 1 1,I [v]⟩,⟨2,1,([v]:List Int).length,S (some ⟨w.heap.size+1+1+1,0,none⟩) 1 1,I [v]⟩]/\Below w.heap.size w W) ⟨⟨Qd (Qd (Qd (Qf rfl rfl))),Qd (Qd (Qd (Qf rfl rfl)))⟩,Own.two (by have:=ok_one (B:=w.heap.size) (W0:=((w.alloc (Fc #[S (some ⟨w.heap.size+1+1,0,none⟩) 1 1,S (some ⟨w.heap.size+1+1+1,0,none⟩) 1 1] 148)).alloc (Fc #[S (some ⟨w.heap.size+1+1,0,none⟩) 1 1,S (some ⟨w.heap.size+1+1+1,0,none⟩) 1 1] 148))) (W:=((((w.alloc (Fc #[S (some ⟨w.heap.size+1+1,0,none⟩) 1 1,S (some ⟨w.heap.size+1+1+1,0,none⟩) 1 1] 148)).alloc (Fc #[S (some ⟨w.heap.size+1+1,0,none⟩) 1 1,S (some ⟨w.heap.size+1+1+1,0,none⟩) 1 1] 148)).alloc (Fc #[U O v] 2)).alloc (Fc #[U O v] 2))) v (by simp;omega) (bFz.alloc lRz _);simpa using this) (by have:=ok_one (B:=w.heap.size) (W0:=((w.alloc (Fc #[S (some ⟨w.heap.size+1+1,0,none⟩) 1 1,S (some ⟨w.heap.size+1+1+1,0,none⟩) 1 1] 148)).alloc (Fc #[S (some ⟨w.heap.size+1+1,0,none⟩) 1 1,S (some ⟨w.heap.size+1+1+1,0,none⟩) 1 1] 148)).alloc (Fc #[U O v] 2)) (W:=((((w.alloc (Fc #[S (some ⟨w.heap.size+1+1,0,none⟩) 1 1,S (some ⟨w.heap.size+1+1+1,0,none⟩) 1 1] 148)).alloc (Fc #[S (some ⟨w.heap.size+1+1,0,none⟩) 1 1,S (some ⟨w.heap.size+1+1+1,0,none⟩) 1 1] 148)).alloc (Fc #[U O v] 2)).alloc (Fc #[U O v] 2))) v (by simp;omega) bFz;simpa using this) (λi b a=>by simp[Hg]at b a;omega),(((bFz.alloc lRz _).alloc (by simp) _).alloc (by simp;omega) _).alloc (by simp;omega) _⟩ ?_;rintro W ⟨⟨d,c⟩,b,a⟩;exact bodyPost_ret (v:=Ag #[S (some ⟨w.heap.size+1+1,0,none⟩) 1 1,S (some ⟨w.heap.size+1+1+1,0,none⟩) 1 1]) (by simp[results,results257,go_sem,d,c]) rfl ⟨_,_,rfl,b,a⟩
theorem ivar_35 (v:Int)(w:J):Ec Q 257 #[U O 35,U O v] w (FtN w ⟨[],[v]⟩):=by
 go_enter func257,ntmps257;go_wp2;refine Qv (λW=>(W.cell? ⟨w.heap.size,0,none⟩=some (S none 0 0)/\W.cell? ⟨w.heap.size,1,none⟩=some (S (some ⟨w.heap.size+1+1,0,none⟩) 1 1))/\Own w.heap.size W [⟨2,1,([]:List Int).length,S none 0 0,I []⟩,⟨2,1,([v]:List Int).length,S (some ⟨w.heap.size+1+1,0,none⟩) 1 1,I [v]⟩]/\Below w.heap.size w W) ⟨⟨Qd (Qd (Qf rfl rfl)),Qd (Qd (Qf rfl rfl))⟩,Own.two (ok_nil _ _) (by have:=ok_one (B:=w.heap.size) (W0:=((w.alloc (Fc #[S none 0 0,S (some ⟨w.heap.size+1+1,0,none⟩) 1 1] 148)).alloc (Fc #[S none 0 0,S (some ⟨w.heap.size+1+1,0,none⟩) 1 1] 148))) (W:=(((w.alloc (Fc #[S none 0 0,S (some ⟨w.heap.size+1+1,0,none⟩) 1 1] 148)).alloc (Fc #[S none 0 0,S (some ⟨w.heap.size+1+1,0,none⟩) 1 1] 148)).alloc (Fc #[U O v] 2))) v (by simp;omega) bFz;simpa using this) (λi b a=>by simp[Hg]at b a),((bFz.alloc lRz _).alloc (by simp) _).alloc (by simp;omega) _⟩ ?_;rintro W ⟨⟨d,c⟩,b,a⟩;exact bodyPost_ret (v:=Ag #[S none 0 0,S (some ⟨w.heap.size+1+1,0,none⟩) 1 1]) (by simp[results,results257,go_sem,d,c]) rfl ⟨_,_,rfl,b,a⟩
theorem ivar_36 (v:Int)(w:J):Ec Q 257 #[U O 36,U O v] w (FtN w ⟨[v],[]⟩):=by
 go_enter func257,ntmps257;go_wp2;refine Qv (λW=>(W.cell? ⟨w.heap.size,0,none⟩=some (S (some ⟨w.heap.size+1+1,0,none⟩) 1 1)/\W.cell? ⟨w.heap.size,1,none⟩=some (S none 0 0))/\Own w.heap.size W [⟨2,1,([v]:List Int).length,S (some ⟨w.heap.size+1+1,0,none⟩) 1 1,I [v]⟩,⟨2,1,([]:List Int).length,S none 0 0,I []⟩]/\Below w.heap.size w W) ⟨⟨Qd (Qd (Qf rfl rfl)),Qd (Qd (Qf rfl rfl))⟩,Own.two (by have:=ok_one (B:=w.heap.size) (W0:=((w.alloc (Fc #[S (some ⟨w.heap.size+1+1,0,none⟩) 1 1,S none 0 0] 148)).alloc (Fc #[S (some ⟨w.heap.size+1+1,0,none⟩) 1 1,S none 0 0] 148))) (W:=(((w.alloc (Fc #[S (some ⟨w.heap.size+1+1,0,none⟩) 1 1,S none 0 0] 148)).alloc (Fc #[S (some ⟨w.heap.size+1+1,0,none⟩) 1 1,S none 0 0] 148)).alloc (Fc #[U O v] 2))) v (by simp;omega) bFz;simpa using this) (ok_nil _ _) (λi b a=>by simp[Hg]at b a),((bFz.alloc lRz _).alloc (by simp) _).alloc (by simp;omega) _⟩ ?_;rintro W ⟨⟨d,c⟩,b,a⟩;exact bodyPost_ret (v:=Ag #[S (some ⟨w.heap.size+1+1,0,none⟩) 1 1,S none 0 0]) (by simp[results,results257,go_sem,d,c]) rfl ⟨_,_,rfl,b,a⟩
theorem iwithI32_c (pa)(l:Nat)(ps)(f:Option Addr)(c d:Nat)(w)(hp:Has w pa ps)(hl:N ps<=1099511627):Ec Q 256 #[Ag #[S pa (N ps) l,S f c d]] w λe w'=>∃v,e=Z (Ag #[v,S f c d])/\w'.ownsRow w.heap.size 2 1 v (ps++[127]).length (I (ps++[127]))/\Below w.heap.size w w':=by
 have HP:=Hm hp;clear hp;go_enter func256,ntmps256;go_upto_region 1 with fail
 obtain⟨W,r⟩:∃W,W=(w.alloc (Fc #[S pa (N ps) l,S f c d] 148)).alloc (Fc #[S none 0 0,S none 0 0] 148):=⟨_,rfl⟩;rw[<- r];have c0:W.cell? ⟨w.heap.size,0,none⟩=some (S pa (N ps) l):=by rw[r];exact Qd (Qf rfl rfl)
 have c1:W.cell? ⟨w.heap.size,1,none⟩=some (S f c d):=by rw[r];exact Qd (Qf rfl rfl)
 have q:W.heap.size=w.heap.size+1+1:=by rw[r];simp
 have k:Bk W (w.heap.size+1) [S none 0 0,S none 0 0]:=by have:=Bk.new (w:=w.alloc (Fc #[S pa (N ps) l,S f c d] 148)) (cs:=[S none 0 0,S none 0 0]) (t:=148);rw[r];simpa using this
 have s:Below w.heap.size w W:=by rw[r];exact(bFz.alloc lRz _).alloc (by simp) _
 have A:∀X:J,X.heap=((W.alloc (Fc #[U O 127] 2)).alloc (Fc #[S pa (N ps) l,S (some ⟨w.heap.size+1+1,0,none⟩) 1 1] 24)).heap->Below W.heap.size W X->Ec Q 261 #[S (some ⟨w.heap.size+1+1+1,0,none⟩) 2 2] X λe w'=>∃v,e=Z v/\w'.ownsRow X.heap.size 2 1 v (ps++[127]).length (I (ps++[127]))/\Below X.heap.size X w':=λX hX F=>by
  have R:∀a,X.cell? a=((W.alloc (Fc #[U O 127] 2)).alloc (Fc #[S pa (N ps) l,S (some ⟨w.heap.size+1+1,0,none⟩) 1 1] 24)).cell? a:=λa=>by simp only[World.cell?,hX]
  have y:(W.alloc (Fc #[U O 127] 2)).heap.size=w.heap.size+1+1+1:=by rw[World.size_alloc,q]
  exact concat_c (w.heap.size+1+1+1) pa (some ⟨w.heap.size+1+1,0,none⟩) l 1 ps [127] X ((R _).trans (Qf y.symm rfl)) ((R _).trans (Qf y.symm rfl)) ((HP.o.keep s).keep F) (.inr ⟨w.heap.size+1+1,0,rfl,fun i hi=>by
   have:i=0:=by simp at hi;omega
   subst this
   exact(R _).trans (Qd (Qf q.symm rfl))⟩) (by simp) (by simp;omega)
 have HX:=Hm A;have HK:=Hm k;have E:=Hm s;have D:=Hm q;have L:w.heap.size<W.heap.size:=by omega
 clear A k s r;have u:Hid (∀o1 o2,Below W.heap.size W ((W.alloc o1).alloc o2).drew):=λo1 o2=>(((Below.refl W.heap.size W).alloc lRz o1).alloc (by simp) o2).drew;have V:=Hm (HX.o (((W.alloc (Fc #[U O 127] 2)).alloc (Fc #[S pa (N ps) l,S (some ⟨w.heap.size+1+1,0,none⟩) 1 1] 24)).drew) rfl (u.o _ _))
 go_region_law (
  go_simp
  go_at_call 261
  refine V.o.mono ?_
  rintro e H ⟨v,rfl,own,F⟩;have g:Below W.heap.size W H:=(u.o _ _).trans (F.mono (u.o _ _).size);have d1:H.cell? ⟨w.heap.size,1,none⟩=some (S f c d):=(g.cell (p:=⟨w.heap.size,1,none⟩) L).trans c1;have b:=Hm (HK.o.keep g);have y0:=b.o.2.1 0 _ rfl;have y1:=b.o.2.1 1 _ rfl;have z0:=b.o.2.2 0;have z1:=b.o.2.2 1;have HO:=Hm own;have Y:=Hm g;obtain⟨n,m,rfl⟩:=Qh own;clear own F g)
 all_goals
  go_wp2
  refine Qv (λC=>(C.cell? ⟨w.heap.size+1,0,none⟩=some (S n (N ps+1) m)/\C.cell? ⟨w.heap.size+1,1,none⟩=some (S f c d))/\C.ownsRow w.heap.size 2 1 (S n (N ps+1) m) (ps++[127]).length (I (ps++[127]))/\Below w.heap.size w C) ?_ ?_
  . have B:=(b.o.set (j:=0) (v:=S n (N ps+1) m)).set (j:=1) (v:=S f c d)
    have M:∀k,(Tq n (N ps+1) m).ownBlock=some k->w.heap.size+1<k:=λk hk=>by
     have:=(World.ownsRow.lt HO.o k (by simpa using hk)).1
     simp[World.drew]at this;have:=D.o;omega
    have z:(Tq n (N ps+1) m).ownBlock≠some (w.heap.size+1):=λe=>by have:=M _ e;omega
    refine⟨⟨B.2.1 0 _ rfl,B.2.1 1 _ rfl⟩,?_,((E.o.trans (Y.o.mono E.o.size)).setCell (by show w.heap.size<=w.heap.size+1;omega) _).setCell (by show w.heap.size<=w.heap.size+1;omega) _⟩
    have ho:H.ownsRow w.heap.size 2 1 (S n (N ps+1) m) (ps++[127]).length (I (ps++[127])):=World.ownsRow.mono (by simpa using HO.o) (by have:=D.o;simp[World.drew];omega)
    exact Jf (Jf ho z) z
  . rintro C ⟨⟨u0,u1⟩,h1,h2⟩
    exact bodyPost_ret (v:=Ag #[S n (N ps+1) m,S f c d]) (by simp[results,results256,go_sem,u0,u1]) rfl ⟨_,rfl,h1,h2⟩
