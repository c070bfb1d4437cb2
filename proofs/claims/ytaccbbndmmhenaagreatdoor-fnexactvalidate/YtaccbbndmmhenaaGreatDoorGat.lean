import Derived.Test.YtaccbbndmmhenaaGreatDoorGan
import Derived.Maps.Own
import Derived.Maps.OwnOps
import Derived.Maps.OwnSet
set_option linter.all false
set_option maxHeartbeats 400000000
set_option maxRecDepth 100000
namespace Go.Proofs
open Value renaming int->U,slice->S,bool->G,pointer->Yp,string->Xs,agg->Ag,nilIface->Nf
open IntKind renaming i64->O,u64->Ou
open Ending renaming returned->Z
open Obj renaming cells->Fc
open Go renaming World->J,Calls->Ec,Value->Vu
open Tryz renaming prog->Q
open Tryz
open Nat renaming zero_le->Kz,le_trans->Ky
open World renaming ownsRow_nil->Hk,block_lt_of_cell?->Kk,cell?_of_block->Tz,putObj_heap_other->Yd
open List renaming getD->Kg,length->N
namespace YtaccbbndmmhenaaGreatDoor
open Go.RowKit Go.Sort
theorem sall_c (a)(c:Nat)(l:List Int)(w)(hn:N l<=1099511627776)(s:Has w a l):Ec Q 55 #[S a (N l) c] w λe w'=>e=Z (G (l.all QB))/\w=w':=by
 have p:=Hm s;clear s;go_enter func55,ntmps55;go_wp2_with fail
 go_loop [3] (λi=>∃k:Nat,k<=N l/\i=U O k/\∀j,j<k->QB (l.getD j 0)=true) (λi=>N l-(intOf i).toNat)
 case atStart=>exact⟨0,Kz _,rfl,λj h=>by omega⟩
 obtain⟨k,D,rfl,b⟩:=hrel;by_cases g:k<N l
 . (have A:(k:Int)<(N l:Int):=by omega);rcases p.o with v|⟨E,C,B,q⟩
   . subst v;simp at g
   have d:=q k g;subst B;have t:=Hm (X7 (l.getD k 0));generalize n:l.getD k 0=y at *;generalize m:QB y=z at *;cases z
   . have f:=Hm (Jb QB l 0 k g (by rw[n];exact m));clear b q n m p;(go_wp2_with (refine(t.o _).mono ?_;rintro e u ⟨rfl,rfl⟩));go_ret;exact⟨by rw[f.o];rfl,rfl⟩
   have r:Hid (∀j,j<k+1->QB (l.getD j 0)=true):=λj hj=>by
    rcases(by omega:j<k\/j=k)with h|h
    . exact b j h
    subst h;rw[n];exact m
   clear b q n m p;(go_wp2_with (refine(t.o _).mono ?_;rintro e u ⟨rfl,rfl⟩));(go_round);(case rel=>exact⟨k+1,by omega,by go_num,r.o⟩);case measure=>simp[intOf];omega
 have e:k=N l:=by omega
 subst e;have f:=Hm (JA QB l 0 b);clear b p;go_wp2;go_ret;exact⟨by rw[f.o];rfl,rfl⟩
theorem ssz_c (x:Mod)(C:Option Addr)(c1:Nat)(B:Option Addr)(c2:Nat)(A:Option Addr)(c3:Nat)(z:Option Addr)(c4:Nat)(y:Option Addr)(c5:Nat)(v:Option Addr)(q:Nat)(u:Option Addr)(p:Nat)(t:Option Addr)(n:Nat)(r:Option Addr)(m:Nat)(k:Option Addr)(f:Nat)(j:Option Addr)(d:Nat)(w:J)(I:x.Ln)(s:Int)(c:(if x.hasS then 1 else 0:Int)=s):Ec Q 22 #[Ag #[S C (N x.types) c1,S B (N x.imps) c2,S A (N x.funcs) c3,S z (N x.tabs) c4,S y (N x.mems) c5,S v (N x.globs) q,S u (N x.exps) p,G x.hasS,U O x.start,S t (N x.elems) n,S r (N x.codes) m,S k (N x.datas) f,S j (N x.customs) d]] w λe w'=>∃g,e=Z (S (some ⟨g,0,none⟩) 12 12)/\w.heap.size<=g/\Bk w' g [U O 0,U O (N x.types),U O (N x.imps),U O (N x.funcs),U O (N x.tabs),U O (N x.mems),U O (N x.globs),U O (N x.exps),U O s,U O (N x.elems),U O (N x.codes),U O (N x.datas)]/\Below w.heap.size w w':=by
 obtain⟨l1,l2,l3,l4,l5,l6,l7,l8,l9,H,F⟩:=I;go_enter func22,ntmps22;go_upto_region 1 with fail
 refine Qp (λW=>Bk W w.heap.size [S C (N x.types) c1,S B (N x.imps) c2,S A (N x.funcs) c3,S z (N x.tabs) c4,S y (N x.mems) c5,S v (N x.globs) q,S u (N x.exps) p,G x.hasS,U O x.start,S t (N x.elems) n,S r (N x.codes) m,S k (N x.datas) f,S j (N x.customs) d]/\Below w.heap.size w W) ⟨Bk.new,bFz.alloc lRz _⟩ ?_;rintro W ⟨a,b⟩;have q0:=a.2.1 0 _ rfl;have q1:=a.2.1 1 _ rfl;have q2:=a.2.1 2 _ rfl;have Y:=a.2.1 3 _ rfl;have X:=a.2.1 4 _ rfl;have V:=a.2.1 5 _ rfl;have R:=a.2.1 6 _ rfl;have M:=a.2.1 7 _ rfl;have L:=a.2.1 9 _ rfl;have E:=a.2.1 10 _ rfl;have D:=a.2.1 11 _ rfl;have l:=Hm c;clear c;generalize x.hasS=hs at *;cases hs
 . (have e:Hid (s=0):=by show s=_;have:=l.o;simpa using this.symm);clear l;go_wp2;go_ret;rw[e.o];exact⟨W.heap.size,rfl,b.size,Bk.new,b.trans (((Below.refl _ W).alloc lRz _).mono b.size)⟩
 have e:Hid (s=1):=by show s=_;have:=l.o;simpa using this.symm
 clear l;go_wp2;go_ret;rw[e.o];exact⟨W.heap.size,rfl,b.size,Bk.new,b.trans (((Below.refl _ W).alloc lRz _).mono b.size)⟩
end YtaccbbndmmhenaaGreatDoor
namespace YtaccbbndmmhenaaGreatDoor.Va
open Go.RowKit Go.Sort
variable {x:Ctx}{go fo bd:Int}{w0 V w' w:J}{ks:List Qc}{D q b:Nat}{nv:Vu}
theorem perm321 (a b c:Qc)(ks:List Qc):(c::b::a::ks).Perm (a::b::c::ks):=by
 classical
 rw[List.perm_iff_count];intro x;simp[List.count_cons];omega
def BnP (D:Nat)(w0:J)(sp:Vu)(rs:List Qc)(t:Qe)(gs:List Grp)(e:Ending)(w':J):Prop:=∃p l ns,e=Z (Yp (some ⟨p,0,none⟩))/\ISt D w0 p sp l (ns++rs) (fn0 t gs) w'/\JS D w0 (ns++rs) l t.ps gs
theorem ibodyNew_c {D w0 V rs}(q:Nat)(pv rv:Vu)(t:Qe)(g:Option Addr)(m:Nat)(gs:List Grp)(L:Mo D w0 rs V)(R:Ty D w0 rs pv t.ps)(M:Ty D w0 rs rv t.rs)(hg:GrL D w0 g gs)(X:N t.ps<=1048577)(aa:N gs<=1048577)(hs:∀k,k<=N gs->0<=QL (gs.take k)/\QL (gs.take k)<=4503599627370496*4):Ec Q 222 #[Yp (some ⟨q,0,none⟩),Ag #[pv,rv],S g (N gs) m] V (BnP D w0 (Yp (some ⟨q,0,none⟩)) rs t gs):=by
 obtain⟨b,a,rfl,_⟩:=R.has0 L;obtain⟨v,s,rfl,_⟩:=M.has0 L;have l:=L.box (cur:=#[S b (N t.ps) a,S v (N t.rs) s]) 148 2 rfl;obtain⟨W,hW⟩:∃W,W=V.alloc (Fc #[S b (N t.ps) a,S v (N t.rs) s] 148):=⟨_,rfl⟩;obtain⟨B,hB⟩:∃B,B=V.heap.size:=⟨_,rfl⟩;rw[<- hW,<- hB]at l;have c0:=(l.b0 0 (u:=S b (N t.ps) a)).1;have E:=Hm (ilocNew_c b g (N t.ps) a m gs l hg X aa hs);have ah:=Hm R;have ag:=Hm M;have HG:=Hm hg;clear L l R M hg hs;go_enter func222,ntmps222;go_upto_region 1 with fail
 rw[<- hW,<- hB];clear hW hB;go_wp2_with fail
 refine E.o.mono ?_;rintro e A ⟨n,rfl,j⟩;have H:A.ownsRow D 2 1 n (QQ (N t.ps) gs).length (I (QQ (N t.ps) gs)):=j.row (r:=⟨2,1,_,n,_⟩) (by simp);obtain⟨ea,ec,C⟩:=Qh H;have d0:=(j.tail.b0 1 (u:=S v (N t.rs) s)).1;have y:=j.box (cur:=#[Yp (some ⟨q,0,none⟩),S b (N t.ps) a,S g (N gs) m,n,S none 0 0,S none 0 0]) 337 6 rfl;obtain⟨ks,d⟩:∃ks:List Qc,ks=⟨2,1,(QQ (N t.ps) gs).length,n,I (QQ (N t.ps) gs)⟩::box 148 2 B [S b (N t.ps) a,S v (N t.rs) s]::rs:=⟨_,rfl⟩;rw[<- d]at y;have c:∀r∈rs,r∈ks:=λr H=>by rw[d];simp[H]
 have z:ISt D w0 A.heap.size (Yp (some ⟨q,0,none⟩)) ⟨S b (N t.ps) a,S g (N gs) m,n⟩ ks ⟨t.ps,gs,[],[]⟩ (A.alloc (Fc #[Yp (some ⟨q,0,none⟩),S b (N t.ps) a,S g (N gs) m,n,S none 0 0,S none 0 0] 337)):=by refine⟨S none 0 0,S none 0 0,[],?_,rfl⟩;have h1:=(y.new (ns:=[⟨2,1,0,S none 0 0,[]⟩]) bFz (Own.one (Hk _ _ 2 1))).new (ns:=[⟨350,5,0,S none 0 0,[]⟩]) bFz (Own.one (Hk _ _ _ 5));exact h1.perm (perm321 _ _ _ _)
 obtain⟨W2,f⟩:∃W2,W2=A.alloc (Fc #[Yp (some ⟨q,0,none⟩),S b (N t.ps) a,S g (N gs) m,n,S none 0 0,S none 0 0] 337):=⟨_,rfl⟩;obtain⟨p,Y⟩:∃p,p=A.heap.size:=⟨_,rfl⟩;rw[<- f,<- Y]at z;have d1:W2.cell? ⟨B,1,none⟩=some (S v (N t.rs) s):=by rw[f];exact Qd d0
 have aj:=Hm (ibegin_c 2 (S v (N t.rs) s) t.rs z (ag.o.sub c) (by simp) (by simp));have ai:Hid (JS D w0 ks ⟨S b (N t.ps) a,S g (N gs) m,n⟩ t.ps gs):=⟨ah.o.sub c,⟨g,m,rfl,HG.o⟩,.inr (by rw[d];simp)⟩;have F:=Hm d;rw[C]at f;subst C;clear j y H z c d d0 E;go_upto_region 2 with fail
 rw[<- f,<- Y];clear f Y;go_wp2_with (go_at_call 228;refine aj.o.mono ?_;rintro e w3 ⟨rfl,ad⟩)
 go_ret;refine⟨p,⟨S b (N t.ps) a,S g (N gs) m,S ea (QQ (N t.ps) gs).length ec⟩,[⟨2,1,(QQ (N t.ps) gs).length,S ea (QQ (N t.ps) gs).length ec,I (QQ (N t.ps) gs)⟩,box 148 2 B [S b (N t.ps) a,S v (N t.rs) s]],rfl,?_,?_⟩
 . have:=ad;rw[F.o]at this;exact this
 have:=ai.o;rw[F.o]at this;exact this
def ClP (D:Nat)(w0:J)(ks:List Qc)(r:Except (Int × Nat) (List Int))(e:Ending)(w':J):Prop:=(∃f k,r=.error (f,k)/\e=Z (atIns k (flt f))/\Mo D w0 ks w')\/∃g,r=.ok g/\e=Z Nf/\Mo D w0 ks w'
theorem listC_drop (x:Ctx)(go want:Int)(g:List Int)(xs:List In)(k:Nat)(h:k<N xs):QS x go want g k (xs.drop k)=match Xe x go want g (xs.getD k I0)with|.error e=>.error (e,k)|.ok g'=>QS x go want g' (k+1) (xs.drop (k+1)):=by
 rw[Xv xs k h,QS];cases Xe x go want g (xs.getD k I0)<;>rfl
theorem cstep_len {want:Int}{g a:List Int}{y:In}(h:Xe x go want g y=.ok a):N a<=N g+1:=by
 unfold Xe at h;split at h
 . cases h;have:=(oty_len y.op).2;simp at this⊢;omega
 split at h
 . unfold XC at h;split at h
   . cases h
   split at h
   . cases h
   cases h;simp
 split at h
 . split at h
   . cases h;omega
   cases h
 cases h
theorem ilistC_c {p:Nat}{want:Int}{m:Spc}(a:Option Addr)(c:Nat)(xs:List In)(h:CSt D w0 p (Yp (some ⟨q,0,none⟩)) want ks [] V)(C:SpR D w0 q x fo go bd m ks)(L:go<=N x.globals)(hL:InL D w0 a xs)(hI:∀y∈xs,InB y)(av:N xs<=1048576):Ec Q 200 #[S a (N xs) c,.func (.func 201) #[Yp (some ⟨p,0,none⟩)] #[]] V (ClP D w0 ks (QS x go want [] 0 xs)):=by
 obtain⟨M,R⟩:∃M,M=QS x go want [] 0 xs:=⟨_,rfl⟩;rw[<- R];have HS:=Hm h;have aa:=Hm C;have HL:=Hm hL;have A:=Hm hI;have z:=Hm R;clear h C hL hI R;go_enter func200,ntmps200;go_wp2;go_loopw [10] (λi wr=>∃(k:Nat) (g:List Int),k<=N xs/\i=U O k/\CSt D w0 p (Yp (some ⟨q,0,none⟩)) want ks g wr/\N g<=k/\M=QS x go want g k (xs.drop k)) (λi _=>N xs-(intOf i).toNat)
 case atStart=>exact⟨0,[],Kz _,rfl,HS.o,lRz,z.o⟩
 obtain⟨k,g,hk,rfl,j,az,d⟩:=hrel;by_cases r:k<N xs
 . (have ay:(k:Int)<(N xs:Int):=by omega);rcases HL.o with hx|⟨b,off,X,hb,hc⟩
   . subst hx;simp at r
   subst X;obtain⟨I,H,c0,c1,c2,c3,c4,tL⟩:=hc k r;have s:=A.o (xs.getD k I0) (by simp[Kg,r]);have E:=j.mo.b;have B:=λ(o:Nat) (u:Vu) (hu:w0.cell? ⟨b,o,none⟩=some u)=>(E.cell (p:=⟨b,o,none⟩) hb).trans hu;have d0:=B _ _ c0;have d1:=B _ _ c1;have d2:=B _ _ c2;have d3:=B _ _ c3;have d4:=B _ _ c4;rw[listC_drop x go want g xs k r]at d;obtain⟨y,hy⟩:∃y,y=xs.getD k I0:=⟨_,rfl⟩;rw[<- hy]at d0 d1 d2 d3 d4 tL s d;obtain⟨W,F⟩:∃W,W=wr.alloc (Fc #[U O y.op,U O y.a,U O y.b,U Ou y.v,S I (N y.l) H] 204):=⟨_,rfl⟩;(have ba:Below wr.heap.size wr W:=by rw[F];exact bFz.alloc lRz _);(have kk:C5 W wr.heap.size 0 (U O y.op) (U O y.a) (U O y.b) (U Ou y.v) (S I (N y.l) H):=by rw[F];exact C5.new);obtain⟨⟨f0,f1,f2,f3,f4⟩,cf⟩:=kk;have Y:=Hm (icstep_c y I H (j.keep ba) aa.o s.a0 L (by omega));have t:=Hm d;clear j d hc c0 c1 c2 c3 c4 tL s hy ba cf E B HL A HS z;(go_upto_region 4 with fail);rw[<- F];clear F;(go_wp2_with fail);refine Y.o.mono ?_;rintro e w2 (⟨f,hr,rfl,hb2⟩|⟨g2,hr,rfl,hI2⟩)
   . (have n:Hid (M=.error (f,k)):=by show M=_;rw[t.o,hr]);clear hr;go_wp2;go_ret;exact .inl ⟨f,k,n.o,rfl,hb2⟩
   (have n:Hid (M=QS x go want g2 (k+1) (xs.drop (k+1))):=by show M=_;rw[t.o,hr]);have ax:=cstep_len hr;have ae:=Hm hI2;clear hr t hI2;go_wp2;(go_roundw);(case rel=>exact⟨k+1,g2,by omega,by go_num,ae.o,by omega,n.o⟩);case measure=>simp[intOf];omega
 have e:k=N xs:=by omega
 subst e;have n:Hid (M=.ok g):=by show M=_;rw[d,List.drop_of_length_le lRz];rfl
 have ac:=Hm j.mo;clear j d HL A HS z;go_wp2;go_ret;exact .inr ⟨g,n.o,rfl,ac.o⟩
abbrev Er:=Int × Option Nat
def erV:Er->Vu
 |(f,none)=>flt f
 |(f,some k)=>atIns k (flt f)
def SeP (D:Nat)(w0:J)(q:Nat)(ks:List Qc)(nv:Vu)(r:Except Er (Ctx × Int × Int × Int))(e:Ending)(w':J):Prop:=(∃er,r=.error er/\e=Z (erV er)/\Below D w0 w'/\D<=w'.heap.size)\/∃x fo go bd,r=.ok (x,fo,go,bd)/\e=Z Nf/\SSt D w0 q x fo go bd nv ks w'
def lift (r:R (Ctx × Int × Int × Int)):Except Er (Ctx × Int × Int × Int):=match r with|.error f=>.error (f,none)|.ok x=>.ok x
theorem SsP.se {r:R (Ctx × Int × Int × Int)}{e:Ending}(h:SsP D w0 q ks nv r e w'):SeP D w0 q ks nv (lift r) e w':=by
 rcases h with ⟨f,a,b,c⟩|⟨x,fo,go,bd,a,b,c⟩
 . exact .inl ⟨(f,none),by rw[a];rfl,b,c⟩
 exact .inr ⟨x,fo,go,bd,by rw[a];rfl,b,c⟩
def globM (x:Ctx)(fo go bd:Int)(y:Qn):Except Er (Ctx × Int × Int × Int):=match QS x go y.ty.ty [] 0 y.ini with
 |.error (f,k)=>.error (f,some k)
 |.ok _=>.ok ({ x with globals:=x.globals++[y.ty] },fo,go,bd)
theorem iglobal_c (d:Int)(j:Bool)(a:Option Addr)(c:Nat)(xs:List In)(h:SSt D w0 q x fo go bd nv ks V)(ae:go<=N x.globals)(hL:InL D w0 a xs)(hI:∀y∈xs,InB y)(ac:N xs<=1048576)(a2:N x.globals<=4194304):Ec Q 170 #[Yp (some ⟨q,0,none⟩),Ag #[U O d,G j,S a (N xs) c]] V (SeP D w0 q ks nv (globM x fo go bd ⟨⟨d,j⟩,xs⟩)):=by
 obtain⟨i0,hi,ab,aa,Y⟩:=info_parts info145;obtain⟨m,e,z,hf⟩:=h;subst e;have F:=(z.box (cur:=#[U O d,G j,S a (N xs) c]) 151 3 rfl);obtain⟨X,t⟩:∃B,B=V.heap.size:=⟨_,rfl⟩;have s:=F.box (cur:=#[Yp (some ⟨q,0,none⟩),U O d,S none 0 0]) 321 3 rfl;obtain⟨W,hW⟩:∃W,W=(V.alloc (Fc #[U O d,G j,S a (N xs) c] 151)).alloc (Fc #[Yp (some ⟨q,0,none⟩),U O d,S none 0 0] 321):=⟨_,rfl⟩;have E:(V.alloc (Fc #[U O d,G j,S a (N xs) c] 151)).heap.size=X+1:=by rw[t];simp
 rw[<- hW,E,<- t]at s;have hC:CSt D w0 (X+1) (Yp (some ⟨q,0,none⟩)) d (box 151 3 X [U O d,G j,S a (N xs) c]::(Q6 q x m fo go bd++ks)) [] W:=by refine⟨S none 0 0,?_⟩;exact(s.new (ns:=[⟨2,1,0,S none 0 0,[]⟩]) bFz (Own.one (Hk W _ 2 1))).perm (List.Perm.swap _ _ _)
 have v:SpR D w0 q x fo go bd m (box 151 3 X [U O d,G j,S a (N xs) c]::(Q6 q x m fo go bd++ks)):=(SSt.spr (q:=q) (fo:=fo) (go:=go) (bd:=bd) (ks:=ks) hf).sub (λr hr=>mC hr);have HL:=Hm (ilistC_c a c xs hC v ae hL hI ac);have e2:=(s.tail.b0 2 (u:=S a (N xs) c)).1;have M:=Hm hf;clear z F s hC v hL hI hf;go_enter func170,ntmps170;go_upto_region 2 with fail
 rw[<- hW,<- t];clear hW t E;go_wp2_with fail
 refine HL.o.mono ?_;rintro e w1 (⟨f,k,hr,rfl,hb⟩|⟨g,hr,rfl,hmo⟩)
 . (have C:Hid (globM x fo go bd ⟨⟨d,j⟩,xs⟩=.error (f,some k)):=by show globM _ _ _ _ _=_;simp only[globM,hr]);have R:=Hm (⟨hb.b,hb.le⟩:Below D w0 w1/\D<=w1.heap.size);clear hr hb HL;go_wp2;go_ret;exact .inl ⟨(f,some k),C.o,rfl,R.o⟩
 have C:Hid (globM x fo go bd ⟨⟨d,j⟩,xs⟩=.ok ({ x with globals:=x.globals++[⟨d,j⟩] },fo,go,bd)):=by show globM _ _ _ _ _=_;simp only[globM,hr]
 have d0:=(hmo.b0 0 (u:=U O d)).1;have d1:=(hmo.b0 1 (u:=G j)).1;have z:=hmo.tail;obtain⟨r0,r1,r2,r3,r4⟩:=(SSt.spr (q:=q) (fo:=fo) (go:=go) (bd:=bd) (ks:=ks) M.o).cells z;have l:w1.ownsRow D 145 2 m.gv (N x.globals) m.gcs:=z.row (r:=⟨145,2,N x.globals,m.gv,m.gcs⟩) (by simp);obtain⟨L,I,p⟩:=Qh l;rw[p]at r4 l;have OW:=Hm l;have ad:=z.le;have R:Hid (∀o,Below w1.heap.size w1 ((w1.alloc o).drew)):=λo=>⟨rfl,rfl,rfl,by show w1.heap.size<=(w1.alloc o).heap.size;simp,λk hk=>QM w1 o k hk⟩;have HP:Hid (∀V1 W' v',Below w1.heap.size w1 V1->W'.ownsRow D 145 2 v' (N x.globals+1) (m.gcs++[U O d,G j])->V1.grownBy W' (Value.slice L (N x.globals) I).ownBlock->(v'.ownBlock=(Value.slice L (N x.globals) I).ownBlock\/v'.ownBlock=some V1.heap.size)->(W'.cell? ⟨q,4,none⟩=some (S L (N x.globals) I)/\W'.frozen? ⟨q,4,none⟩=false)/\SSt D w0 q { x with globals:=x.globals++[⟨d,j⟩] } fo go bd m.nv ks (W'.setCell ⟨q,4,none⟩ v')):=λV1 W' v' hb ho hg hl=>by have:=SSt.pushG (y:=⟨d,j⟩) z hb ho (by rw[p];exact hg) (by rw[p];exact hl) ⟨M.o.tt,M.o.ft,by rw[gCs_snoc,<- M.o.gt]⟩;rw[p]at this;exact this
 have kd:∀o,(w1.alloc o).cell? ⟨q,4,none⟩=some (S L (N x.globals) I):=λo=>Qd r4;clear hr hmo z p l r0 r1 r2 r3 HL e2;go_upto_region 5 with fail
 go_region_law (first
  | (
   refine Qt rfl (.tmp 23) (.tmp 26) 64 rfl D 145 i0 (Ag #[U O 0,G false]) 2 16 underlying64 hi ab aa Y rfl (by decide) (S L (N x.globals) I) (N x.globals) m.gcs (by first|rfl|simp[Act.eval,Act.put]) (World.ownsRow.alloc OW.o _) ⟨w1.heap.size,0,none⟩ 1 1 [U O d,G j] (by first|rfl|simp[Act.eval,Act.put]) (by first|rfl|simp) (Jn w1 [U O d,G j] 145) (one2 rfl rfl) (by unfold maxLen;omega) (by omega) (Ky ad (R.o _).size) ?_
   intro v2 w5 n H A
   have HQ:=Hm (HP.o _ w5 v2 (R.o _) n H A);have a5:=HQ.o.1.1;have a4:=HQ.o.1.2;obtain⟨au,ar,rfl⟩:=Qh n;clear n H A))
 all_goals
  go_wp2_with fail
  go_ret
  exact .inr ⟨_,_,_,_,C.o,rfl,HQ.o.2⟩
theorem ibody_c (h:SSt D w0 q x fo go bd nv ks V)(b b0:Nat)(ae:fo=b)(ag:bd=b0)(hj:b+b0<N x.funcs)(af:N x.funcs<=4194304)(X:Option Addr)(gc:Nat)(gs:List Grp)(hg:GrL D w0 X gs)(t:(x.funcs.getD (b+b0) Qe.z).ps.length<=1048577)(A:N gs<=1048577)(hs:∀k,k<=N gs->0<=QL (gs.take k)/\QL (gs.take k)<=4503599627370496*4):Ec Q 206 #[Yp (some ⟨q,0,none⟩),S X (N gs) gc] V λe w'=>∃m,m.nv=nv/\SpF D w0 x m/\BnP D w0 (Yp (some ⟨q,0,none⟩)) (Q6 q x m fo go (bd+1)++ks) (x.funcs.getD (b+b0) Qe.z) gs e w':=by
 subst ae ag;have HS:=Hm h;obtain⟨m,e,hm,hf⟩:=h;subst e;have d:=SSt.spr (q:=q) (fo:=(b:Int)) (go:=go) (bd:=(b0:Int)) (ks:=ks) hf;have r7:V.cell? ⟨q,7,none⟩=some (U O (b0:Int)):=(hm.bx d.bx 7 (u:=U O (b0:Int))).1;have a1:q<V.heap.size:=Kk V _ r7;have E:=Hm (iownFunc_c b0 hm d b rfl hj af);generalize x.funcs.getD (b+b0) Qe.z=ft at *;have F:Hid (∀W,SSt D w0 q x b go b0 m.nv ks W->SSt D w0 q x b go ((b0:Int)+1) m.nv ks (W.setCell ⟨q,7,none⟩ (U O ((b0:Int)+1)))):=λW f=>f.num 7 _ rfl rfl rfl (λm=>rfl);have I:Hid (∀pv rv W,Ty D w0 [] pv ft.ps->Ty D w0 [] rv ft.rs->SSt D w0 q x b go ((b0:Int)+1) m.nv ks W->Ec Q 222 #[Yp (some ⟨q,0,none⟩),Ag #[pv,rv],S X (N gs) gc] W λe w'=>∃g,g.nv=m.nv/\SpF D w0 x g/\BnP D w0 (Yp (some ⟨q,0,none⟩)) (Q6 q x g b go ((b0:Int)+1)++ks) ft gs e w'):=λpv rv W M L f=>by obtain⟨g,C,j,a⟩:=f;exact(ibodyNew_c q pv rv ft X gc gs j (M.sub (λr hr=>by cases hr)) (L.sub (λr hr=>by cases hr)) hg t A hs).mono λe w' hx=>⟨g,C,a,hx⟩
 have a0:IntKind.i64.wrap ((b0:Int)+1)=(b0:Int)+1:=by rw[IntKind.wrap_i64];omega
 have H:Hid (∀c:J,Below V.heap.size V c->c.cell? ⟨q,7,none⟩=some (U O (b0:Int))/\c.frozen? ⟨q,7,none⟩=false):=λc R=>by obtain⟨g,C,j,a⟩:=HS.o.keep R;exact j.bx (SSt.spr (q:=q) (fo:=(b:Int)) (go:=go) (bd:=(b0:Int)) (ks:=ks) a).bx 7 (u:=U O (b0:Int))
 clear hm hf d hg t hs hj A;go_enter func206,ntmps206;go_upto_region 2 with (go_at_call 221;refine E.o.mono ?_;rintro e c ⟨pa,pc,ra,Y,rfl,M,L,R⟩;have aj:=Hm M;have ai:=Hm L;have s:=Hm R;clear M L R)
 obtain⟨W,f⟩:∃W,W=c.alloc (Fc #[S pa (N ft.ps) pc,S ra (N ft.rs) Y] 148):=⟨_,rfl⟩;rw[<- f];have y:q≠c.heap.size:=by have:=s.o.size;omega
 have c0:W.cell? ⟨c.heap.size,0,none⟩=some (S pa (N ft.ps) pc):=by rw[f];exact Qf rfl rfl
 have c1:W.cell? ⟨c.heap.size,1,none⟩=some (S ra (N ft.rs) Y):=by rw[f];exact Qf rfl rfl
 have n:Below V.heap.size V W:=by rw[f];exact s.o.alloc s.o.size _
 obtain⟨s7,z7⟩:=H.o W n;have k0:∀v,(W.setCell ⟨q,7,none⟩ v).cell? ⟨c.heap.size,0,none⟩=some (S pa (N ft.ps) pc):=λv=>(World.cell?_setCell_far _ _ _ _ y).trans c0;have k1:∀v,(W.setCell ⟨q,7,none⟩ v).cell? ⟨c.heap.size,1,none⟩=some (S ra (N ft.rs) Y):=λv=>(World.cell?_setCell_far _ _ _ _ y).trans c1;have HQ:=Hm (I.o _ _ _ aj.o ai.o (F.o W (HS.o.keep n)));clear f n r7 H I F HS E;go_wp2_with (go_at_call 222;refine HQ.o.mono ?_;rintro e w3 ⟨g,C,a,p,l,ns,rfl,hI,B⟩;have ao:=Hm C;have aq:=Hm a;have HI:=Hm hI;have ap:=Hm B;clear C a hI B)
 go_ret;exact⟨g,ao.o,aq.o,p,l,ns,rfl,HI.o,ap.o⟩
def Sc (w w':J):Prop:=w'.cell?=w.cell?
theorem Sc.ty {v:Vu}{xs:List Int}(e:Sc w w')(h:Ty D w ks v xs):Ty D w' ks v xs:=by
 unfold Ty at *;rw[show w'.cell?=w.cell? from e];exact h
theorem Sc.fts {xs:List Qe}{cs:List Vu}(e:Sc w w')(h:FTs D w xs cs):FTs D w' xs cs :=
 ⟨h.1,fun i x hx=>by
  obtain⟨g,f,a,b,c,d⟩:=h.2 i x hx
  exact⟨g,f,a,b,e.ty c,e.ty d⟩⟩
theorem Sc.spf {m:Spc}(e:Sc w w')(h:SpF D w x m):SpF D w' x m:=⟨e.fts h.tt,e.fts h.ft,h.gt⟩
open Go.RowKit Go.Sort Go.WideMaps Go.Maps
section
theorem lawS:Keyed Q 9:=string_keyed underlying9
theorem zeroI (w:J):(zeroValue 2).run Q w=.ok (U O 0) w:=by kernel_rfl
def Gg (b:Nat)(w0:J)(ns:List (List UInt8)):Prop:=∃M:DataW Unit,w0.ownsMap Q 9 (plainElem Q 2) b (N ns) M/\IsMap M/\∀s,has M (.string s)=decide (s∈ns)
theorem Gg.start (w:J):Gg w.heap.size (w.alloc (.map #[] 0)) []:=⟨.map [],World.ownsMap_made _ _ _ _,isMap_empty,λs=>by simp[has]⟩
theorem Gg.blk {ns:List (List UInt8)}(h:Gg b w ns)(e:w'.heap[b]?=w.heap[b]?):Gg b w' ns:=by
 obtain⟨M,⟨g,a,c,r⟩,f,d⟩:=h;exact⟨M,⟨g,a,e.trans c,r⟩,f,d⟩
theorem look_eq {n:Nat}{M:DataW Unit}(f:w.ownsMap Q 9 (plainElem Q 2) b n M){a:Vu}{j:Lit}(g:keyOf Q 9 a=some j):∃c:Int,(Instr.lookup 236 (.map (some b)) a true).run Q w=.ok (.tuple #[U O c,G (Maps.has M j)]) w:=by
 obtain⟨v,m,d,l⟩:=f.look_ok lawS underlying236 (zeroI w) (plainElem_int underlying2 (by decide)) g;obtain⟨c,rfl,o,k⟩:=plainElem_int_inv underlying2 l;exact⟨c,d⟩
theorem Gg.put {ns:List (List UInt8)}{M:DataW Unit}(a:IsMap M)(f:∀s,has M (.string s)=decide (s∈ns)){s:List UInt8}{d:DataW Unit}(c:w'.ownsMap Q 9 (plainElem Q 2) b (N ns+1) (M.put (.string s) d)):Gg b w' (s::ns):=by
 refine⟨_,by simpa using c,a.put _ _,λt=>?_⟩;by_cases e:t=s
 . subst e;rw[has_put_same a (by simp[WideAt.IsKeyLit])];simp
 rw[has_put_other (λx=>e (by injection x)),f];simp[e]
theorem turn0 {j:J}{rs}{n t:Nat}{M A:DataW Unit}(o:b<D)(h:Mo D w0 rs V)(u:V.ownsMap Q 9 (plainElem Q 2) b n M)(l:j.ownsMap Q 9 (plainElem Q 2) b t A)(c:V.grownBy j (some b)):∃w1,Sc w0 w1/\Below b w0 w1/\Mo D w1 rs j/\w1.heap[b]?=j.heap[b]?:=by
 obtain⟨v,z,y,_⟩:=u;obtain⟨f,g,r,_⟩:=l;have s:w0.heap[b]?=some (.map v z):=(h.b.block b o).symm.trans y;have m:b<w0.heap.size:=(Array.getElem?_eq_some_iff.1 s).1;have d:(w0.putObj b (.map f g)).heap[b]?=some (.map f g):=World.putObj_heap_same m;refine⟨w0.putObj b (.map f g),?_,?_,⟨h.own.grown c λk e hk=>?_,?_,?_⟩,d.trans r.symm⟩
 . (funext a);by_cases q:a.block=b
   . unfold World.cell?;rw[q,d,s]
   exact Tz (Yd q)
 . exact⟨rfl,rfl,rfl,by simp,λk hk=>Yd (by omega)⟩
 . cases e;have:=(h.own.lt hk).1;omega
 . refine⟨c.os.trans h.b.os,c.tape.trans h.b.tape,c.output.trans h.b.output,by simp;exact Ky h.b.size c.size,λk hk=>?_⟩;by_cases p:k=b
   . subst p;rw[d,r]
   rw[Yd p,<- h.b.block k hk];exact c.block k (by have:=h.le;omega) (by simpa using p)
 exact Ky h.le c.size
end
def szK (x:Ctx)(k:Nat):Int:=if k=0 then(N x.funcs:Int)else if k=1 then(x.tables:Int)else if k=2 then(x.mems:Int)else (N x.globals:Int)
def expM (x:Ctx)(ns:List (List UInt8))(s:List UInt8)(k:Nat)(idx:Int):Option Int:=if s∈ns then some 7 else if szK x k<=idx then some 2 else none
def ExP (D:Nat)(w0:J)(q:Nat)(x:Ctx)(fo go bd:Int)(b:Nat)(ks:List Qc)(ns:List (List UInt8))(s:List UInt8)(r:Option Int)(e:Ending)(w':J):Prop :=
 (∃f,r=some f/\e=Z (flt f)/\Below b w0 w') \/
 (r=none/\e=Z Nf/\∃w1,Sc w0 w1/\Below b w0 w1/\Gg b w1 (s::ns)/\SSt D w1 q x fo go bd (.map (some b)) ks w')
theorem iexp_c (s:ByteArray)(k:Nat)(f:Int)(ns:List (List UInt8))(h:SSt D w0 q x fo go bd (.map (some b)) ks V)(hb:b<D)(hk:k<4)(hs:s.size<=1048576)(hN:Gg b w0 ns)(a5:N ns<=1048576)(ac:(Lit.int O f).wf=true):Ec Q 171 #[Yp (some ⟨q,0,none⟩),Ag #[Xs s,U O k,U O f]] V (ExP D w0 q x fo go bd b ks ns s.data.toList (expM x ns s.data.toList k f)):=by
 obtain⟨W,E⟩:∃W,W=V.alloc (Fc #[Xs s,U O k,U O f] 163):=⟨_,rfl⟩;have ba:Below V.heap.size V W:=by rw[E];exact bFz.alloc lRz _
 have F:=h.keep ba;have ar:Gg b W ns:=by obtain⟨m,_,A,_⟩:=F;exact hN.blk (A.b.block b hb)
 obtain⟨M,ho,au,ad⟩:=ar;have y:keyOf Q 9 (Xs s)=some (.string s.data.toList):=keyOf_string_mk underlying9 (by unfold maxLen;omega);have hh:=ad s.data.toList;obtain⟨c,ab⟩:=look_eq ho.drew y;have Y:=plainElem_int (H:=Unit) underlying2 ac;obtain⟨v,p⟩:∃B,B=V.heap.size:=⟨_,rfl⟩;have kk:Bk W v [Xs s,U O k,U O f]:=by rw[E,p];exact Bk.new
 have e0:=kk.2.1 0 _ rfl;have e1:=kk.2.1 1 _ rfl;have e2:=kk.2.1 2 _ rfl;have e8:W.cell? ⟨q,8,none⟩=some (.map (some b)):=by obtain⟨m,en,A,_⟩:=F;have:=(A.b0 8 (u:=m.nv)).1;rw[en]at this;exact this
 have ay:Hid (Below b w0 W):=by obtain⟨m,_,A,_⟩:=F;exact A.b.mono (by omega)
 by_cases I:s.data.toList∈ns
 . (have hr:expM x ns s.data.toList k f=some 7:=by rw[expM,if_pos I]);rw[hr];rw[hh,decide_eq_true I]at ab;clear F h ba kk hr I;go_enter func171,ntmps171;(go_upto_region 1 with fail);rw[<- E,<- p];clear E p;go_region
   all_goals
    go_wp2
    go_ret
    exact .inl ⟨7,rfl,rfl,ay.o.trans ⟨rfl,rfl,rfl,lRz,λ_ _=>rfl⟩⟩
 rw[hh,decide_eq_false I]at ab;have hr:expM x ns s.data.toList k f=if szK x k<=f then some 2 else none:=by rw[expM,if_neg I]
 rw[hr];have HX:Hid (∀g d,g.ownsMap Q 9 (plainElem Q 2) b (N ns+1) (M.put (.string s.data.toList) d)->W.grownBy g (some b)->∃j,Sc w0 j/\Below b w0 j/\Gg b j (s.data.toList::ns)/\SSt D j q x fo go bd (.map (some b)) ks g):=λg d t hg=>by obtain⟨m,en,A,hf⟩:=F;obtain⟨j,X,s2,s3,L⟩:=turn0 hb A ho t hg;exact⟨j,X,s2,(Gg.put au ad t).blk L,m,en,s3,X.spf hf⟩
 have ah:Hid (∀g,W.grownBy g (some b)->g.cell? ⟨v,0,none⟩=some (.string s)/\g.cell? ⟨v,1,none⟩=some (U O k)/\g.cell? ⟨v,2,none⟩=some (U O f)):=λg hg=>by
  have ao:v<W.heap.size:=Kk W _ e0;have a8:b<v:=by rw[p];have:=h.mo.le;omega
  have eb:=hg.block v ao (by simp;omega);exact⟨(Tz (a:=⟨v,0,none⟩) eb).trans e0,(Tz (a:=⟨v,1,none⟩) eb).trans e1,(Tz (a:=⟨v,2,none⟩) eb).trans e2⟩
 have af:Hid (∀j g,SSt D j q x fo go bd (.map (some b)) ks g->Ec Q 197 #[Yp (some ⟨q,0,none⟩),U O (k:Int)] g λe w'=>e=Z (U O (szK x k))/\g=w'):=λj g hs2=>isize_c k hk hs2;obtain⟨z,hz⟩:∃z,z=szK x k:=⟨_,rfl⟩;rw[<- hz]at af⊢;obtain⟨g,a4,t,l⟩:=(ho.drew.drew).update lawS underlying236 (n:=N ns) (by unfold maxLen;omega) y Y;have ag:Hid (W.grownBy g (some b)):=⟨l.os,l.tape,l.output,l.size,l.block⟩;have ax:=Hm (HX.o g _ t ag.o);obtain⟨g0,g1,g2⟩:=ah.o g ag.o;clear F h ba kk hr I hz t l ah;obtain⟨R,hR⟩:∃R:Option Int,R=if z<=f then some 2 else none:=⟨_,rfl⟩;rw[<- hR];have HR:=Hm hR;clear hR
 go_enter func171,ntmps171;go_upto_region 1 with fail
 rw[<- E,<- p];clear E p;go_region
 all_goals
  go_upto_region 4 with fail
  go_region
 all_goals
  obtain⟨j,X,s2,s3,L⟩:=ax.o;have ae:=Hm (λn=>(af.o j (g.drewN n) (L.keep ⟨rfl,rfl,rfl,lRz,λ_ _=>rfl⟩)).mono (R':=λe w'=>e=Z (U O z)/\∃m,w'=g.drewN m) λe w' ⟨a,b⟩=>⟨a,n,b.symm⟩);have r:=Hm (⟨X,s2,s3,L⟩:Sc w0 j/\Below b w0 j/\Gg b j (s.data.toList::ns)/\SSt D j q x fo go bd (.map (some b)) ks g);clear X s2 s3 L
  go_upto_region 5 with fail
  by_cases c2:z<=f
  . have C:Hid (R=some 2):=by show R=_;rw[HR.o,if_pos c2]
    go_quiet (with_reducible exact ae.o _)
    go_wp2
    go_ret
    exact .inl ⟨2,C.o,rfl,(r.o.2.1.trans (r.o.2.2.2.mo.b.mono (Nat.le_of_lt hb))).trans ⟨rfl,rfl,rfl,lRz,λ_ _=>rfl⟩⟩
  . have C:Hid (R=none):=by show R=_;rw[HR.o,if_neg c2]
    go_quiet (with_reducible exact ae.o _)
    go_wp2
    go_ret
    exact .inr ⟨C.o,rfl,j,r.o.1,r.o.2.1,r.o.2.2.1,r.o.2.2.2.keep ⟨rfl,rfl,rfl,lRz,λ_ _=>rfl⟩⟩
open Go.RowKit Go.Sort
theorem iteq0_c (pa ra)(q j:Nat)(b a:List Int)(V)(hp:N b<=1099511627776)(hr:N a<=1099511627776)(u:Has V pa b)(t:Has V ra a):Ec Q 203 #[Ag #[S pa (N b) q,S ra (N a) j],Ag #[S none 0 0,S none 0 0]] V λe w'=>e=Z (G (decide (b=[]/\a=[])))/\Below V.heap.size V w':=by
 obtain⟨W,d⟩:∃W,W=(V.alloc (Fc #[S pa (N b) q,S ra (N a) j] 148)).alloc (Fc #[S none 0 0,S none 0 0] 148):=⟨_,rfl⟩;have F:W.cell? ⟨V.heap.size,0,none⟩=some (S pa (N b) q):=by rw[d];exact Qd (Qf rfl rfl)
 have z:W.cell? ⟨V.heap.size,1,none⟩=some (S ra (N a) j):=by rw[d];exact Qd (Qf rfl rfl)
 have E:W.cell? ⟨V.heap.size+1,0,none⟩=some (S none 0 0):=by rw[d];exact Qf (by simp) rfl
 have y:W.cell? ⟨V.heap.size+1,1,none⟩=some (S none 0 0):=by rw[d];exact Qf (by simp) rfl
 have g:Below V.heap.size V W:=by rw[d];exact(bFz.alloc lRz _).alloc (by simp) _
 have s:Hid (∀n,Below V.heap.size V (W.drewN n)):=λn=>g.trans ⟨rfl,rfl,rfl,lRz,λ_ _=>rfl⟩;have c:=Hm (ieq_c pa none q 0 b [] W hp (by simp) (u.keep g) (.inl rfl));have f:=Hm (λn=>(ieq_c ra none j 0 a [] (W.drewN n) hr (by simp) (t.keep (s.o n)) (.inl rfl)).mono (R':=λe w'=>e=Z (G (decide (a=[])))/\∃m,w'=W.drewN m) λe w' ⟨h1,m,h2⟩=>⟨h1,n+m,by rw[h2];exact Xw _ _ _⟩);have r:([]:List Int).length=0:=rfl;rw[r]at c f;clear u t g;by_cases k:b=[]
 . (have l:decide (b=[]/\a=[])=decide (a=[]):=by simp[k]);(have p:decide (b=[])=true:=by simp[k]);rw[p]at c;rw[l];generalize decide (a=[])=bb at f⊢;clear l p k r;go_enter func203,ntmps203;(go_upto_region 1 with fail);rw[<- d];clear d;(go_wp2_with fail);(go_at_call 219);refine c.o.mono ?_;rintro e v ⟨rfl,m,rfl⟩;have D:(W.drewN m).cell? ⟨V.heap.size,1,none⟩=some (S ra (N a) j):=z;have C:(W.drewN m).cell? ⟨V.heap.size+1,1,none⟩=some (S none 0 0):=y;(go_wp2_with fail);(go_at_call 219);refine(f.o m).mono ?_;rintro e A ⟨rfl,B,rfl⟩;(go_wp2_with fail);go_ret;exact⟨rfl,s.o _⟩
 have l:decide (b=[]/\a=[])=false:=by simp[k]
 have p:decide (b=[])=false:=by simp[k]
 rw[p]at c;rw[l];clear l p k r f;go_enter func203,ntmps203;go_upto_region 1 with fail
 rw[<- d];clear d;go_wp2_with (go_at_call 219;refine c.o.mono ?_;rintro e v ⟨rfl,m,rfl⟩)
 go_ret;exact⟨rfl,s.o _⟩
def X1 (x:Ctx)(fo go bd:Int)(i:Int):R (Ctx × Int × Int × Int):=if i<N x.funcs then(if(x.funcs.getD i.toNat Qe.z).ps=[]/\(x.funcs.getD i.toNat Qe.z).rs=[]then .ok (x,fo,go,bd)else .error 6)else .error 2
theorem istart_c (i:Int)(h:SSt D w0 q x fo go bd nv ks V)(h0:0<=i)(L:∀t∈x.funcs,N t.ps<=1099511627776/\N t.rs<=1099511627776):Ec Q 172 #[Yp (some ⟨q,0,none⟩),U O i] V (SsP D w0 q ks nv (X1 x fo go bd i)):=by
 have c:=Hm (inamed_c i h h0);have HS:=Hm h;obtain⟨m,e,g,C⟩:=h;subst e;obtain⟨r0,r1,r2,r3,r4⟩:=(SSt.spr (q:=q) (fo:=fo) (go:=go) (bd:=bd) (ks:=ks) C).cells g;obtain⟨fa,fc,l,p⟩:=QA g (e:=148) (sz:=2) (n:=N x.funcs) (v:=m.fv) (cs:=m.fcs) (by simp);rw[l]at r1;have B:=Hm (⟨g.b,g.le⟩:Below D w0 V/\D<=V.heap.size);by_cases k:i<N x.funcs
 . obtain⟨j,rfl⟩:∃j:Nat,i=j:=⟨i.toNat,by omega⟩;(have H:j<N x.funcs:=by omega);have au:(j:Int)<(N x.funcs:Int):=k;rw[if_pos k]at c;obtain⟨gt,I,s⟩:=p (by omega);subst I;obtain⟨pv,rv,e1,e2,Y,X⟩:=C.ft.get H [];have d0:=s _ _ e1 (by omega);have d1:=s _ _ e2 (by omega);have u:=L (x.funcs.getD j Qe.z) (by simp[Kg,H]);(have hM:X1 x fo go bd (j:Int)=if(x.funcs.getD j Qe.z).ps=[]/\(x.funcs.getD j Qe.z).rs=[]then .ok (x,fo,go,bd)else .error 6:=by rw[X1,if_pos k];rfl);rw[hM];generalize x.funcs.getD j Qe.z=ft at *;obtain⟨pa,pc,F,hp⟩:=(Y.sub (ks':=Q6 q x m fo go bd++ks) (λr A=>by cases A)).has0 g;obtain⟨ra,rc,E,A⟩:=(X.sub (ks':=Q6 q x m fo go bd++ks) (λr A=>by cases A)).has0 g;subst F E;have d:=Hm (iteq0_c pa ra pc rc ft.ps ft.rs V u.1 u.2 hp A);have y:Hid (∀W,Below V.heap.size V W->SSt D w0 q x fo go bd m.nv ks W):=λW hb=>HS.o.keep hb;generalize ft.ps=ps at *;generalize ft.rs=rs at *;clear g C p s e1 e2 Y X u hM hp A l r0 r2 r3 r4 L HS k H;by_cases kk:ps=[]/\rs=[]
   . (have hd:decide (ps=[]/\rs=[])=true:=by simp[kk]);rw[hd]at d;rw[if_pos kk];clear hd kk;go_enter func172,ntmps172;(go_wp2_with (first|(go_at_call 202;refine c.o.mono ?_;rintro e R ⟨rfl,rfl⟩)|(go_at_call 203;refine d.o.mono ?_;rintro e w2 ⟨rfl,a⟩;have f:=Hm a;clear a)));go_ret;exact .inr ⟨_,_,_,_,rfl,rfl,y.o _ f.o⟩
   (have hd:decide (ps=[]/\rs=[])=false:=by simp[kk]);rw[hd]at d;rw[if_neg kk];clear hd kk;go_enter func172,ntmps172;(go_wp2_with (first|(go_at_call 202;refine c.o.mono ?_;rintro e R ⟨rfl,rfl⟩)|(go_at_call 203;refine d.o.mono ?_;rintro e w2 ⟨rfl,a⟩;have f:=Hm a;clear a)));go_ret;exact .inl ⟨6,rfl,rfl,((y.o _ f.o).mo).b,((y.o _ f.o).mo).le⟩
 rw[if_neg k]at c;have M:Hid (X1 x fo go bd i=.error 2):=by show X1 x fo go bd i=_;rw[X1,if_neg k]
 clear g C l p r0 r1 r2 r3 r4 k L;go_enter func172,ntmps172;go_wp2_with (go_at_call 202;refine c.o.mono ?_;rintro e R ⟨rfl,rfl⟩)
 go_ret;exact .inl ⟨2,M.o,rfl,B.o.1,B.o.2⟩
