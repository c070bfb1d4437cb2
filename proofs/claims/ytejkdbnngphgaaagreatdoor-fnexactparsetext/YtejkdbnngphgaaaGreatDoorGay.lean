import Derived.Test.YtejkdbnngphgaaaGreatDoorGat
set_option linter.all false
set_option maxHeartbeats 400000000
set_option maxRecDepth 100000
namespace Go.Proofs
open Value renaming int->U,slice->S,bool->G,pointer->Yp,agg->Ag
open IntKind renaming i64->O
open Obj renaming cells->Fc
open Go renaming World->J,Calls->Ec,Value->Vu,Addr->Ad
open Go.RowKit renaming Below->Bw
open Tryz renaming prog->Q
open Tryz
open List renaming getD_cons_zero->Tg,getElem?_append_right->Lz,nil_append->Hj,perm_append_comm->Hp,length->N
open World renaming ownsRow->Lq,cell?_of_block->Kx,frozen?_of_block->Mj,block_lt_of_cell?->Kh
open Nat renaming zero_add->Kk,le_trans->Kf,le_of_lt->Lv,lt_of_lt_of_le->Tc
open List.Perm renaming swap->Kq
open RowKit.Below renaming heap_setCell->Hk
namespace YtejkdbnngphgaaaGreatDoor.Yz
open Go.RowKit Go.Sort
variable {xs:List Grp}{ws done:List Wd}{s:Wd}
def Xo (ws:List Wd):Option (List Int):=if ws.all okU then some (ws.map nv)else none
def RNums (x:List Int)(c:List Vu)(r:List Qb):Prop:=∃v,c=[v]/\r=[nR v x]
structure NsI (ws:List Wd)(bad:Bool)(done rest:List Wd)(xs:List Int)(z:Bool):Prop where
 e:ws=done++rest
 n:N xs=N done
 a:z=false->bad=false/\done.all okU=true/\xs=done.map nv
 b:bad=false->done.all okU=true->z=false
theorem NsI.next {bad:Bool}{r:List Wd}{xs:List Int}{z:Bool}{x:Int}(h:NsI ws bad done (s::r) xs z)(hx:okU s=true->x=nv s):NsI ws bad (done++[s]) r (xs++[x]) (fl okU (s::r) z):=by
 refine⟨by rw[h.e];simp,by simp[h.n],λhz=>?_,λhb ha=>?_⟩
 . rw[fl_cons]at hz;simp at hz;obtain⟨f,c,d⟩:=h.a hz.1;exact⟨f,by simp at c⊢;exact⟨c,hz.2⟩,by rw[d,hx hz.2];simp⟩
 simp at ha;rw[fl_cons,h.b hb (by simp;exact ha.1),ha.2];rfl
theorem NsI.fin {bad:Bool}{xs:List Int}{z:Bool}(h:NsI ws bad done [] xs z):(z=false->([]:List Wd)=[]->bad=false/\Xo ws=some xs)/\(∀y,bad=false->Xo ws=some y->z=false/\([]:List Wd)=[]/\xs=y):=by
 have e:ws=done:=by have:=h.e;simpa using this
 subst e;refine⟨λhz _=>?_,λy hb hy=>?_⟩
 . obtain⟨g,f,d⟩:=h.a hz;exact⟨g,by unfold Xo;rw[if_pos f,d]⟩
 unfold Xo at hy;split at hy
 . rename_i c;cases hy;exact⟨h.b hb c,rfl,(h.a (h.b hb c)).2.2⟩
 cases hy
theorem u32s_c (q:Nat)(ws:List Wd)(bad:Bool)(w:J)(h:Tw w q ws bad)(hl:∀x∈ws,N x<=1048576)(F:Vs q w):Ec Q 100 #[Yp (some ⟨q,0,none⟩)] w (EnP Xo RNums oneV' q w ws bad):=by
 have HV:=Hm F;have HL:=Hm hl;have E:=Hm h.le;have D:=Hm ((Rd.start h).none 2 1);clear h F hl;go_enter func100,ntmps100;go_upto_region 2 with fail
 go_loopw [3] (λv3 wr=>∃(done a:List Wd) (xs:List Int) (z:Bool),Rd q w [nR v3 xs] a z wr/\NsI ws bad done a xs z) (λ_ wr=>lenOf q wr)
 case atStart=>exact⟨[],ws,[],bad,D.o,rfl,rfl,λh=>⟨h,rfl,rfl⟩,λh _=>h⟩
 obtain⟨done,a,xs,z,d,k⟩:=hrel;have L:=Hm d;have M:=Hm k;obtain⟨va,u,B⟩:=QO (show wr.ownsRow w.heap.size 2 1 u3 (N xs) (I xs)from d.own.head);subst B;have v:=Hm (more_c q a z wr d.tw);cases a with
 |nil =>
  clear d k
  go_wp2_with fail
  refine v.o.mono ?_
  rintro e t ⟨rfl,rfl⟩;clear v
  go_wp2
  go_ret
  refine⟨xs,[S va (N xs) u],[nR (S va (N xs) u) xs],[],z,?_,⟨_,rfl,rfl⟩,L.o,M.o.fin⟩
  simp only[oneV',Tg]
  rfl
 |cons s r =>
  have m:∀x∈s::r,N x<=1048576:=λx hx=>HL.o x (by rw[k.e];exact mR hx);have H:=Hm (u32_p q (s::r) z wr d.tw m (d.vs HV.o));have HT:=Hm d.tw
  have p:Hid (N xs<=1099511627776):=by
   show(N xs)<=1099511627776
   have:=E.o;rw[k.e]at this;rw[k.n];simp at this;omega
  clear d k m
  go_wp2_with fail
  refine v.o.mono ?_
  rintro e t ⟨rfl,rfl⟩;clear v
  go_wp2_with fail
  refine H.o.mono ?_
  rintro e t ⟨x,rfl,l,hx⟩;have g:=Hm (show Rd q w [nR (S va (N xs) u) xs] r (fl okU (s::r) z) t by simpa using L.o.more l);have HX:=Hm (M.o.next hx);have X:t.ownsRow w.heap.size 2 1 (S va (N xs) u) (N xs) (I xs):=g.o.own.head;have aa:=g.o.gr.size;have Y:=p.o;clear l hx H
  go_wp2_with (at_builtin;refine wal info2 (X.alloc _) [U O x] (cell_one_new _ _ _) (oneI _) ?_;intro v' V b c C f;have j:=Hm (And.intro b (And.intro c f));obtain⟨A,y,rfl⟩:=QO b;clear b c C f)
  have R:Hid (Rd q w [nR (S A (N xs+1) y) (xs++[x])] r (fl okU (s::r) z) V):=by
   refine g.o.push (r':=nR _ (xs++[x])) (bFz.alloc lRz _) j.o.2.1 ?_ j.o.2.2
   show Lq _ _ _ _ _ _ _
   simpa[nR,I]using j.o.1
  refine⟨⟨done++[s],r,xs++[x],_,R.o,HX.o⟩,?_⟩
  rw[R.o.tw.len,HT.o.len];simp
theorem Qg {B:Nat}{W:J}{T sz n:Nat}{v:Vu}{cs:List Vu}(h:W.ownsRow B T sz v n cs):∃a c,v=S a n c:=Qb.Ok.slice (r:=⟨T,sz,n,v,cs⟩) h
def JH:List Wd->Option (List Grp)
 |[]=>some []
 |n::t::r=>if okU n&&okT t then(JH r).map (⟨nv n,tyN t⟩::·)else none
 |[_]=>none
def Js (ws:List Wd):Option (List Grp):=match JH ws with
 |some l=>if J6 l 0 then some l else none
 |none=>none
def gcs (l:List Grp):List Vu:=l.flatMap λg=>[U O g.n,U O g.ty]
def RGrps (x:List Grp)(c:List Vu)(r:List Qb):Prop:=∃v,c=[v]/\r=[⟨206,2,N x,v,gcs x⟩]
theorem lr_gcs (l:List Grp):LR RGrp l (gcs l) []:=by
 refine⟨l.map λg=>⟨[U O g.n,U O g.ty],[]⟩,by simp,λi x ev h1 h2=>?_,?_,?_⟩
 . simp[h1]at h2;subst h2;exact⟨rfl,rfl⟩
 . simp[gcs,List.flatMap_map]
 induction l with
 |nil=>rfl
 |cons a l ih=>simpa using ih
theorem gcs_at (l:List Grp)(i:Nat)(h:i<N l):(gcs l)[i*2]?=some (U O (l.getD i Grp.z).n)/\(gcs l)[i*2+1]?=some (U O (l.getD i Grp.z).ty):=by
 induction l generalizing i with
 |nil=>simp at h
 |cons a l ih =>
  cases i with
  |zero=>exact⟨rfl,rfl⟩
  |succ i =>
   have:=ih i (by simpa using h)
   have e:gcs (a::l)=[U O a.n,U O a.ty]++gcs l:=rfl;rw[e,Lz (by simp;omega),Lz (by simp;omega)]
   simpa[show(i+1)*2-2=i*2 by omega,show(i+1)*2+1-2=i*2+1 by omega]using this
theorem gcs_snoc (l:List Grp)(g:Grp):gcs (l++[g])=gcs l++[U O g.n,U O g.ty]:=by simp[gcs]
theorem row_gs {B:Nat}{W:J}{a:Option Ad}{c:Nat}{l:List Grp}(h:W.ownsRow B 206 2 (S a (N l) c) (N l) (gcs l)):Grp.Ls 0 W a l:=by
 rcases h.2 with ⟨e,b⟩|⟨g,f,d,hv,k⟩
 . exact .inl (List.eq_nil_of_length_eq_zero b)
 cases hv;refine .inr ⟨g,0,rfl,Nat.zero_le _,λj hj=>⟨⟨?_,?_⟩,trivial⟩⟩
 . have:=World.ownsRow.cellAt h (j*2) (by omega);rw[Kk,this];exact(gcs_at l j hj).1
 have:=World.ownsRow.cellAt h (j*2+1) (by omega);rw[Kk,this];exact(gcs_at l j hj).2
structure GsI (ws:List Wd)(bad:Bool)(done rest:List Wd)(xs:List Grp)(z:Bool):Prop where
 n:N xs<=N done
 e:ws=done++rest
 a:z=false->bad=false/\(JH ws=(JH rest).map (xs++·))
 b:bad=false->z=true->JH ws=none
theorem grpP_two {x:Grp}(h:fl okT ws.tail (fl okU ws false)=false)(hx:okU (ws.headD [])=true->x.n=nv (ws.headD []))(f:x.ty=tyN (ws.tail.headD [])):JH ws=(JH ws.tail.tail).map (x::·):=by
 obtain⟨g,t,r,j,d⟩:=Xf.1 h;obtain⟨-,n,c,k,b⟩:=Xf.1 g;subst k;have a:c=t::r:=j;subst a;simp only[JH,b,d];have:x=⟨nv n,tyN t⟩:=by cases x;simp only[Grp.mk.injEq];exact⟨hx b,f⟩
 rw[this];rfl
theorem grpP_not (a:ws≠[])(h:fl okT ws.tail (fl okU ws false)=true):JH ws=none:=by
 match ws,a with
 |[n],_=>rfl
 |n::t::r,_ =>
  simp only[fl,List.tail_cons,List.headD_cons,List.isEmpty_cons,Bool.or_false,Bool.false_or]at h
  simp only[JH]
  rw[if_neg]
  intro b
  rw[Bool.and_eq_true]at b;rw[b.1,b.2]at h
  cases h
theorem GsI.next {bad:Bool}{rest:List Wd}{z:Bool}{x:Grp}(h:GsI ws bad done rest xs z)(c:rest≠[])(hx:okU (rest.headD [])=true->x.n=nv (rest.headD []))(g:x.ty=tyN (rest.tail.headD [])):GsI ws bad (done++rest.take 2) rest.tail.tail (xs++[x]) (fl okT rest.tail (fl okU rest z)):=by
 have d:rest.tail.tail=rest.drop 2:=by cases rest with
  |nil=>rfl
  |cons a l=>cases l<;>rfl
 refine⟨?_,?_,λhz=>?_,λhb hz=>?_⟩
 . have:=h.n;cases rest with
   |nil=>exact absurd rfl c
   |cons a l=>simp;omega
 . rw[h.e,d,List.append_assoc,List.take_append_drop]
 . have f:z=false:=(Xf.1 (Xf.1 hz).1).1;obtain⟨k,j⟩:=h.a f;refine⟨k,?_⟩;rw[f]at hz;rw[j,grpP_two hz hx g];cases JH rest.tail.tail with
   |none=>rfl
   |some l=>simp
 cases hz0:z with
 |true=>exact h.b hb hz0
 |false =>
  rw[hz0]at hz;rw[(h.a hz0).2,grpP_not c hz];rfl
theorem GsI.fin {bad:Bool}{z:Bool}(h:GsI ws bad done [] xs z):(z || !J6 xs 0)=false ↔ (bad=false/\Js ws=some xs):=by
 unfold Js;constructor
 . intro c;simp at c;obtain⟨j,g⟩:=h.a c.1;refine⟨j,?_⟩;rw[g];simp[JH,c.2]
 rintro⟨f,d⟩;cases c:z with
 |true=>rw[h.b f c]at d;cases d
 |false =>
  rw[(h.a c).2]at d
  simp[JH]at d
  simp[d]
theorem GsI.eq {bad:Bool}{y:List Grp}{z:Bool}(h:GsI ws bad done [] xs z)(d:bad=false)(c:Js ws=some y):Js ws=some xs:=by
 cases hz:z with
 |true=>unfold Js at c;rw[h.b d hz]at c;cases c
 |false =>
  unfold Js at c⊢;rw[(h.a hz).2]at c⊢
  simp[JH]at c⊢
  exact c.1
theorem info206:(Q.info? 206).map (λi=>(i.zero,i.size,i.bytes))=some (some (Ag #[U O 0,U O 0]),2,16):=by kernel_rfl
theorem one2 (a b:Vu)(ha:a.oneCell'=true)(d:b.oneCell'=true):∀u∈[a,b],u.oneCell'=true:=by
 intro u c;simp at c;rcases c with rfl|rfl<;>assumption
theorem groups_c (q:Nat)(ws:List Wd)(bad:Bool)(w:J)(h:Tw w q ws bad)(hl:∀x∈ws,N x<=1048576)(r:N ws<=1048576)(hV:Vs q w):Ec Q 103 #[Yp (some ⟨q,0,none⟩)] w (EnP Js RGrps oneV' q w ws bad):=by
 have HV:=Hm hV;have HL:=Hm hl;have bc:=Hm r;have bb:=Hm ((Rd.start h).none 206 2);clear h hV hl r;go_enter func103,ntmps103;go_upto_region 2 with fail
 go_loopw [3,4] (λv3 v4 wr=>∃(done b:List Wd) (xs:List Grp) (z:Bool),Rd q w [⟨206,2,N xs,v3,gcs xs⟩] b z wr/\GsI ws bad done b xs z) (λ_ _ wr=>lenOf q wr)
 case atStart=>exact⟨[],ws,[],bad,bb.o,by simp,rfl,λh=>⟨h,by cases JH ws<;>rfl⟩,λh h2=>by rw[h]at h2;cases h2⟩
 obtain⟨done,b,xs,z,m,r⟩:=hrel;have HR:=Hm m;have HN:=Hm r;have X:Hid (N xs<=1048576):=by show(N xs)<=1048576;have:=bc.o;rw[r.e]at this;have h2:=r.n;rw[List.length_append]at this;omega
 obtain⟨va,L,az⟩:=Qg (show wr.ownsRow w.heap.size 206 2 u3 (N xs) (gcs xs)from m.own.head);subst az;have KM:=Hm (more_c q b z wr m.tw);by_cases p:b=[]
 . subst p;have KG:=Hm (igs_c ⟨xs,[]⟩ va L none wr ⟨row_gs m.own.head,.inl rfl⟩ ⟨⟨X.o,λ_ _=>trivial⟩,by simp⟩);clear m r;(go_wp2_with fail);refine KM.o.mono ?_;rintro e w1 ⟨rfl,rfl⟩;clear KM;(go_wp2_with fail);refine KG.o.mono ?_;rintro e w2 ⟨rfl,hb⟩;have ah:=Hm (HR.o.below hb);have KA:=Hm (JZ q [] z (J6 xs 0) w2 ah.o.tw);clear hb KG HR;(go_wp2_with fail);refine KA.o.mono ?_;rintro e w3 ⟨rfl,t,g⟩;have HF:=Hm (ah.o.call t g);clear t g KA;go_wp2;go_ret;refine⟨xs,[S va (N xs) L],[⟨206,2,N xs,S va (N xs) L,gcs xs⟩],[],(z || !J6 xs 0),?_,⟨_,rfl,rfl⟩,HF.o,λhz _=>HN.o.fin.1 hz,λy hb hy=>?_⟩
   . simp only[oneV',Tg];rfl
   have e:=HN.o.eq hb hy;exact⟨HN.o.fin.2 ⟨hb,e⟩,rfl,by rw[e]at hy;exact Option.some.inj hy⟩
 have ad:∀x∈b,N x<=1048576:=λx hx=>HL.o x (by rw[r.e];exact mR hx);have ai:=Hm p;have KU:=Hm (u32_p q b z wr m.tw ad (m.vs HV.o));have HT:=Hm m.tw;have ac:(!b.isEmpty)=true:=by cases b with|nil=>exact absurd rfl p|cons a l=>rfl
 rw[ac]at KM;clear m r ad p ac;obtain⟨R,B⟩:∃t,t=b.tail:=⟨_,rfl⟩;obtain⟨z1,f⟩:∃x,x=fl okU b z:=⟨_,rfl⟩;have E:=Hm B;have ba:=Hm f;rw[<- B,<- f]at KU;clear B f;go_wp2_with fail
 refine KM.o.mono ?_;rintro e w1 ⟨rfl,rfl⟩;clear KM;go_wp2_with fail
 refine KU.o.mono ?_;rintro e w1 ⟨x,rfl,ab,hx⟩;obtain⟨W,hW⟩:∃W,W=w1.alloc (Fc #[U O x,U O 0] 206):=⟨_,rfl⟩;obtain⟨g,hg⟩:∃g,g=w1.heap.size:=⟨_,rfl⟩;have H:Hid (Rd q w [box 206 2 g [U O x,U O 0],⟨206,2,N xs,S va (N xs) L,gcs xs⟩] R z1 W):=by have:=(HR.o.more ab).box (cur:=#[U O x,U O 0]) 206 2 rfl;rw[hW,hg];show Rd _ _ _ _ _ _;simpa using this
 have HX:=Hm hx;have KT:=Hm (vty_p q R z1 W H.o.tw);clear ab hx KU;obtain⟨M,C⟩:∃s,s=R.headD []:=⟨_,rfl⟩;obtain⟨t2,A⟩:∃t,t=R.tail:=⟨_,rfl⟩;obtain⟨z2,d⟩:∃x,x=fl okT R z1:=⟨_,rfl⟩;rw[<- C,<- A,<- d]at KT;have a9:=Hm (And.intro C (And.intro A d));clear C A d;go_upto_region 4 with fail
 rw[<- hW,<- hg];clear hW hg;go_wp2_with fail
 refine KT.o.mono ?_;rintro e w2 ⟨rfl,aa⟩;have k:=H.o.more aa;rw[Hj]at k;have f1:=k.b0 1;obtain⟨c1,f1⟩:=f1;obtain⟨V2,D⟩:∃V,V=w2.setCell ⟨g,1,none⟩ (U O (tyN M)):=⟨_,rfl⟩;have Y:Rd q w [box 206 2 g [U O x,U O (tyN M)],⟨206,2,N xs,S va (N xs) L,gcs xs⟩] t2 z2 V2:=by rw[D];exact k.set 1 _
 have u:=Hm Y;clear k Y aa KT;go_upto_region 5 with fail
 rw[<- D];clear D c1 f1;obtain⟨c0,-⟩:=u.o.b0 0;obtain⟨c1,-⟩:=u.o.b0 1;have F:=Hm u.o.tail;have ho:V2.ownsRow w.heap.size 206 2 (S va (N xs) L) (N xs) (gcs xs):=F.o.own.head;have bn:=F.o.gr.size;have bm:=X.o;clear HR H u;go_wp2_with (at_builtin;refine wal info206 (ho.alloc _) [U O x,U O (tyN M)] (Qq _ _ _) (one2 _ _ rfl rfl) ?_;intro v' w4 c j a0 v;have I:=Hm (And.intro c (And.intro j v));obtain⟨ax,aw,rfl⟩:=Qg c;clear c j a0 v)
 have HF:Hid (Rd q w [⟨206,2,(xs++[(⟨x,tyN M⟩:Grp)]).length,S ax (N xs+1) aw,gcs (xs++[(⟨x,tyN M⟩:Grp)])⟩] t2 z2 w4):=by refine F.o.push (bFz.alloc lRz _) I.o.2.1 ?_ I.o.2.2;show Lq _ _ _ _ _ _ _;rw[gcs_snoc];simpa using I.o.1
 obtain⟨a6,af,a5⟩:=a9.o;have HI:=HN.o.next ai.o (x:=⟨x,tyN M⟩) HX.o (by rw[a6,E.o]);rw[<- E.o,<- ba.o,<- af,<- a5]at HI;refine⟨⟨_,t2,_,z2,HF.o,HI⟩,?_⟩;rw[HF.o.tw.len,HT.o.len,af,E.o];have:=ai.o;cases b with
 |nil=>exact absurd rfl this
 |cons a l=>simp;omega
def arW:Wd:=[45,62]
theorem ar_eq (s:Wd):((Sz0 s).toList==[45,62])=decide (s=arW):=by
 rw[ByteArray.toList_eq,QB];by_cases h:s=arW
 . subst h;rfl
 rw[decide_eq_false h,beq_eq_false_iff_ne];exact h
def ftF (ws:List Wd):Option QE:=if(ws.takeWhile (·≠arW)).all okT then
    match ws.dropWhile (·≠arW)with
    |[_]=>some ⟨(ws.takeWhile (·≠arW)).map tyN,[]⟩
    |[_,r]=>if okT r then some ⟨(ws.takeWhile (·≠arW)).map tyN,[tyN r]⟩else none
    |_=>none
 else none
structure FtI (ws:List Wd)(done rest:List Wd):Prop where
 e:ws=done++rest
 a:∀x∈done,x≠arW
theorem FtI.fin {rest:List Wd}(h:FtI ws done rest)(hr:rest=[]\/rest.headD []=arW):ws.takeWhile (·≠arW)=done/\ws.dropWhile (·≠arW)=rest:=by
 rw[h.e];have ha:∀x∈done,(decide (x≠arW))=true:=λx hx=>by simpa using h.a x hx
 rw[List.takeWhile_append_of_pos ha,List.dropWhile_append_of_pos ha];cases rest with
 |nil=>simp
 |cons s r =>
  rcases hr with hr|hr
  . cases hr
  . have:s=arW:=hr
    subst this
    simp
def pz (bad:Bool)(done:List Wd):Bool:=bad || !done.all okT
theorem pz_next (bad:Bool)(done:List Wd)(s:Wd)(r:List Wd):fl okT (s::r) (pz bad done)=pz bad (done++[s]):=by
 rw[fl_cons];unfold pz;simp only[List.all_append,List.all_cons,List.all_nil,Bool.and_true];cases bad<;>cases done.all okT<;>cases okT s<;>rfl
theorem ft0 {bad:Bool}:(((pz bad done || false) || !true)=false->([]:List Wd)=[]->bad=false/\(if done.all okT then match [s]with
    |[_]=>some (⟨done.map tyN,[]⟩:QE)
    |[_,r]=>if okT r then some ⟨done.map tyN,[tyN r]⟩else none
    |_=>none
 else none)=some ⟨done.map tyN,[]⟩)/\(∀y:QE,bad=false->(if done.all okT then match [s]with
  |[_]=>some (⟨done.map tyN,[]⟩:QE)
  |[_,r]=>if okT r then some ⟨done.map tyN,[tyN r]⟩else none
  |_=>none
 else none)=some y->((pz bad done || false) || !true)=false/\([]:List Wd)=[]/\(⟨done.map tyN,[]⟩:QE)=y):=by
 unfold pz;cases bad<;>cases done.all okT<;>simp
theorem ft1 {b:Wd}{c:List Wd}{bad:Bool}:(fl okT (b::c) ((pz bad done || false) || !true)=false->(b::c).tail=[]->bad=false/\(if done.all okT then match s::b::c with
    |[_]=>some (⟨done.map tyN,[]⟩:QE)
    |[_,r]=>if okT r then some ⟨done.map tyN,[tyN r]⟩else none
    |_=>none
 else none)=some ⟨done.map tyN,[tyN ((b::c).headD [])]⟩)/\(∀y:QE,bad=false->(if done.all okT then match s::b::c with
  |[_]=>some (⟨done.map tyN,[]⟩:QE)
  |[_,r]=>if okT r then some ⟨done.map tyN,[tyN r]⟩else none
  |_=>none
 else none)=some y->fl okT (b::c) ((pz bad done || false) || !true)=false/\(b::c).tail=[]/\(⟨done.map tyN,[tyN ((b::c).headD [])]⟩:QE)=y):=by
 rw[fl_cons];unfold pz;cases c with
 |nil=>cases bad<;>cases done.all okT<;>cases h:okT b<;>simp[h]
 |cons a l=>cases bad<;>cases done.all okT<;>simp
theorem funcType_c (q:Nat)(ws:List Wd)(bad:Bool)(w:J)(h:Tw w q ws bad):Ec Q 86 #[Yp (some ⟨q,0,none⟩)] w (EnP ftF RFT agV q w ws bad):=by
 have co:=Hm h.le;obtain⟨D,a6⟩:∃g,g=w.heap.size:=⟨_,rfl⟩;obtain⟨W0,a9⟩:∃W,W=w.alloc (Fc #[S none 0 0,S none 0 0] 137):=⟨_,rfl⟩;obtain⟨p,a5⟩:∃g,g=W0.heap.size:=⟨_,rfl⟩;obtain⟨W,hW⟩:∃W,W=W0.alloc (Fc #[S none 0 0,S none 0 0] 137):=⟨_,rfl⟩;have l:Rd q w [box 137 2 p [S none 0 0,S none 0 0],nR (S none 0 0) [],box 137 2 D [S none 0 0,S none 0 0]] ws bad W:=by have h1:=(Rd.start h).box (cur:=#[S none 0 0,S none 0 0]) 137 2 rfl;rw[<- a6,<- a9]at h1;have h2:=h1.box (cur:=#[S none 0 0,S none 0 0]) 137 2 rfl;rw[<- a5,<- hW]at h2;exact(h2.none 2 1).perm (Kq _ _ _)
 have cn:=Hm l;clear h l;go_enter func86,ntmps86;go_upto_region 1 with fail
 rw[<- a9,<- a6];clear a9 a6;go_upto_region 2 with fail
 rw[<- hW,<- a5];clear hW a5;go_loopw [] (λwr=>∃(done m:List Wd) (va:Option Ad) (c:Nat),Rd q w [box 137 2 p [S va (done.map tyN).length c,S none 0 0],nR (S va (done.map tyN).length c) (done.map tyN),box 137 2 D [S none 0 0,S none 0 0]] m (pz bad done) wr/\FtI ws done m) (λwr=>lenOf q wr)
 case atStart=>exact⟨[],ws,none,0,by simpa[pz]using cn.o,rfl,λx hx=>by cases hx⟩
 obtain⟨done,m,va,c,l,hn⟩:=hrel;have HN:=Hm hn;obtain⟨xs,C⟩:∃x,x=done.map tyN:=⟨_,rfl⟩;obtain⟨z,hz⟩:∃x,x=pz bad done:=⟨_,rfl⟩;have av:Hid (N xs<=1099511627776):=by show(N xs)<=1099511627776;have:=co.o;rw[hn.e]at this;rw[C];simp at this⊢;omega
 rw[<- C,<- hz]at l;have HR:=Hm l;have HT:=Hm l.tw;have bg:=Hm (And.intro C hz);have H:=Hm (more_c q m z wr l.tw);by_cases he:m=[]
 . subst he;have au:=Hm (hn.fin (.inl rfl));have KN:=Hm (next_g q [] z wr l.tw);have hq:((Sz0 []).toList==[45,62])=false:=ar_eq [];clear l hn C hz;(go_wp2_with fail);refine H.o.mono ?_;rintro e w1 ⟨rfl,rfl⟩;clear H;(go_wp2_with fail);refine KN.o.mono ?_;rintro e w1 ⟨rfl,t1,g1⟩;have n:=Hm (HR.o.call t1 g1);clear t1 g1 KN;obtain⟨z3,B⟩:∃x,x=(z || true):=⟨_,rfl⟩;(have n:Hid (Rd q w [box 137 2 p [S va (N xs) c,S none 0 0],nR (S va (N xs) c) xs,box 137 2 D [S none 0 0,S none 0 0]] [] z3 w1):=by rw[B];exact n.o);have KA:=Hm (JZ q [] z3 false w1 n.o.tw);have aq:=Hm B;clear B;(go_wp2_with fail);refine KA.o.mono ?_;rintro e w2 ⟨rfl,t2,ag⟩;obtain⟨z4,A⟩:∃x,x=(z3 || !false):=⟨_,rfl⟩;(have d:Hid (Rd q w [box 137 2 p [S va (N xs) c,S none 0 0],nR (S va (N xs) c) xs,box 137 2 D [S none 0 0,S none 0 0]] [] z4 w2):=by rw[A];exact n.o.call t2 ag);have ao:=Hm A;have H:=Hm (more_c q [] z4 w2 d.o.tw);clear t2 ag KA A hq n;(go_wp2_with fail);refine H.o.mono ?_;rintro e w3 ⟨rfl,rfl⟩;clear H;obtain⟨d0,-⟩:=d.o.b0 0;obtain⟨d1,-⟩:=d.o.b0 1;have F:=d.o.perm ((Hp (l₁:=[_,_]) (l₂:=[_])));obtain⟨e0,f0⟩:=F.b0 0;obtain⟨e1,f1⟩:=F.b0 1;have L:=Hm ((F.set 0 (S va (N xs) c)).set 1 (S none 0 0));clear F d;go_wp2;refine Jp (λW'=>Rd q w (box 137 2 D [S va (N xs) c,S none 0 0]::[box 137 2 p [S va (N xs) c,S none 0 0],nR (S va (N xs) c) xs]) _ z4 W') L.o ?_;intro W' E;have u0:=(E.b0 0).1;have u1:=(E.b0 1).1;have L:=Hm (E.tail.tail.none 2 1 |>.perm (Kq _ _ _));clear E d0 d1 e0 e1 f0 f1;refine bodyPost_ret (v:=agV [S va (N xs) c,S none 0 0]) (by simp[agV,results,results86,go_sem,u0,u1]) rfl ⟨⟨xs,[]⟩,[S va (N xs) c,S none 0 0],[nR (S va (N xs) c) xs,nR (S none 0 0) []],[],z4,rfl,⟨_,_,rfl,rfl⟩,L.o,?_⟩;obtain⟨p1,p2⟩:=au.o;obtain⟨x1,x2⟩:=bg.o;unfold ftF;rw[p1,p2,ao.o,aq.o,x1,x2];refine⟨λh=>?_,λy _ h=>?_⟩
   . simp at h
   split at h<;>cases h
 obtain⟨s,r,rfl⟩:∃s r,m=s::r:=by cases m with|nil=>exact absurd rfl he|cons s r=>exact⟨s,r,rfl⟩
 obtain⟨a0,c0,a8,a7⟩:=l.tw.c0;rcases a7 with a7|⟨b,o,ea,-,cd,bu⟩
 . cases a7
 subst ea;have ac:=bu 0 (by simp);have cb:(0:Int)<((N r+1:Nat):Int):=by omega
 rw[Nat.add_zero,Tg]at ac;rw[List.length_cons]at a8;clear he bu cd;by_cases ha:s=arW
 . have au:=Hm (hn.fin (.inr ha));have KN:=Hm (next_g q (s::r) z wr l.tw);(have hq:((Sz0 s).toList==[45,62])=true:=by rw[ar_eq];simp[ha]);clear l hn C hz ha;(go_wp2_with fail);refine H.o.mono ?_;rintro e w1 ⟨rfl,rfl⟩;clear H;(go_upto_region 4 with fail);clear a8 ac;(go_wp2_with fail);refine KN.o.mono ?_;rintro e w1 ⟨rfl,t1,g1⟩;have n:=Hm (HR.o.call t1 g1);clear t1 g1 KN;obtain⟨z3,B⟩:∃x,x=(z || false):=⟨_,rfl⟩;(have n:Hid (Rd q w [box 137 2 p [S va (N xs) c,S none 0 0],nR (S va (N xs) c) xs,box 137 2 D [S none 0 0,S none 0 0]] r z3 w1):=by rw[B];exact n.o);have KA:=Hm (JZ q r z3 true w1 n.o.tw);have aq:=Hm B;clear B;(go_wp2_with fail);refine KA.o.mono ?_;rintro e w2 ⟨rfl,t2,ag⟩;obtain⟨z4,A⟩:∃x,x=(z3 || !true):=⟨_,rfl⟩;(have d:Hid (Rd q w [box 137 2 p [S va (N xs) c,S none 0 0],nR (S va (N xs) c) xs,box 137 2 D [S none 0 0,S none 0 0]] r z4 w2):=by rw[A];exact n.o.call t2 ag);have ao:=Hm A;have H:=Hm (more_c q r z4 w2 d.o.tw);clear t2 ag KA A hq n;cases r with
   |nil =>
    go_wp2_with fail
    refine H.o.mono ?_
    rintro e w3 ⟨rfl,rfl⟩;clear H;obtain⟨d0,-⟩:=d.o.b0 0;obtain⟨d1,-⟩:=d.o.b0 1;have F:=d.o.perm ((Hp (l₁:=[_,_]) (l₂:=[_])));obtain⟨e0,f0⟩:=F.b0 0;obtain⟨e1,f1⟩:=F.b0 1;have L:=Hm ((F.set 0 (S va (N xs) c)).set 1 (S none 0 0));clear F d
    go_wp2
    refine Jp (λW'=>Rd q w (box 137 2 D [S va (N xs) c,S none 0 0]::[box 137 2 p [S va (N xs) c,S none 0 0],nR (S va (N xs) c) xs]) _ z4 W') L.o ?_
    intro W' E
    have u0:=(E.b0 0).1;have u1:=(E.b0 1).1;have L:=Hm (E.tail.tail.none 2 1 |>.perm (Kq _ _ _));clear E d0 d1 e0 e1 f0 f1
    refine bodyPost_ret (v:=agV [S va (N xs) c,S none 0 0]) (by simp[agV,results,results86,go_sem,u0,u1]) rfl ⟨⟨xs,[]⟩,[S va (N xs) c,S none 0 0],[nR (S va (N xs) c) xs,nR (S none 0 0) []],[],z4,rfl,⟨_,_,rfl,rfl⟩,L.o,?_⟩
    obtain⟨p1,p2⟩:=au.o;obtain⟨x1,x2⟩:=bg.o;unfold ftF;rw[p1,p2,ao.o,aq.o,x1,x2]
    exact ft0 (s:=s)
   |cons s1 r1 =>
    obtain⟨s2,a1⟩:∃x,x=(s1::r1).headD []:=⟨_,rfl⟩;obtain⟨t2,az⟩:∃x,x=(s1::r1).tail:=⟨_,rfl⟩;obtain⟨z5,ay⟩:∃x,x=fl okT (s1::r1) z4:=⟨_,rfl⟩;have KV:=Hm (vty_p q (s1::r1) z4 w2 d.o.tw);rw[<- a1,<- az,<- ay]at KV;have cm:=Hm (And.intro a1 (And.intro az ay));clear a1 az ay
    go_wp2_with fail
    refine H.o.mono ?_
    rintro e w3 ⟨rfl,rfl⟩;clear H
    go_wp2_with fail
    refine KV.o.mono ?_
    rintro e w3 ⟨rfl,M⟩;clear KV;have ad:=d.o.more M;rw[Hj]at ad;obtain⟨d0,f0⟩:=ad.b0 0;obtain⟨d1,f1⟩:=ad.b0 1;obtain⟨g5,a4⟩:∃g,g=w3.heap.size:=⟨_,rfl⟩;obtain⟨V5,ba⟩:∃V,V=(w3.alloc (Fc #[U O (tyN s2)] 2)).setCell ⟨p,1,none⟩ (S (some ⟨g5,0,none⟩) 1 1):=⟨_,rfl⟩;have aj:=((ad.box (cur:=#[U O (tyN s2)]) 2 1 rfl).perm (Kq _ _ _));rw[<- a4]at aj;obtain⟨dx,fx⟩:=aj.b0 1;have a3:=aj.set 1 (S (some ⟨g5,0,none⟩) 1 1);rw[<- ba]at a3;have ar:Hid (Rd q w [box 137 2 p [S va (N xs) c,S (some ⟨g5,0,none⟩) 1 1],box 2 1 g5 [U O (tyN s2)],nR (S va (N xs) c) xs,box 137 2 D [S none 0 0,S none 0 0]] t2 z5 V5):=a3;clear M ad aj a3 d
    go_upto_region 7 with fail
    rw[<- a4,<- ba];clear a4 ba d0 d1 dx fx f0 f1;obtain⟨d0,-⟩:=ar.o.b0 0;obtain⟨d1,-⟩:=ar.o.b0 1;have F:=ar.o.perm ((Hp (l₁:=[_,_,_]) (l₂:=[_])));obtain⟨e0,f0⟩:=F.b0 0;obtain⟨e1,f1⟩:=F.b0 1;have L:=Hm ((F.set 0 (S va (N xs) c)).set 1 (S (some ⟨g5,0,none⟩) 1 1));clear F ar
    go_wp2
    refine Jp (λW'=>Rd q w (box 137 2 D [S va (N xs) c,S (some ⟨g5,0,none⟩) 1 1]::[box 137 2 p [S va (N xs) c,S (some ⟨g5,0,none⟩) 1 1],box 2 1 g5 [U O (tyN s2)],nR (S va (N xs) c) xs]) t2 z5 W') L.o ?_
    intro W' E
    have u0:=(E.b0 0).1;have u1:=(E.b0 1).1;have L:=Hm (E.tail.tail.perm (Kq _ _ _));clear E d0 d1 e0 e1 f0 f1
    refine bodyPost_ret (v:=agV [S va (N xs) c,S (some ⟨g5,0,none⟩) 1 1]) (by simp[agV,results,results86,go_sem,u0,u1]) rfl ⟨⟨xs,[tyN s2]⟩,[S va (N xs) c,S (some ⟨g5,0,none⟩) 1 1],[nR (S va (N xs) c) xs,nR (S (some ⟨g5,0,none⟩) 1 1) [tyN s2]],t2,z5,rfl,⟨_,_,rfl,rfl⟩,L.o,?_⟩
    obtain⟨p1,p2⟩:=au.o;obtain⟨x1,x2⟩:=bg.o;obtain⟨y1,y2,y3⟩:=cm.o;unfold ftF;rw[p1,p2,y1,y2,y3,ao.o,aq.o,x1,x2]
    exact ft1 (s:=s)
 have hq:((Sz0 s).toList==[45,62])=false:=by rw[ar_eq];simp[ha]
 have HI:Hid (FtI ws (done++[s]) r):=⟨by rw[hn.e];simp,fun x hx=>by
  rcases List.mem_append.1 hx with hx|hx
  . exact hn.a x hx
  . simp at hx;subst hx;exact ha⟩
 obtain⟨z1,ab⟩:∃x,x=fl okT (s::r) z:=⟨_,rfl⟩;have cl:=Hm ab;have HX:Hid (xs++[tyN s]=(done++[s]).map tyN):=by show _=_;rw[C];simp
 have ck:Hid (pz bad (done++[s])=z1):=by show _=_;rw[ab,hz,pz_next]
 clear l hn C hz ha ab;go_wp2_with fail
 refine H.o.mono ?_;rintro e w1 ⟨rfl,rfl⟩;clear H;go_upto_region 3 with fail
 clear a8 ac hq cb;refine Rp.rg (nN:=34) [Yp (some ⟨p,0,none⟩),(S va (N xs) c),Yp (some ⟨q,0,none⟩),undef,undef,undef,Yp (some ⟨p,0,none⟩),undef] [3,4,5,7] 3 (Rp.Fz (λW=>W.cell? ⟨p,0,none⟩=some (S va (N xs) c)) 3 [λt W=>t=[]/\Rd q w [box 137 2 p [(S va (N xs) c),S none 0 0],nR (S va (N xs) c) xs,box 137 2 D [S none 0 0,S none 0 0]] (s::r) z W,λt W=>t=[U O (tyN s)]/\Rd q w [box 137 2 p [(S va (N xs) c),S none 0 0],nR (S va (N xs) c) xs,box 137 2 D [S none 0 0,S none 0 0]] r z1 W,λt W=>∃g,t=[U O (tyN s),S (some ⟨g,0,none⟩) 1 1]/\Rd q w [box 137 2 p [(S va (N xs) c),S none 0 0],nR (S va (N xs) c) xs,box 137 2 D [S none 0 0,S none 0 0]] r z1 W/\∀j u,([U O (tyN s)]:List Vu)[j]?=some u->W.cell? ((⟨g,0,none⟩:Ad).add j)=some u,λt W=>∃g Y X,t=[U O (tyN s),S (some ⟨g,0,none⟩) 1 1,S Y (xs++[tyN s]).length X]/\Rd q w [box 137 2 p [(S va (N xs) c),S none 0 0],nR (S Y (xs++[tyN s]).length X) (xs++[tyN s]),box 137 2 D [S none 0 0,S none 0 0]] r z1 W,λt W=>∃g Y X,t=[U O (tyN s),S (some ⟨g,0,none⟩) 1 1,S Y (xs++[tyN s]).length X,undef]/\Rd q w [box 137 2 p [(S Y (xs++[tyN s]).length X),S none 0 0],nR (S Y (xs++[tyN s]).length X) (xs++[tyN s]),box 137 2 D [S none 0 0,S none 0 0]] r z1 W]) ?_ ?_ ?_
 . exact⟨λ_=>(HR.o.b0 0).1,rfl,HR.o.below bFz.drew⟩
 . refine Rp.os 3 (Yp (some ⟨p,0,none⟩)) ?_;refine Rp.l1 0 15 (λk t W hk hF=>hF.1 hk) ?_;refine Rp.os 0 (Yp (some ⟨q,0,none⟩)) ?_;refine Rp.hc 0 (λa W t f hu hF=>?_) ?_
   . have c2:=Rp.va f 2 17;obtain⟨a2,rfl,l⟩:=hF;refine⟨112,#[Yp (some ⟨q,0,none⟩)],?_,?_⟩
     . clear f hu;go_simp;try rfl
     refine(vty_p q (s::r) z W l.tw).mono ?_;rintro e w1 ⟨rfl,b9⟩;have R:=l.more b9;rw[Hj]at R;exact⟨_,rfl,λ_=>(R.b0 0).1,rfl,by rw[cl.o];exact R⟩
   refine Rp.hv 1 (λa W t f hu hF=>?_) ?_
   . have c1:=Rp.vu hu 0 18;obtain⟨a2,rfl,l⟩:=hF;refine⟨(S (some ⟨W.heap.size,0,none⟩) 1 1),W.alloc (Fc #[U O (tyN s)] 2),?_,?_⟩
     . clear f hu;go_simp;try rfl
     have R:=l.below (bFz.alloc lRz (Fc #[U O (tyN s)] 2));exact⟨λ_=>(R.b0 0).1,W.heap.size,rfl,R,Qq _ _ _⟩
   refine Rp.ha 2 (λa W t f hu hF Kc hK=>?_) ?_
   . have ci:=Rp.va f 1 16;have ch:=Rp.vu hu 1 19;obtain⟨a2,g1,rfl,l,cf⟩:=hF;have bv:=l.perm (Kq _ _ _);have ho:W.ownsRow w.heap.size 2 1 (S va (N xs) c) (N xs) (I xs):=bv.own.head;refine Rp.ap (news:=[U O (tyN s)]) ci ho ch cf (oneI _) info2 (by have:=av.o;unfold maxLen;omega) (by have:=av.o;omega) l.gr.size (λv' w' h1 h2 h3=>?_) hK;obtain⟨Y,X,rfl⟩:=Qg h1;have M:=(bv.push (r':=nR _ (xs++[tyN s])) bFz h2 (by show Lq _ _ _ _ _ _ _;simpa[nR,I]using h1) h3).perm (Kq _ _ _);rw[show(N xs)+1=(xs++[tyN s]).length by simp]at M⊢;exact⟨λ_=>(M.b0 0).1,g1,Y,X,rfl,M⟩
   refine Rp.os 3 (Yp (some ⟨p,0,none⟩)) ?_;refine Rp.ht 3 (λa W t f hu hF=>?_) ?_
   . have cy:=Rp.va f 6 21;have cz:=Rp.vu hu 2 20;obtain⟨a2,g1,Y,X,rfl,l⟩:=hF;obtain⟨cc,ff⟩:=l.b0 0;refine⟨W.setCell ⟨p,0,none⟩ (S Y (xs++[tyN s]).length X),?_,?_⟩
     . clear f hu;go_simp;try rfl
     exact⟨λh=>by omega,g1,Y,X,rfl,l.set 0 _⟩
   exact Rp.Qj.nil
 intro t a W f;have ea:=Rp.ca f [15,16,17,18,19,20,21];have hF:=f.ph;simp only[List.foldl_cons,List.foldl_nil,Rp.cv f 0 15,Rp.cv f 1 16,Rp.cv f 2 17,Rp.cu f 0 18,Rp.cu f 1 19,Rp.cu f 2 20,Rp.cv f 6 21]at ea;clear f;subst ea;obtain⟨-,g1,Y,X,rfl,l⟩:=hF;have L:=Hm l;clear l;go_roundw
 case rel=>refine⟨_,_,_,_,_,_,_,_,_,_,_,_,_,_,_,_,_,_,⟨done++[s],r,Y,X,?_,HI.o⟩,rfl⟩;have:=L.o;rw[HX.o]at this;rw[ck.o];exact this
 case measure=>rw[L.o.tw.len,HT.o.len];simp
def Bt (W1:J)(R b:Nat)(v:Vu):Prop:=W1.cell? ⟨b,0,none⟩=some v/\b≠R
structure Sr (W1:J)(R:Nat)(cells:List Vu)(rs:List Qb)(V:J):Prop where
 own:Own R V (box 62 18 R cells::rs)
 ge:∀k∈blk rs,W1.heap.size<=k
 gr:W1.grownBy V (some R)
 lt:R<W1.heap.size
structure Ln (W1:J)(R q:Nat)(cells:List Vu)(rs:List Qb)(V:J):Prop where
 s:Sr W1 R cells rs V
 qd:W1.heap.size<=q
 qn:q∉blk rs
 ql:q<V.heap.size
structure Te (V:J)(q:Nat)(ws:List Wd)(bad:Bool):Prop where
 c0:∃a c,V.cell? ⟨q,0,none⟩=some (S a (N ws) c)
 c1:V.cell? ⟨q,1,none⟩=some (G bad)
 fz:∀i,V.frozen? ⟨q,i,none⟩=false
theorem Tw.te {V:J}{q:Nat}{bad:Bool}(h:Tw V q ws bad):Te V q ws bad:=⟨by obtain⟨a,c,b,-⟩:=h.c0;exact⟨a,c,b⟩,h.c1,h.fz⟩
theorem Te.keep {V V':J}{q:Nat}{bad:Bool}(h:Te V q ws bad)(b:V'.heap[q]?=V.heap[q]?):Te V' q ws bad:=by
 obtain⟨a,c,d⟩:=h.c0;exact⟨⟨a,c,(Kx b).trans d⟩,(Kx b).trans h.c1,λi=>(Mj b).trans (h.fz i)⟩
section
variable {W1 V V':J}{R q:Nat}{cells:List Vu}{rs rs' ns:List Qb}{r r':Qb}{ws ws':List Wd}{bad bad':Bool}
theorem Sr.mo (h:Sr W1 R cells rs V):Mo R V (box 62 18 R cells::rs) V:=⟨h.own,bFz,Kf (Lv h.lt) h.gr.size⟩
theorem Sr.cell (h:Sr W1 R cells rs V)(j:Nat){u:Vu}(a:cells[j]?=some u:=by exact rfl)(hj:j<18:=by first|decide|omega):V.cell? ⟨R,j,none⟩=some u/\V.frozen? ⟨R,j,none⟩=false:=h.mo.b0 j a hj
theorem Sr.bx (h:Sr W1 R cells rs V){b:Nat}{v:Vu}(a:Bt W1 R b v):V.cell? ⟨b,0,none⟩=some v :=
 (Kx (h.gr.block b (Kh W1 _ a.1) (λe=>a.2 (Option.some.inj e)))).trans a.1
theorem Sr.len (h:Sr W1 R cells rs V):N cells=18:=by
 have:=h.own.head;have a:=this.1;simpa using a
theorem Sr.nR (h:Sr W1 R cells rs V):R∉blk rs:=λhk=>by have:=h.ge R hk;have:=h.lt;omega
theorem Sr.grown {x:Option Nat}(h:Sr W1 R cells rs V)(hg:V.grownBy V' x)(hx:∀k,x=some k->W1.heap.size<=k/\k∉blk rs):Sr W1 R cells rs V':=by
 refine⟨h.own.grown hg (λk hk a=>?_),h.ge,⟨hg.os.trans h.gr.os,hg.tape.trans h.gr.tape,hg.output.trans h.gr.output,Kf h.gr.size hg.size,λk hk hne=>?_⟩,h.lt⟩
 . obtain⟨c,b⟩:=hx k hk;rw[show blk (box 62 18 R cells::rs)=R::blk rs from rfl]at a;rcases List.mem_cons.1 a with rfl|a
   . have:=h.lt;omega
   exact b a
 exact(hg.block k (Tc hk h.gr.size) (λe=>by have:=(hx k e.symm).1;omega)).trans (h.gr.block k hk hne)
theorem Sr.below (h:Sr W1 R cells rs V)(a:Bw V.heap.size V V'):Sr W1 R cells rs V':=h.grown (x:=none) (Qu a) (λk hk=>by cases hk)
theorem Sr.set (h:Sr W1 R cells rs V)(j:Nat)(u:Vu):Sr W1 R (cells.set j u) rs (V.setCell ⟨R,j,none⟩ u):=by
 refine⟨(h.mo.set j u).own,h.ge,⟨h.gr.os,h.gr.tape,h.gr.output,by simpa using h.gr.size,λk hk hne=>?_⟩,h.lt⟩;exact(Hk _ _ _ _ (λe=>hne (by simp at e;rw[e]))).trans (h.gr.block k hk hne)
theorem Sr.perm (h:Sr W1 R cells rs V)(p:rs.Perm rs'):Sr W1 R cells rs' V:=⟨h.own.perm (p.cons _),λk hk=>h.ge k ((p.filterMap _).mem_iff.2 hk),h.gr,h.lt⟩
theorem Sr.left (h:Sr W1 R cells (rs++ns) V):Sr W1 R cells rs V:=⟨Own.left (a:=box 62 18 R cells::rs) (b:=ns) h.own,λk hk=>h.ge k (by rw[JD];exact mL hk),h.gr,h.lt⟩
theorem Sr.more {x:Option Nat}(h:Sr W1 R cells rs V)(b:Own V.heap.size V' ns)(hg:V.grownBy V' x)(hx:∀k,x=some k->W1.heap.size<=k/\k∉blk rs):Sr W1 R cells (ns++rs) V':=by
 have c:=h.grown hg hx;refine⟨?_,λk a=>?_,c.gr,h.lt⟩
 . have:=Own.new h.own c.own b (Kf (Lv h.lt) h.gr.size);exact this.perm (by rw[List.cons_append];exact(Hp).cons _)
 rw[JD]at a;rcases List.mem_append.1 a with a|a
 . exact Kf h.gr.size (b.lt a).1
 exact h.ge k a
theorem Sr.push (h:Sr W1 R cells (r::rs) V)(hg:V.grownBy V' r.v.ownBlock)(own:r'.Ok R V')(a:r'.v.ownBlock=r.v.ownBlock\/r'.v.ownBlock=some V.heap.size):Sr W1 R cells (r'::rs) V':=by
 have d:=h.own.perm (Kq r (box 62 18 R cells) rs);have b:∀k,r.v.ownBlock=some k->W1.heap.size<=k:=λk hk=>h.ge k (QF.2 ⟨r,by simp,hk⟩);refine⟨(d.push hg own a).perm (Kq _ _ _),λk hk=>?_,⟨hg.os.trans h.gr.os,hg.tape.trans h.gr.tape,hg.output.trans h.gr.output,Kf h.gr.size hg.size,λk hk hne=>?_⟩,h.lt⟩
 . obtain⟨y,c,e⟩:=QF.1 hk;rcases List.mem_cons.1 c with rfl|c
   . rcases a with a|a
     . exact b k (by rw[<- a];exact e)
     rw[a]at e;cases e;exact h.gr.size
   exact h.ge k (QF.2 ⟨y,mC c,e⟩)
 exact(hg.block k (Tc hk h.gr.size) (λe=>by have:=b k e.symm;omega)).trans (h.gr.block k hk hne)
theorem Ln.read (h:Ln W1 R q cells rs V)(hr:Rd q V ns ws' bad' V'):Ln W1 R q cells (ns++rs) V'/\Te V' q ws' bad':=by
 refine⟨⟨h.s.more hr.own hr.gr (λk a=>by cases a;exact⟨h.qd,h.qn⟩),h.qd,λa=>?_,Tc h.ql hr.gr.size⟩,hr.tw.te⟩;rw[JD]at a;rcases List.mem_append.1 a with a|a
 . have:=(hr.own.lt a).1;have:=h.ql;omega
 exact h.qn a
theorem Ln.call (h:Ln W1 R q cells rs V)(hg:V.grownBy V' (some q)):Ln W1 R q cells rs V':=⟨h.s.grown hg (λk hk=>by cases hk;exact⟨h.qd,h.qn⟩),h.qd,h.qn,Tc h.ql hg.size⟩
theorem Ln.set (h:Ln W1 R q cells rs V)(j:Nat)(u:Vu):Ln W1 R q (cells.set j u) rs (V.setCell ⟨R,j,none⟩ u):=⟨h.s.set j u,h.qd,h.qn,by simpa using h.ql⟩
theorem Ln.qR (h:Ln W1 R q cells rs V):q≠R:=λe=>by have:=h.qd;have:=h.s.lt;omega
theorem Ln.perm (h:Ln W1 R q cells rs V)(p:rs.Perm rs'):Ln W1 R q cells rs' V:=⟨h.s.perm p,h.qd,λhk=>h.qn ((p.filterMap _).mem_iff.2 hk),h.ql⟩
theorem Ln.below (h:Ln W1 R q cells rs V)(a:Bw V.heap.size V V'):Ln W1 R q cells rs V':=⟨h.s.below a,h.qd,h.qn,Tc h.ql a.size⟩
theorem Ln.left (h:Ln W1 R q cells (rs++ns) V):Ln W1 R q cells rs V:=⟨h.s.left,h.qd,λhk=>h.qn (by rw[JD];exact mL hk),h.ql⟩
theorem Ln.right (h:Ln W1 R q cells (rs++ns) V):Ln W1 R q cells ns V:=(h.perm Hp).left
theorem Ln.push (h:Ln W1 R q cells (r::rs) V)(hg:V.grownBy V' r.v.ownBlock)(own:r'.Ok R V')(a:r'.v.ownBlock=r.v.ownBlock\/r'.v.ownBlock=some V.heap.size):Ln W1 R q cells (r'::rs) V':=by
 refine⟨h.s.push hg own a,h.qd,λhk=>?_,Tc h.ql hg.size⟩;obtain⟨y,b,e⟩:=QF.1 hk;rcases List.mem_cons.1 b with rfl|b
 . rcases a with a|a
   . exact h.qn (QF.2 ⟨r,by simp,by rw[<- a];exact e⟩)
   rw[a]at e;cases e;have:=h.ql;omega
 exact h.qn (QF.2 ⟨y,mC b,e⟩)
theorem Ln.teq (h:Ln W1 R q cells (r::rs) V)(hg:V.grownBy V' r.v.ownBlock)(t:Te V q ws bad):Te V' q ws bad:=t.keep (hg.block q h.ql (λe=>h.qn (QF.2 ⟨r,by simp,e.symm⟩)))
theorem Ln.tes (h:Ln W1 R q cells rs V)(t:Te V q ws bad)(j:Nat)(u:Vu):Te (V.setCell ⟨R,j,none⟩ u) q ws bad:=t.keep (Hk _ _ _ _ (λe=>h.qR (by simp at e;rw[e])))
theorem Te.below (t:Te V q ws bad)(a:Bw V.heap.size V V'):Te V' q ws bad:=t.keep (a.block q (Kh V _ t.c1))
theorem Ln.box {cur:Array Vu}(h:Ln W1 R q cells rs V)(e n:Nat)(d:cur.size=n):Ln W1 R q cells (Yz.box e n V.heap.size cur.toList::rs) (V.alloc (Fc cur e)):=by
 have b:Bw V.heap.size V (V.alloc (Fc cur e)):=bFz.alloc lRz _;have f:Mo V.heap.size V [] V:=⟨Own.nil _ _,bFz,lRz⟩;have c:=(f.box (cur:=cur) e n d).own;refine⟨h.s.more (ns:=[_]) (x:=none) c (Qu b) (λk a=>by cases a),h.qd,λa=>?_,Tc h.ql b.size⟩;rw[show blk (Yz.box e n V.heap.size cur.toList::rs)=V.heap.size::blk rs from rfl]at a;rcases List.mem_cons.1 a with a|a
 . have:=h.ql;omega
 exact h.qn a
theorem Ln.tw (h:Ln W1 R q cells rs V)(t:Tw V q ws bad)(z:∀(j:Nat) (b:ByteArray),cells[j]?≠some (Value.string b))(j:Nat)(u:Vu):Tw (V.setCell ⟨R,j,none⟩ u) q ws bad:=by
 have l:(V.setCell ⟨R,j,none⟩ u).heap[q]?=V.heap[q]?:=Hk _ _ _ _ (λe=>h.qR (by simp at e;rw[e]));obtain⟨a,c,C,n⟩:=t.c0;refine⟨⟨a,c,(Kx l).trans C,?_⟩,(Kx l).trans t.c1,λi=>(Mj l).trans (t.fz i),t.le⟩;rcases n with n|⟨b,o,e,B,hc,r⟩
 . exact .inl n
 refine .inr ⟨b,o,e,B,hc,λi hi=>?_⟩;have m:b≠R:=by
  rintro rfl;have k:=r i hi;by_cases v:o+i<18
  . obtain⟨p,f⟩:∃p,cells[o+i]?=some p:=⟨_,List.getElem?_eq_getElem (by rw[h.s.len];exact v)⟩;have d:=(h.s.cell (o+i) f v).1;rw[k]at d;exact z _ _ (f.trans d.symm)
  have d:=h.s.own.head.2;rcases d with ⟨d,-⟩|⟨g,E,D,hv,L,A,I,H,y,F⟩
  . cases d
  cases hv;simp[World.cell?,A]at k;rw[Array.getElem?_eq_none (by rw[y];show 1*18<=_;omega)]at k;cases k
 exact(Kx (Hk _ _ _ _ (λe=>m (by simp at e;rw[e])))).trans (r i hi)
end
