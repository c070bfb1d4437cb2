import Derived.Test.YtejkdbnngphgaaaGreatDoorGat
set_option linter.all false
set_option maxHeartbeats 400000000
set_option maxRecDepth 100000
namespace Go.Proofs
open Value renaming int->U,bool->G,pointer->Yp,string->Xs,agg->Ag
open IntKind renaming i64->O
open Obj renaming cells->Fc
open Go renaming World->J,Calls->Ec,Value->Vu
open Go.RowKit renaming Below->Bw
open Tryz renaming prog->Q
open Tryz
open List renaming mem_of_mem_tail->Mh,getD_cons_zero->Tg,length->N
open List.Perm renaming swap->Kq
open Bool renaming and_eq_true->Hy
namespace YtejkdbnngphgaaaGreatDoor.Yz
open Go.RowKit Go.Sort
variable {ws:List Wd}{α:Type}
abbrev limV (a b:Int)(h:Bool):Vu:=Ag #[U O a,U O b,G h]
def Q5:List Wd->Option Qp
 |[s]=>if okU s then some ⟨nv s,0,false⟩else none
 |[s,t]=>if okU s&&okU t then some ⟨nv s,nv t,true⟩else none
 |_=>none
theorem limits_c (q:Nat)(ws:List Wd)(bad:Bool)(w:J)(h:Tw w q ws bad)(H:∀x∈ws,N x<=1048576)(hV:Vs q w):Ec Q 92 #[Yp (some ⟨q,0,none⟩)] w (EnP Q5 RLim agV q w ws bad):=by
 have hl:∀x∈ws,N x<=1099511627776:=λx hx=>Nat.le_trans (H x hx) (by decide);clear H;obtain⟨g,hg⟩:∃g,g=w.heap.size:=⟨_,rfl⟩;obtain⟨W,hW⟩:∃W,W=w.alloc (Fc #[U O 0,U O 0,G false] 120):=⟨_,rfl⟩;have B:Rd q w [box 120 3 g [U O 0,U O 0,G false]] ws bad W:=by have:=(Rd.start h).box (cur:=#[U O 0,U O 0,G false]) 120 3 rfl;rw[hW,hg];exact this
 have VK:Hid (∀{V:J},w.grownBy V (some q)->Vs q V):=λhgr=>hV.keep (Jt hgr h.lt);have K1:=Hm (u32_c q ws bad W B.tw hl (VK.o B.gr));have HR:=Hm B;clear B h;have HL:Hid (∀x∈ws.tail,N x<=1099511627776):=λx hx=>hl x (Mh hx);go_enter func92,ntmps92;go_upto_region 1 with fail
 rw[<- hW,<- hg];clear hW hg;go_wp2_with fail
 refine K1.o.mono ?_;rintro e w1 ⟨x,rfl,t1,g1,hx⟩;have m:=(HR.o.call t1 g1).box (cur:=#[U O x,U O 0,G false]) 120 3 rfl;obtain⟨p,hp⟩:∃p,p=w1.heap.size:=⟨_,rfl⟩;obtain⟨V1,D⟩:∃V,V=w1.alloc (Fc #[U O x,U O 0,G false] 120):=⟨_,rfl⟩;rw[<- hp,<- D]at m;have HX:=Hm hx;have X:=Hm (more_c q ws.tail _ V1 m.tw);have R:=Hm (u32_c q ws.tail _ V1 m.tw HL.o (VK.o m.gr));have u:=Hm m;clear t1 g1 hx K1 HR m;go_upto_region 2 with fail
 rw[<- D,<- hp];clear D hp;obtain⟨z,hz⟩:∃z,z=(bad || ws.isEmpty || !okN 0 4294967295 (ws.headD [])):=⟨_,rfl⟩;rw[<- hz]at R u;obtain⟨r,B⟩:∃r,r=ws.tail:=⟨_,rfl⟩;rw[<- B]at X R u HL;have HZ:=Hm (⟨hz,B⟩:z=(bad || ws.isEmpty || !okN 0 4294967295 (ws.headD []))/\r=ws.tail);clear hz B;cases r with
 |nil =>
  clear R
  go_wp2_with fail
  refine X.o.mono ?_
  rintro e w2 ⟨rfl,rfl⟩;have c:=u.o;have r0:=(c.b0 0).1;have r1:=(c.b0 1).1;have r2:=(c.b0 2).1;have d:=c.perm (Kq _ _ _);obtain⟨s0,t0⟩:=d.b0 0;obtain⟨s1,t1⟩:=d.b0 1;obtain⟨s2,t2⟩:=d.b0 2;have HF:=Hm (((d.set 0 (U O x)).set 1 (U O 0)).set 2 (G false));clear c d X u
  go_wp2
  refine Jp (λM=>Rd q w (box 120 3 g [U O x,U O 0,G false]::[box 120 3 p [U O x,U O 0,G false]]) [] z M) HF.o ?_
  intro M A
  have u0:=(A.b0 0).1;have u1:=(A.b0 1).1;have u2:=(A.b0 2).1;obtain⟨f,j⟩:=HZ.o
  refine bodyPost_ret (v:=limV x 0 false) (by simp[results,results92,go_sem,u0,u1,u2]) rfl ⟨⟨x,0,false⟩,[U O x,U O 0,G false],[],[],z,rfl,⟨rfl,rfl⟩,A.tail.tail,λh1 _=>?_,λy h1 k=>?_⟩
  . rw[h1]at f
    match ws,j,f,HX.o with
    |[],j,f,_=>simp at f
    |[s],j,f,hx =>
     simp at f
     have hv:okP s=some x:=hx f.2
     exact⟨f.1,by simp[Q5,okU,f.2,nv,hv]⟩
    |s::t::l,j,_,_=>simp at j
  . match ws,j,f,HX.o,k with
    |[],j,f,_,k=>simp[Q5]at k
    |[s],j,f,hx,k =>
     simp only[Q5]at k
     split at k
     · rename_i L
       cases k
       have I:okN 0 4294967295 s=true:=L;have hv:okP s=some x:=hx I
       exact⟨by rw[f,h1];simp[I],rfl,by simp[nv,hv]⟩
     . cases k
    |s::t::l,j,_,_,_=>simp at j
 |cons t l =>
  go_wp2_with fail
  refine X.o.mono ?_
  rintro e w2 ⟨rfl,rfl⟩;clear X
  go_wp2_with fail
  refine R.o.mono ?_
  rintro e w3 ⟨y,rfl,t3,g3,k⟩;have c:=u.o.call t3 g3;obtain⟨a1,f1⟩:=c.b0 1;obtain⟨a2,f2⟩:=c.b0 2;have d:=(c.set 1 (U O y)).set 2 (G true);obtain⟨V2,C⟩:∃V,V=(w3.setCell ⟨p,1,none⟩ (U O y)).setCell ⟨p,2,none⟩ (G true):=⟨_,rfl⟩;rw[<- C]at d;have HY:=Hm k;have Y:=Hm d;clear c d t3 g3 k R u
  go_upto_region 4 with fail
  rw[<- C];clear C a1 f1 a2 f2;have c:=Y.o;have r0:=(c.b0 0).1;have r1:=(c.b0 1).1;have r2:=(c.b0 2).1;have d:=c.perm (Kq _ _ _);obtain⟨s0,t0⟩:=d.b0 0;obtain⟨s1,t1⟩:=d.b0 1;obtain⟨s2,t2⟩:=d.b0 2;have HF:=Hm (((d.set 0 (U O x)).set 1 (U O y)).set 2 (G true));clear c d Y;generalize F:(z || List.isEmpty (t::l) || !okN 0 4294967295 ((t::l).headD []))=zz at HF;have ak:=Hm F;clear F
  go_wp2
  refine Jp (λM=>Rd q w (box 120 3 g [U O x,U O y,G true]::[box 120 3 p [U O x,U O y,G true]]) l zz M) HF.o ?_
  intro M A
  have u0:=(A.b0 0).1;have u1:=(A.b0 1).1;have u2:=(A.b0 2).1;obtain⟨f,j⟩:=HZ.o;have n:=ak.o
  refine bodyPost_ret (v:=limV x y true) (by simp[results,results92,go_sem,u0,u1,u2]) rfl ⟨⟨x,y,true⟩,[U O x,U O y,G true],[],l,zz,rfl,⟨rfl,rfl⟩,A.tail.tail,λh1 h2=>?_,λv h1 hv=>?_⟩
  . subst h2;rw[h1]at n
    match ws,j,f,HX.o with
    |[],j,_,_=>simp at j
    |s::l',j,f,hx =>
     have E:t::[]=l':=j;subst E
     simp at n
     rw[n.1]at f
     simp at f
     have hv:okP s=some x:=hx f.2;have k:okP t=some y:=HY.o n.2
     exact⟨f.1,by simp[Q5,okU,f.2,n.2,nv,hv,k]⟩
  . match ws,j,f,HX.o,hv with
    |[],j,_,_,_=>simp at j
    |s::l',j,f,hx,hv =>
     have E:t::l=l':=j;subst E
     cases l with
     |cons a b=>simp[Q5]at hv
     |nil =>
      simp only[Q5]at hv
      split at hv
      · rename_i L
        cases hv
        simp only[Hy]at L
        have k1:okN 0 4294967295 s=true:=L.1;have k2:okN 0 4294967295 t=true:=L.2;have hv:okP s=some x:=hx k1;have k:okP t=some y:=HY.o k2
        exact⟨by rw[<- n,f,h1];simp[k1,k2],rfl,by simp[nv,hv,k]⟩
      . cases hv
def RGT (x:Q8)(c:List Vu)(r:List Qb):Prop:=c=[U O x.ty,G x.mu]/\r=[]
def gtF:List Wd->Option Q8
 |[s,m]=>if okT s&&okM m then some ⟨tyN s,muN m != 0⟩else none
 |_=>none
theorem global_c (q:Nat)(ws:List Wd)(bad:Bool)(w:J)(h:Tw w q ws bad):Ec Q 97 #[Yp (some ⟨q,0,none⟩)] w (EnP gtF RGT agV q w ws bad):=by
 obtain⟨g,hg⟩:∃g,g=w.heap.size:=⟨_,rfl⟩;obtain⟨W,hW⟩:∃W,W=w.alloc (Fc #[U O 0,G false] 74):=⟨_,rfl⟩;have t:Rd q w [box 74 2 g [U O 0,G false]] ws bad W:=by have:=(Rd.start h).box (cur:=#[U O 0,G false]) 74 2 rfl;rw[hW,hg];exact this
 have K1:=Hm (vty_c q ws bad W t.tw);have HR:=Hm t;clear t h;obtain⟨s,H⟩:∃s,s=ws.headD []:=⟨_,rfl⟩;obtain⟨r,t⟩:∃r,r=ws.tail:=⟨_,rfl⟩;obtain⟨z,F⟩:∃z,z=(bad || ws.isEmpty || tyN s==0):=⟨_,rfl⟩;rw[<- H,<- t,<- F]at K1;have HZ:=Hm (⟨H,t,F⟩:s=ws.headD []/\r=ws.tail/\z=(bad || ws.isEmpty || tyN s==0));clear H t F;go_enter func97,ntmps97;go_upto_region 1 with fail
 rw[<- hW,<- hg];clear hW hg;go_wp2_with fail
 refine K1.o.mono ?_;rintro e w1 ⟨rfl,t1,g1⟩;have n:=(HR.o.call t1 g1).box (cur:=#[U O (tyN s),G false]) 74 2 rfl;obtain⟨p,hp⟩:∃p,p=w1.heap.size:=⟨_,rfl⟩;obtain⟨L,E⟩:∃V,V=w1.alloc (Fc #[U O (tyN s),G false] 74):=⟨_,rfl⟩;rw[<- hp,<- E]at n;obtain⟨V2,l⟩:∃V,V=L.alloc (Fc #[Xs ⟨#[99,111,110,115,116]⟩,U O 0,Xs ⟨#[118,97,114]⟩,U O 1] 243):=⟨_,rfl⟩;obtain⟨g2,u⟩:∃g2,g2=L.heap.size:=⟨_,rfl⟩;have R:Bw L.heap.size L V2:=by rw[l];exact bFz.alloc lRz _
 have c:=n.below R;have K2:=Hm (mtL_c L);rw[<- u,<- l]at K2;have M:=Hm (oneL_c q g2 mtL r z V2 c.tw (by rw[l,u];exact mtL_new L) (by have:=n.tw.lt;omega) (by rw[l,u];simp) (by decide));rw[show(N mtL)=2 from rfl]at M;have Y:=Hm c;clear t1 g1 K1 HR n c R l u;go_upto_region 2 with fail
 rw[<- E,<- hp];clear E hp;go_wp2_with fail
 refine K2.o.mono ?_;rintro e w2 ⟨rfl,rfl⟩;clear K2;obtain⟨m,I⟩:∃m,m=r.headD []:=⟨_,rfl⟩;rw[<- I]at M;obtain⟨o,C⟩:∃o,o=lkL mtL m:=⟨_,rfl⟩;rw[<- C]at M;have HO:=Hm (⟨I,C⟩:m=r.headD []/\o=lkL mtL m);clear I C;obtain⟨kk,d⟩:∃k,k=o.getD 0:=⟨_,rfl⟩;rw[<- d]at M;have ar:=Hm d;clear d;go_wp2_with fail
 refine M.o.mono ?_;rintro e w3 ⟨rfl,t3,g3⟩;have a:=Y.o.call t3 g3;obtain⟨a1,f1⟩:=a.b0 1;obtain⟨A,f⟩:∃b,b=(kk != 0):=⟨_,rfl⟩;have B:=a.set 1 (G A);obtain⟨V3,D⟩:∃V,V=w3.setCell ⟨p,1,none⟩ (G A):=⟨_,rfl⟩;rw[<- D]at B;have X:=Hm B;have au:=Hm f;clear a B t3 g3 M Y;go_upto_region 3 with fail
 rw[<- f,<- D];clear f D a1 f1;have c:=X.o;have bh:=(c.b0 0).1;have bg:=(c.b0 1).1;have a:=c.perm (Kq _ _ _);obtain⟨bf,bc⟩:=a.b0 0;obtain⟨bd,ba⟩:=a.b0 1;have HF:=Hm ((a.set 0 (U O (tyN s))).set 1 (G A));clear c a X;generalize j:(z || List.isEmpty r || Option.isNone o)=zz at HF;have aq:=Hm j;clear j;go_wp2;refine Jp (λW'=>Rd q w (box 74 2 g [U O (tyN s),G A]::box 74 2 p [U O (tyN s),G A]::[]) r.tail zz W') HF.o ?_;intro W' hw;have u0:=(hw.b0 0).1;have u1:=(hw.b0 1).1;refine bodyPost_ret (v:=Ag #[U O (tyN s),G A]) (by simp[results,results97,go_sem,u0,u1]) rfl ⟨⟨tyN s,A⟩,[U O (tyN s),G A],[],r.tail,zz,rfl,⟨rfl,rfl⟩,hw.tail.tail,?_⟩;obtain⟨H,t,F⟩:=HZ.o;obtain⟨I,C⟩:=HO.o;have d:=ar.o;have f:=au.o;have j:=aq.o;have e1:z=fl okT ws bad:=by rw[F,H];simp[fl,okT]
 have e2:zz=fl okM r z:=by rw[<- j,C,I];unfold fl okM;cases lkL mtL (r.headD [])<;>simp
 have hb:A=(muN m != 0):=by rw[f,d,C];rfl
 clear F j d f C;subst t hb I H;refine⟨λh1 h2=>?_,λy h1 h2=>?_⟩
 . rw[h1]at e2;obtain⟨y1,m,r2,q2,k2⟩:=Xf.1 e2.symm;rw[y1]at e1;obtain⟨y0,s,r1,q1,k1⟩:=Xf.1 e1.symm;subst q1;have aa:r1=m::r2:=q2;subst aa;have ag:r2=[]:=h2;subst ag;exact⟨y0,by simp[gtF,k1,k2]⟩
 match ws,h2 with
 |[s,m],h2 =>
  simp only[gtF]at h2
  split at h2
  · rename_i hk
    simp only[Hy]at hk
    cases h2
    exact⟨by rw[e2,e1];simp[fl,hk.1,hk.2,h1],rfl,rfl⟩
  . cases h2
 |[],h2=>cases h2
 |[_],h2=>cases h2
 |_::_::_::_,h2=>cases h2
def if1 {α:Type}(o1:Wd->Bool)(f:Wd->α):List Wd->Option α
 |[a]=>if o1 a then some (f a)else none
 |_=>none
theorem if1_ok {o1:Wd->Bool}{f:Wd->α}{bad z:Bool}(b:fl o1 ws bad=z){x:α}(hx:o1 (ws.headD [])=true->x=f (ws.headD [])):(z=false->ws.tail=[]->bad=false/\if1 o1 f ws=some x)/\(∀y,bad=false->if1 o1 f ws=some y->z=false/\ws.tail=[]/\x=y):=by
 refine⟨λh1 h2=>?_,λy h1 h2=>?_⟩
 . rw[h1]at b;obtain⟨k,a,j,l,d⟩:=Xf.1 b;subst l;have c:j=[]:=h2;subst c;exact⟨k,by simp[if1,d,hx d]⟩
 match ws,h2 with
 |[a],h2 =>
  simp only[if1]at h2
  split at h2
  · rename_i g
    cases h2
    exact⟨by rw[<- b];simp[fl,g,h1],rfl,hx g⟩
  . cases h2
 |[],h2=>cases h2
 |_::_::_,h2=>cases h2
def uF:List Wd->Option Int:=if1 okU nv
def datF:List Wd->Option Wd:=if1 okS Qm
def RBy (b:Wd)(c:List Vu)(r:List Qb):Prop:=∃v,c=[v]/\r=[bR v (Iy b)]
theorem u32_e (q:Nat)(ws:List Wd)(bad:Bool)(w:J)(h:Tw w q ws bad)(hl:∀x∈ws,N x<=1048576)(b:Vs q w):Ec Q 90 #[Yp (some ⟨q,0,none⟩)] w (EnP uF RInt oneV' q w ws bad):=by
 refine(u32_p q ws bad w h hl b).mono ?_;rintro e c ⟨x,rfl,a,hx⟩;exact⟨x,[U O x],[],_,_,rfl,⟨rfl,rfl⟩,a,if1_ok rfl hx⟩
theorem str_e (q:Nat)(ws:List Wd)(bad:Bool)(w:J)(h:Tw w q ws bad)(hl:∀x∈ws,N x<=1048576)(d:Vs q w):Ec Q 106 #[Yp (some ⟨q,0,none⟩)] w (EnP datF RBy oneV' q w ws bad):=by
 refine(str_p q ws bad w h hl d).mono ?_;rintro e f ⟨a,c,rfl,b⟩;exact⟨Qm (ws.headD []),[_],[bR _ _],_,_,rfl,⟨_,rfl,rfl⟩,by rw[bR_eq];exact b,if1_ok rfl (λ_=>rfl)⟩
def pre3 {α:Type}(o1 o2 o3:Wd->Bool)(Gz0:Wd->Wd->Wd->List Wd->Option α):List Wd->Option α
 |a::b::c::r=>if o1 a&&(o2 b&&o3 c)then Gz0 a b c r else none
 |_=>none
theorem pre3_ok {o1 o2 o3:Wd->Bool}{Gz0:Wd->Wd->Wd->List Wd->Option α}{bad z:Bool}(f:fl o3 ws.tail.tail (fl o2 ws.tail (fl o1 ws bad))=z){bd:Bool}{d:List Wd}{x:α} (g1:bd=false->d=[]->z=false/\Gz0 (ws.headD []) (ws.tail.headD []) (ws.tail.tail.headD []) ws.tail.tail.tail=some x) (n:∀y,z=false->o3 (ws.tail.tail.headD [])=true->Gz0 (ws.headD []) (ws.tail.headD []) (ws.tail.tail.headD []) ws.tail.tail.tail=some y->bd=false/\d=[]/\x=y):(bd=false->d=[]->bad=false/\pre3 o1 o2 o3 Gz0 ws=some x)/\(∀y,bad=false->pre3 o1 o2 o3 Gz0 ws=some y->bd=false/\d=[]/\x=y):=by
 refine⟨λh1 h2=>?_,λy h1 h2=>?_⟩
 . obtain⟨A,v⟩:=g1 h1 h2;rw[A]at f;obtain⟨l,c,t,C,g⟩:=Xf.1 f;obtain⟨m,b,q,D,j⟩:=Xf.1 l;obtain⟨B,a,u,E,k⟩:=Xf.1 m;subst E;have p:u=b::q:=D;subst p;have o:q=c::t:=C;subst o;exact⟨B,by simp only[pre3,k,j,g];exact v⟩
 match ws,h2,n,f with
 |a::b::c::r,h2,n,f =>
  simp only[pre3]at h2
  split at h2
  · rename_i s
    simp only[Hy]at s
    obtain⟨k,j,g⟩:=s
    exact n y (by rw[<- f];simp[fl,k,j,g,h1]) g h2
  . cases h2
 |[],h2,_,_=>cases h2
 |[_],h2,_,_=>cases h2
 |[_,_],h2,_,_=>cases h2
def XD (a b k:Wd)(r:List Wd):Option Imp :=
 if kdN k=0 then(uF r).map λx=>{ mod:=Sz0 (Qm a),nm:=Sz0 (Qm b),kind:=0,ty:=x,lim:=Qp.z,gl:=Q8.z }
 else if kdN k=3 then(gtF r).map λx=>{ mod:=Sz0 (Qm a),nm:=Sz0 (Qm b),kind:=3,ty:=0,lim:=Qp.z,gl:=x }
 else (Q5 r).map λx=>{ mod:=Sz0 (Qm a),nm:=Sz0 (Qm b),kind:=kdN k,ty:=0,lim:=x,gl:=Q8.z }
def Xy:List Wd->Option Imp:=pre3 JA JA okK XD
theorem kdN_of (s:Wd):kdN s=0\/kdN s=1\/kdN s=2\/kdN s=3:=by
 unfold kdN lkL knL;simp only[List.find?];repeat' (split<;>try simp)
theorem map_ok {β:Type}{F:List Wd->Option α}{f:α->β}{z bd:Bool}{c:List Wd}{x:α}(h1:bd=false->c=[]->z=false/\F ws=some x)(d:∀y,z=false->F ws=some y->bd=false/\c=[]/\x=y):(bd=false->c=[]->z=false/\(F ws).map f=some (f x))/\(∀y,z=false->(F ws).map f=some y->bd=false/\c=[]/\f x=y):=by
 refine⟨λa b=>?_,λy a b=>?_⟩
 . obtain⟨p,q⟩:=h1 a b;exact⟨p,by rw[q];rfl⟩
 obtain⟨u,e,rfl⟩:=Option.map_eq_some_iff.1 b;obtain⟨p,q,r⟩:=d u a e;exact⟨p,q,by rw[r]⟩
theorem imported_c (q:Nat)(ws:List Wd)(bad:Bool)(w:J)(h:Tw w q ws bad)(hl:∀x∈ws,N x<=1048576)(hV:Vs q w):Ec Q 88 #[Yp (some ⟨q,0,none⟩)] w (EnP Xy RImp agV q w ws bad):=by
 obtain⟨g,hg⟩:∃g,g=w.heap.size:=⟨_,rfl⟩;obtain⟨W,hW⟩:∃W,W=w.alloc (Fc #[Xs ⟨#[]⟩,Xs ⟨#[]⟩,U O 0,U O 0,U O 0,U O 0,G false,U O 0,G false] 143):=⟨_,rfl⟩;have hr:Rd q w [box 143 9 g [Xs ⟨#[]⟩,Xs ⟨#[]⟩,U O 0,U O 0,U O 0,U O 0,G false,U O 0,G false]] ws bad W:=by have:=(Rd.start h).box (cur:=#[Xs ⟨#[]⟩,Xs ⟨#[]⟩,U O 0,U O 0,U O 0,U O 0,G false,U O 0,G false]) 143 9 rfl;rw[hW,hg];exact this
 have HV:=Hm hV;have ct:=Hm hr;obtain⟨E,ae⟩:∃s,s=ws.headD []:=⟨_,rfl⟩;obtain⟨t1,I⟩:∃t,t=ws.tail:=⟨_,rfl⟩;obtain⟨z1,aa⟩:∃z,z=fl JA ws bad:=⟨_,rfl⟩;have ak:Hid (∀x∈t1,N x<=1048576):=by show ∀x∈t1,N x<=1048576;rw[I];exact λx hx=>hl x (Mh hx)
 obtain⟨D,ad⟩:∃s,s=t1.headD []:=⟨_,rfl⟩;obtain⟨t2,H⟩:∃t,t=t1.tail:=⟨_,rfl⟩;obtain⟨z2,Y⟩:∃z,z=fl JA t1 z1:=⟨_,rfl⟩;have ay:Hid (∀x∈t2,N x<=1048576):=by show ∀x∈t2,N x<=1048576;rw[H];exact λx hx=>ak.o x (Mh hx)
 obtain⟨s3,ac⟩:∃s,s=t2.headD []:=⟨_,rfl⟩;obtain⟨t3,ab⟩:∃t,t=t2.tail:=⟨_,rfl⟩;obtain⟨z3,X⟩:∃z,z=fl okK t2 z2:=⟨_,rfl⟩;have HE:=Hm (⟨ae,ad,ac,I,H,ab,aa,Y,X⟩:E=ws.headD []/\D=t1.headD []/\s3=t2.headD []/\t1=ws.tail/\t2=t1.tail/\t3=t2.tail/\z1=fl JA ws bad/\z2=fl JA t1 z1/\z3=fl okK t2 z2);have K1:=Hm (name_p q ws bad W hr.tw hl (hr.vs HV.o));rw[<- HE.o.1,<- HE.o.2.2.2.1,<- HE.o.2.2.2.2.2.2.1]at K1;clear hr h ae ad ac I H ab aa Y X;go_enter func88,ntmps88;go_upto_region 1 with fail
 rw[<- hW,<- hg];clear hW hg;go_wp2_with fail
 refine K1.o.mono ?_;rintro e w1 ⟨rfl,r1⟩;have ar:=(ct.o.more r1).box (cur:=#[Xs (Sz0 (Qm E)),Xs ⟨#[]⟩,U O 0,U O 0,U O 0,U O 0,G false,U O 0,G false]) 143 9 rfl;obtain⟨p,hp⟩:∃p,p=w1.heap.size:=⟨_,rfl⟩;obtain⟨V1,cg⟩:∃V,V=w1.alloc (Fc #[Xs (Sz0 (Qm E)),Xs ⟨#[]⟩,U O 0,U O 0,U O 0,U O 0,G false,U O 0,G false] 143):=⟨_,rfl⟩;rw[<- hp,<- cg]at ar;have cs:=Hm ar;clear r1 K1 ct;have K2:=Hm (name_p q t1 z1 V1 ar.tw ak.o (ar.vs HV.o));rw[<- HE.o.2.1,<- HE.o.2.2.2.2.1,<- HE.o.2.2.2.2.2.2.2.1]at K2;clear ar;go_upto_region 2 with fail
 rw[<- cg,<- hp];clear cg hp;go_wp2_with fail
 refine K2.o.mono ?_;rintro e w2 ⟨rfl,r2⟩;have cd:=(cs.o.more r2);obtain⟨ca,fa⟩:=cd.b0 1;have k:=cd.set 1 (Xs (Sz0 (Qm D)));obtain⟨V2,cf⟩:∃V,V=w2.setCell ⟨p,1,none⟩ (Xs (Sz0 (Qm D))):=⟨_,rfl⟩;rw[<- cf]at k;have cr:=Hm k;clear r2 K2 cs cd;have K3:=Hm (kind_p q t2 z2 V2 k.tw );rw[<- HE.o.2.2.1,<- HE.o.2.2.2.2.2.1,<- HE.o.2.2.2.2.2.2.2.2]at K3;clear k;go_upto_region 3 with fail
 rw[<- cf];clear cf ca fa;go_wp2_with fail
 refine K3.o.mono ?_;rintro e w3 ⟨rfl,r3⟩;have cc:=(cr.o.more r3);obtain⟨ca,fa⟩:=cc.b0 2;have j:=cc.set 2 (U O (kdN s3));obtain⟨V3,ce⟩:∃V,V=w3.setCell ⟨p,2,none⟩ (U O (kdN s3)):=⟨_,rfl⟩;rw[<- ce]at j;have af:=Hm j;clear r3 K3 cr cc;have KU:=Hm (λ(ht:∀x∈t3,N x<=1048576)=>u32_e q t3 z3 V3 j.tw ht (j.vs HV.o));have KL:=Hm (λ(ht:∀x∈t3,N x<=1048576)=>limits_c q t3 z3 V3 j.tw ht (j.vs HV.o));have KG:=Hm (global_c q t3 z3 V3 j.tw);have ai:Hid (∀x∈t3,N x<=1048576):=by show ∀x∈t3,N x<=1048576;rw[HE.o.2.2.2.2.2.1];exact λx hx=>ay.o x (Mh hx)
 have kc:=(j.b0 2).1;clear j;go_upto_region 4 with fail
 rw[<- ce];clear ce ca fa;have cw:=Hm (kdN_of s3);obtain⟨kk,m⟩:∃kk,kk=kdN s3:=⟨_,rfl⟩;rw[<- m]at kc af cw;have a1:=Hm m;clear m;by_cases h0:kk=0
 . subst h0;(go_wp2_with fail);refine(KU.o ai.o).mono ?_;rintro e w4 ⟨l,c4,cb,F,L,rfl,⟨rfl,rfl⟩,r4,r,n⟩;have M:=Hm (And.intro r n);simp only[agV,oneV',Tg];have A:=af.o.more (ns:=[]) (V':=w4) r4;obtain⟨ah,ag⟩:=A.b0 3;have B:=(A.set 3 (U O l));obtain⟨V4,C⟩:∃V,V=(w4.setCell ⟨p,3,none⟩ (U O l)):=⟨_,rfl⟩;rw[<- C]at B;have R:=Hm B;clear B A r4 r n kc KU KL KG af;(go_upto_region 12 with fail);rw[<- C];clear C ah ag;have k:=R.o;have b9:=(k.b0 0).1;have b8:=(k.b0 1).1;have b7:=(k.b0 2).1;have b6:=(k.b0 3).1;have b5:=(k.b0 4).1;have b4:=(k.b0 5).1;have b3:=(k.b0 6).1;have b2:=(k.b0 7).1;have bz:=(k.b0 8).1;have j:=k.perm (Kq _ _ _);obtain⟨bw,bn⟩:=j.b0 0;obtain⟨bv,bm⟩:=j.b0 1;obtain⟨bu,bl⟩:=j.b0 2;obtain⟨bt,bk⟩:=j.b0 3;obtain⟨bs,bj⟩:=j.b0 4;obtain⟨br,bh⟩:=j.b0 5;obtain⟨bq,bg⟩:=j.b0 6;obtain⟨bp,bf⟩:=j.b0 7;obtain⟨bo,bd⟩:=j.b0 8;have HF:=Hm (((((((((j.set 0 (Xs (Sz0 (Qm E)))).set 1 (Xs (Sz0 (Qm D)))).set 2 (U O 0)).set 3 (U O l)).set 4 (U O 0)).set 5 (U O 0)).set 6 (G false)).set 7 (U O 0)).set 8 (G false));clear k j R hl ak ay ai;go_wp2;refine Jp (λW'=>Rd q w (box 143 9 g [Xs (Sz0 (Qm E)),Xs (Sz0 (Qm D)),U O 0,U O l,U O 0,U O 0,G false,U O 0,G false]::box 143 9 p [Xs (Sz0 (Qm E)),Xs (Sz0 (Qm D)),U O 0,U O l,U O 0,U O 0,G false,U O 0,G false]::[]) F L W') HF.o ?_;intro W' u;have u0:=(u.b0 0).1;have u1:=(u.b0 1).1;have u2:=(u.b0 2).1;have u3:=(u.b0 3).1;have u4:=(u.b0 4).1;have u5:=(u.b0 5).1;have u6:=(u.b0 6).1;have u7:=(u.b0 7).1;have u8:=(u.b0 8).1;refine bodyPost_ret (v:=Ag #[Xs (Sz0 (Qm E)),Xs (Sz0 (Qm D)),U O 0,U O l,U O 0,U O 0,G false,U O 0,G false]) (by simp[results,results88,go_sem,u0,u1,u2,u3,u4,u5,u6,u7,u8]) rfl ?_;obtain⟨ae,ad,ac,I,H,ab,aa,Y,X⟩:=HE.o;obtain⟨r,n⟩:=M.o;have m:=a1.o
   refine⟨({ mod:=Sz0 (Qm E),nm:=Sz0 (Qm D),kind:=0,ty:=l,lim:=Qp.z,gl:=Q8.z }:Imp),[Xs (Sz0 (Qm E)),Xs (Sz0 (Qm D)),U O 0,U O l,U O 0,U O 0,G false,U O 0,G false],[],F,L,rfl,⟨by rfl,rfl⟩,u.tail.tail,?_⟩;subst ae ad ac I H ab;refine pre3_ok (z:=z3) (by rw[X,Y,aa]) ?_ ?_
   . intro a b;obtain⟨c,d⟩:=(map_ok (f:=λx=>({ mod:=Sz0 (Qm (ws.headD [])),nm:=Sz0 (Qm (ws.tail.headD [])),kind:=0,ty:=x,lim:=Qp.z,gl:=Q8.z }:Imp)) r n).1 a b;refine⟨c,?_⟩;unfold XD;rw[if_pos m.symm];exact d
   intro y a b c;refine(map_ok (f:=λx=>({ mod:=Sz0 (Qm (ws.headD [])),nm:=Sz0 (Qm (ws.tail.headD [])),kind:=0,ty:=x,lim:=Qp.z,gl:=Q8.z }:Imp)) r n).2 y a ?_;unfold XD at c;rw[if_pos m.symm]at c;exact c
 by_cases h3:kk=3
 . subst h3;(go_wp2_with fail);refine(KG.o).mono ?_;rintro e w4 ⟨l,c4,cb,F,L,rfl,⟨rfl,rfl⟩,r4,r,n⟩;have M:=Hm (And.intro r n);simp only[agV,oneV',Tg];have A:=af.o.more (ns:=[]) (V':=w4) r4;obtain⟨ah,ag⟩:=A.b0 7;obtain⟨aw,av⟩:=A.b0 8;have B:=((A.set 7 (U O l.ty)).set 8 (G l.mu));obtain⟨V4,C⟩:∃V,V=((w4.setCell ⟨p,7,none⟩ (U O l.ty)).setCell ⟨p,8,none⟩ (G l.mu)):=⟨_,rfl⟩;rw[<- C]at B;have R:=Hm B;clear B A r4 r n kc KU KL KG af;(go_upto_region 12 with fail);rw[<- C];clear C ah ag aw av;have k:=R.o;have b9:=(k.b0 0).1;have b8:=(k.b0 1).1;have b7:=(k.b0 2).1;have b6:=(k.b0 3).1;have b5:=(k.b0 4).1;have b4:=(k.b0 5).1;have b3:=(k.b0 6).1;have b2:=(k.b0 7).1;have bz:=(k.b0 8).1;have j:=k.perm (Kq _ _ _);obtain⟨bw,bn⟩:=j.b0 0;obtain⟨bv,bm⟩:=j.b0 1;obtain⟨bu,bl⟩:=j.b0 2;obtain⟨bt,bk⟩:=j.b0 3;obtain⟨bs,bj⟩:=j.b0 4;obtain⟨br,bh⟩:=j.b0 5;obtain⟨bq,bg⟩:=j.b0 6;obtain⟨bp,bf⟩:=j.b0 7;obtain⟨bo,bd⟩:=j.b0 8;have HF:=Hm (((((((((j.set 0 (Xs (Sz0 (Qm E)))).set 1 (Xs (Sz0 (Qm D)))).set 2 (U O 3)).set 3 (U O 0)).set 4 (U O 0)).set 5 (U O 0)).set 6 (G false)).set 7 (U O l.ty)).set 8 (G l.mu));clear k j R hl ak ay ai;go_wp2;refine Jp (λW'=>Rd q w (box 143 9 g [Xs (Sz0 (Qm E)),Xs (Sz0 (Qm D)),U O 3,U O 0,U O 0,U O 0,G false,U O l.ty,G l.mu]::box 143 9 p [Xs (Sz0 (Qm E)),Xs (Sz0 (Qm D)),U O 3,U O 0,U O 0,U O 0,G false,U O l.ty,G l.mu]::[]) F L W') HF.o ?_;intro W' u;have u0:=(u.b0 0).1;have u1:=(u.b0 1).1;have u2:=(u.b0 2).1;have u3:=(u.b0 3).1;have u4:=(u.b0 4).1;have u5:=(u.b0 5).1;have u6:=(u.b0 6).1;have u7:=(u.b0 7).1;have u8:=(u.b0 8).1;refine bodyPost_ret (v:=Ag #[Xs (Sz0 (Qm E)),Xs (Sz0 (Qm D)),U O 3,U O 0,U O 0,U O 0,G false,U O l.ty,G l.mu]) (by simp[results,results88,go_sem,u0,u1,u2,u3,u4,u5,u6,u7,u8]) rfl ?_;obtain⟨ae,ad,ac,I,H,ab,aa,Y,X⟩:=HE.o;obtain⟨r,n⟩:=M.o;have m:=a1.o
   refine⟨({ mod:=Sz0 (Qm E),nm:=Sz0 (Qm D),kind:=3,ty:=0,lim:=Qp.z,gl:=l }:Imp),[Xs (Sz0 (Qm E)),Xs (Sz0 (Qm D)),U O 3,U O 0,U O 0,U O 0,G false,U O l.ty,G l.mu],[],F,L,rfl,⟨by rfl,rfl⟩,u.tail.tail,?_⟩;subst ae ad ac I H ab;refine pre3_ok (z:=z3) (by rw[X,Y,aa]) ?_ ?_
   . intro a b;obtain⟨c,d⟩:=(map_ok (f:=λx=>({ mod:=Sz0 (Qm (ws.headD [])),nm:=Sz0 (Qm (ws.tail.headD [])),kind:=3,ty:=0,lim:=Qp.z,gl:=x }:Imp)) r n).1 a b;refine⟨c,?_⟩;unfold XD;rw[if_neg (by rw[<- m];decide),if_pos m.symm];exact d
   intro y a b c;refine(map_ok (f:=λx=>({ mod:=Sz0 (Qm (ws.headD [])),nm:=Sz0 (Qm (ws.tail.headD [])),kind:=3,ty:=0,lim:=Qp.z,gl:=x }:Imp)) r n).2 y a ?_;unfold XD at c;rw[if_neg (by rw[<- m];decide),if_pos m.symm]at c;exact c
 have au:kk=1\/kk=2:=by have:=cw.o;omega
 rcases au with au|au
 . subst au;(go_wp2_with fail);refine(KL.o ai.o).mono ?_;rintro e w4 ⟨l,c4,cb,F,L,rfl,⟨rfl,rfl⟩,r4,r,n⟩;have M:=Hm (And.intro r n);simp only[agV,oneV',Tg];have A:=af.o.more (ns:=[]) (V':=w4) r4;obtain⟨ah,ag⟩:=A.b0 4;obtain⟨aw,av⟩:=A.b0 5;obtain⟨ci,ch⟩:=A.b0 6;have B:=(((A.set 4 (U O l.min)).set 5 (U O l.max)).set 6 (G l.has));obtain⟨V4,C⟩:∃V,V=(((w4.setCell ⟨p,4,none⟩ (U O l.min)).setCell ⟨p,5,none⟩ (U O l.max)).setCell ⟨p,6,none⟩ (G l.has)):=⟨_,rfl⟩;rw[<- C]at B;have R:=Hm B;clear B A r4 r n kc KU KL KG af;(go_upto_region 12 with fail);rw[<- C];clear C ah ag aw av ci ch;have k:=R.o;have b9:=(k.b0 0).1;have b8:=(k.b0 1).1;have b7:=(k.b0 2).1;have b6:=(k.b0 3).1;have b5:=(k.b0 4).1;have b4:=(k.b0 5).1;have b3:=(k.b0 6).1;have b2:=(k.b0 7).1;have bz:=(k.b0 8).1;have j:=k.perm (Kq _ _ _);obtain⟨bw,bn⟩:=j.b0 0;obtain⟨bv,bm⟩:=j.b0 1;obtain⟨bu,bl⟩:=j.b0 2;obtain⟨bt,bk⟩:=j.b0 3;obtain⟨bs,bj⟩:=j.b0 4;obtain⟨br,bh⟩:=j.b0 5;obtain⟨bq,bg⟩:=j.b0 6;obtain⟨bp,bf⟩:=j.b0 7;obtain⟨bo,bd⟩:=j.b0 8;have HF:=Hm (((((((((j.set 0 (Xs (Sz0 (Qm E)))).set 1 (Xs (Sz0 (Qm D)))).set 2 (U O 1)).set 3 (U O 0)).set 4 (U O l.min)).set 5 (U O l.max)).set 6 (G l.has)).set 7 (U O 0)).set 8 (G false));clear k j R hl ak ay ai;go_wp2;refine Jp (λW'=>Rd q w (box 143 9 g [Xs (Sz0 (Qm E)),Xs (Sz0 (Qm D)),U O 1,U O 0,U O l.min,U O l.max,G l.has,U O 0,G false]::box 143 9 p [Xs (Sz0 (Qm E)),Xs (Sz0 (Qm D)),U O 1,U O 0,U O l.min,U O l.max,G l.has,U O 0,G false]::[]) F L W') HF.o ?_;intro W' u;have u0:=(u.b0 0).1;have u1:=(u.b0 1).1;have u2:=(u.b0 2).1;have u3:=(u.b0 3).1;have u4:=(u.b0 4).1;have u5:=(u.b0 5).1;have u6:=(u.b0 6).1;have u7:=(u.b0 7).1;have u8:=(u.b0 8).1;refine bodyPost_ret (v:=Ag #[Xs (Sz0 (Qm E)),Xs (Sz0 (Qm D)),U O 1,U O 0,U O l.min,U O l.max,G l.has,U O 0,G false]) (by simp[results,results88,go_sem,u0,u1,u2,u3,u4,u5,u6,u7,u8]) rfl ?_
   obtain⟨ae,ad,ac,I,H,ab,aa,Y,X⟩:=HE.o;obtain⟨r,n⟩:=M.o;have m:=a1.o;refine⟨({ mod:=Sz0 (Qm E),nm:=Sz0 (Qm D),kind:=1,ty:=0,lim:=l,gl:=Q8.z }:Imp),[Xs (Sz0 (Qm E)),Xs (Sz0 (Qm D)),U O 1,U O 0,U O l.min,U O l.max,G l.has,U O 0,G false],[],F,L,rfl,⟨by rfl,rfl⟩,u.tail.tail,?_⟩;subst ae ad ac I H ab;refine pre3_ok (z:=z3) (by rw[X,Y,aa]) ?_ ?_
   . intro a b;obtain⟨c,d⟩:=(map_ok (f:=λx=>({ mod:=Sz0 (Qm (ws.headD [])),nm:=Sz0 (Qm (ws.tail.headD [])),kind:=1,ty:=0,lim:=x,gl:=Q8.z }:Imp)) r n).1 a b;refine⟨c,?_⟩;unfold XD;rw[if_neg (by rw[<- m];decide),if_neg (by rw[<- m];decide),<- m];exact d
   intro y a b c;refine(map_ok (f:=λx=>({ mod:=Sz0 (Qm (ws.headD [])),nm:=Sz0 (Qm (ws.tail.headD [])),kind:=1,ty:=0,lim:=x,gl:=Q8.z }:Imp)) r n).2 y a ?_;unfold XD at c;rw[if_neg (by rw[<- m];decide),if_neg (by rw[<- m];decide),<- m]at c;exact c
 subst au;go_wp2_with fail
 refine(KL.o ai.o).mono ?_;rintro e w4 ⟨l,c4,cb,F,L,rfl,⟨rfl,rfl⟩,r4,r,n⟩;have M:=Hm (And.intro r n);simp only[agV,oneV',Tg];have A:=af.o.more (ns:=[]) (V':=w4) r4;obtain⟨ah,ag⟩:=A.b0 4;obtain⟨aw,av⟩:=A.b0 5;obtain⟨ci,ch⟩:=A.b0 6;have B:=(((A.set 4 (U O l.min)).set 5 (U O l.max)).set 6 (G l.has));obtain⟨V4,C⟩:∃V,V=(((w4.setCell ⟨p,4,none⟩ (U O l.min)).setCell ⟨p,5,none⟩ (U O l.max)).setCell ⟨p,6,none⟩ (G l.has)):=⟨_,rfl⟩;rw[<- C]at B;have R:=Hm B;clear B A r4 r n kc KU KL KG af;go_upto_region 12 with fail
 rw[<- C];clear C ah ag aw av ci ch;have k:=R.o;have b9:=(k.b0 0).1;have b8:=(k.b0 1).1;have b7:=(k.b0 2).1;have b6:=(k.b0 3).1;have b5:=(k.b0 4).1;have b4:=(k.b0 5).1;have b3:=(k.b0 6).1;have b2:=(k.b0 7).1;have bz:=(k.b0 8).1;have j:=k.perm (Kq _ _ _);obtain⟨bw,bn⟩:=j.b0 0;obtain⟨bv,bm⟩:=j.b0 1;obtain⟨bu,bl⟩:=j.b0 2;obtain⟨bt,bk⟩:=j.b0 3;obtain⟨bs,bj⟩:=j.b0 4;obtain⟨br,bh⟩:=j.b0 5;obtain⟨bq,bg⟩:=j.b0 6;obtain⟨bp,bf⟩:=j.b0 7;obtain⟨bo,bd⟩:=j.b0 8;have HF:=Hm (((((((((j.set 0 (Xs (Sz0 (Qm E)))).set 1 (Xs (Sz0 (Qm D)))).set 2 (U O 2)).set 3 (U O 0)).set 4 (U O l.min)).set 5 (U O l.max)).set 6 (G l.has)).set 7 (U O 0)).set 8 (G false));clear k j R hl ak ay ai;go_wp2;refine Jp (λW'=>Rd q w (box 143 9 g [Xs (Sz0 (Qm E)),Xs (Sz0 (Qm D)),U O 2,U O 0,U O l.min,U O l.max,G l.has,U O 0,G false]::box 143 9 p [Xs (Sz0 (Qm E)),Xs (Sz0 (Qm D)),U O 2,U O 0,U O l.min,U O l.max,G l.has,U O 0,G false]::[]) F L W') HF.o ?_;intro W' u;have u0:=(u.b0 0).1;have u1:=(u.b0 1).1;have u2:=(u.b0 2).1;have u3:=(u.b0 3).1;have u4:=(u.b0 4).1;have u5:=(u.b0 5).1;have u6:=(u.b0 6).1;have u7:=(u.b0 7).1;have u8:=(u.b0 8).1;refine bodyPost_ret (v:=Ag #[Xs (Sz0 (Qm E)),Xs (Sz0 (Qm D)),U O 2,U O 0,U O l.min,U O l.max,G l.has,U O 0,G false]) (by simp[results,results88,go_sem,u0,u1,u2,u3,u4,u5,u6,u7,u8]) rfl ?_;obtain⟨ae,ad,ac,I,H,ab,aa,Y,X⟩:=HE.o;obtain⟨r,n⟩:=M.o;have m:=a1.o;refine⟨({ mod:=Sz0 (Qm E),nm:=Sz0 (Qm D),kind:=2,ty:=0,lim:=l,gl:=Q8.z }:Imp),[Xs (Sz0 (Qm E)),Xs (Sz0 (Qm D)),U O 2,U O 0,U O l.min,U O l.max,G l.has,U O 0,G false],[],F,L,rfl,⟨by rfl,rfl⟩,u.tail.tail,?_⟩;subst ae ad ac I H ab;refine pre3_ok (z:=z3) (by rw[X,Y,aa]) ?_ ?_
 . intro a b;obtain⟨c,d⟩:=(map_ok (f:=λx=>({ mod:=Sz0 (Qm (ws.headD [])),nm:=Sz0 (Qm (ws.tail.headD [])),kind:=2,ty:=0,lim:=x,gl:=Q8.z }:Imp)) r n).1 a b;refine⟨c,?_⟩;unfold XD;rw[if_neg (by rw[<- m];decide),if_neg (by rw[<- m];decide),<- m];exact d
 intro y a b c;refine(map_ok (f:=λx=>({ mod:=Sz0 (Qm (ws.headD [])),nm:=Sz0 (Qm (ws.tail.headD [])),kind:=2,ty:=0,lim:=x,gl:=Q8.z }:Imp)) r n).2 y a ?_;unfold XD at c;rw[if_neg (by rw[<- m];decide),if_neg (by rw[<- m];decide),<- m]at c;exact c
