import Derived.Test.YtaccbbndmmhenaaGreatGan
set_option linter.all false
set_option maxHeartbeats 400000000
set_option maxRecDepth 100000
namespace Go.Proofs
open Value renaming int->U,slice->S,bool->G,pointer->Yp
open IntKind renaming i64->O
open Ending renaming returned->Z
open Obj renaming cells->Fc
open Go renaming World->J,Calls->Ec,Value->Vu,Addr->Ad
open Go.RowKit renaming Below->Bw
open Tryz renaming prog->Q
open Tryz
open Nat renaming le_trans->Kq
open Bool renaming false_eq_true->Mf
open List renaming map_cons->Hp,cons_append->Lz,length_cons->Mh,perm_iff_count->Kn,count_cons->Th,map_take->Eg,length->N
open IntKind renaming wrap_i64->Kz
open List.Perm renaming swap->Kf
namespace YtaccbbndmmhenaaGreat.Va
open Go.RowKit Go.Sort
variable {b:Blk}{po a nl:Int}{w0 V:J}{ks:List Qb}{bcs:List Vu}{D n g p:Nat}{sv bv tv rv lv:Vu}
structure MS where
 s:Fn
 e:Int
variable {m:MS}
def fail (m:MS)(f:Int):MS:=if m.e=0 then { m with e:=f }else m
def JE (m:MS)(s:Fn):MS:={ m with s:=s }
def QD (m:MS)(want:Int):Int × MS :=
 if(N m.s.jj)<=(top m.s).gk then(want,if(top m.s).jq then m else fail m 6)else
  (if m.s.jj.getLastD 0=0 then want else m.s.jj.getLastD 0,
   if m.s.jj.getLastD 0≠want/\m.s.jj.getLastD 0≠0/\want≠0 then fail (JE m { m.s with jj:=m.s.jj.dropLast }) 6 else JE m { m.s with jj:=m.s.jj.dropLast })
def JR (m:MS):List Int->MS
 |[]=>m
 |t::ts=>JR (QD m t).2 ts
def Qq (m:MS)(ts:List Int):MS:=JR m ts.reverse
def Xb (m:MS)(ts:List Int):MS:=JE m (push m.s ts)
def mdie (m:MS):MS:=JE m (die m.s)
def mopen (m:MS)(op:Int)(rs:List Int):MS:=JE (if op=4 then(QD m 127).2 else m) (QI (if op=4 then(QD m 127).2 else m).s op rs)
def mchk (m:MS)(els:Bool):MS:=if(Qq m (top m.s).results).s.jj.length≠(top m.s).gk\/(els=false/\(top m.s).op=4/\(top m.s).results≠[])then fail (Qq m (top m.s).results) 6 else Qq m (top m.s).results
def els5 (b:Blk):Blk:={ b with op:=if b.op=4 then 5 else b.op,jq:=false }
def Jb (m:MS)(els:Bool):MS :=
 if(mchk m els).e≠0 then mchk m els else
 if els then JE (mchk m els) { (mchk m els).s with cq:=(mchk m els).s.cq.dropLast++[els5 (top m.s)] }
 else JE (mchk m els) (push { (mchk m els).s with cq:=(mchk m els).s.cq.dropLast } (top m.s).results)
def mtab (m:MS)(l:List Int)(a:Int):MS:=if l.all (λi=>decide ((label m.s i).gj=(label m.s a).gj))then m else fail m 6
def mtable (m:MS)(l:List Int)(a:Int):MS:=mdie (Qq (mtab (QD m 127).2 l a) (label (QD m 127).2.s a).gj)
def mselect (m:MS):MS:=Xb (QD (QD (QD m 127).2 0).2 (QD (QD m 127).2 0).1).2 [(QD (QD (QD m 127).2 0).2 (QD (QD m 127).2 0).1).1]
def mapp (m:MS)(t:Qc):MS:=Xb (Qq m t.ps) t.rs
def Q9 (x:Ctx)(oty:Int->Qc)(m:MS)(y:In):MS :=
 if y.op=0 then mdie m else
 if y.op=2\/y.op=3\/y.op=4 then mopen m y.op (Qh y.a)else
 if y.op=5\/y.op=11 then Jb m (decide (y.op=5))else
 if y.op=12 then mdie (Qq m (label m.s y.a).gj)else
 if y.op=14 then mtable m y.l y.a else
 if y.op=15 then mdie (Qq m (m.s.cq.headD ⟨0,[],[],0,false⟩).results)else
 if y.op=26 then(QD m 0).2 else
 if y.op=27 then mselect m else mapp m (QW x oty m.s y)
def Qp (x:Ctx)(frm:Int->Int)(s:Fn)(y:In):Int :=
 if Qk x frm s y=false then 2 else
 if frm y.op=5/\Jm y.op<y.a then 8 else
 if y.op=36/\(Q6 x y.a).mu=false then 9 else 0
def Qt (x:Ctx)(frm:Int->Int)(oty:Int->Qc)(s:Fn)(y:In):MS:=if Qp x frm s y≠0 then⟨s,Qp x frm s y⟩else Q9 x oty ⟨s,0⟩ y
def Rf (r:R Fn)(m:MS):Prop:=(∃s,r=.ok s/\m=⟨s,0⟩)\/∃f,r=.error f/\m.e=f/\f≠0
def E0 (g:MS->MS):Prop:=∀m,m.e≠0->(g m).e=m.e
theorem fail_e (m:MS)(f:Int)(h:m.e≠0):fail m f=m:=by simp[fail,h]
theorem fail_s (m:MS)(f:Int):(fail m f).s=m.s:=by unfold fail;split<;>rfl
theorem Rf.bind {r:R Fn}(h:Rf r m){f:Fn->R Fn}{g:MS->MS}(c:E0 g)(d:∀s,r=.ok s->Rf (f s) (g ⟨s,0⟩)):Rf (r.bind f) (g m):=by
 rcases h with ⟨s,rfl,rfl⟩|⟨e,rfl,b,a⟩
 . exact d s rfl
 exact .inr ⟨e,rfl,(c m (by rw[b];exact a)).trans b,a⟩
theorem Rf.map {r:R Fn}(h:Rf r m)(f:Fn->Fn):Rf (r.map f) (JE m (f m.s)):=by
 rcases h with ⟨s,rfl,rfl⟩|⟨e,rfl,b,a⟩
 . exact .inl ⟨_,rfl,rfl⟩
 exact .inr ⟨e,rfl,b,a⟩
theorem mpop_rf (s:Fn)(want:Int):(∃t s',pop s want=.ok (t,s')/\QD ⟨s,0⟩ want=(t,⟨s',0⟩))\/(pop s want=.error 6/\(QD ⟨s,0⟩ want).2.e=6):=by
 unfold pop QD;dsimp only;by_cases h:N s.jj<=(top s).gk
 . rw[if_pos h,if_pos h];cases hd:(top s).jq
   . right;simp[fail]
   left;exact⟨want,s,by simp,by simp⟩
 rw[if_neg h,if_neg h];by_cases a:s.jj.getLastD 0=0
 . left;refine⟨want,{ s with jj:=s.jj.dropLast },by rw[if_pos a],?_⟩;rw[if_pos a,if_neg (λc=>c.2.1 a)];rfl
 by_cases b:want≠0/\want≠s.jj.getLastD 0
 . right;refine⟨by rw[if_neg a,if_pos b],?_⟩;have c:s.jj.getLastD 0≠want/\s.jj.getLastD 0≠0/\want≠0:=⟨λe=>b.2 e.symm,a,b.1⟩;show(if s.jj.getLastD 0≠want/\s.jj.getLastD 0≠0/\want≠0 then fail (JE ⟨s,0⟩ { s with jj:=s.jj.dropLast }) 6 else JE ⟨s,0⟩ { s with jj:=s.jj.dropLast }).e=6;rw[if_pos c];rfl
 left;refine⟨_,_,by rw[if_neg a,if_neg b],?_⟩;rw[if_neg a,if_neg (λc=>b ⟨c.2.2,λe=>c.1 e.symm⟩)];rfl
theorem mpop_e (want:Int)(m:MS)(h:m.e≠0):(QD m want).2.e=m.e:=by
 unfold QD;split
 · dsimp only;split
   · rfl
   rw[fail_e m 6 h]
 dsimp only;split
 · rw[fail_e _ 6 (by exact h)];rfl
 rfl
theorem mpop1_rf (s:Fn)(want:Int):Rf (Q7 s want) (QD ⟨s,0⟩ want).2:=by
 rcases mpop_rf s want with ⟨t,c,b,a⟩|⟨b,a⟩
 . exact .inl ⟨c,by rw[Q7,b];rfl,by rw[a]⟩
 exact .inr ⟨6,by rw[Q7,b];rfl,a,by decide⟩
theorem mpopR_e:∀(a:List Int) (m:MS),m.e≠0->(JR m a).e=m.e
 |[],m,h=>rfl
 |t::a,m,h=>by
  have b:=mpop_e t m h;rw[JR,mpopR_e a _ (by rw[b];exact h),b]
theorem mpopR_rf:∀(a:List Int) (s:Fn),Rf (XN s a) (JR ⟨s,0⟩ a)
 |[],s=>.inl ⟨s,rfl,rfl⟩
 |t::a,s=>by
  rw[XN,JR]
  exact(mpop1_rf s t).bind (g:=λm=>JR m a) (mpopR_e a) λs' _=>mpopR_rf a s'
theorem mpopAll_rf (s:Fn)(a:List Int):Rf (Xq s a) (Qq ⟨s,0⟩ a):=mpopR_rf _ s
theorem mpopAll_e (a:List Int):E0 (λm=>Qq m a):=mpopR_e _
structure Pk (s s':Fn):Prop where
 bl:s'.cq=s.cq
 ps:s'.ps=s.ps
 lo:s'.gq=s.gq
 ln:N s'.jj<=N s.jj
 iv:Inv s->Inv s'
theorem Pk.refl (s:Fn):Pk s s:=⟨rfl,rfl,rfl,lRz,id⟩
theorem Pk.trans {a b c:Fn}(h:Pk a b)(k:Pk b c):Pk a c:=⟨k.bl.trans h.bl,k.ps.trans h.ps,k.lo.trans h.lo,Kq k.ln h.ln,λi=>k.iv (h.iv i)⟩
theorem Pk.label {a b:Fn}(h:Pk a b)(i:Int):label b i=label a i:=by simp[Va.label,h.bl]
theorem XO (m:MS)(want:Int):Pk m.s (QD m want).2.s:=by
 unfold QD;split
 · dsimp only;split
   · exact Pk.refl _
   rw[fail_s];exact Pk.refl _
 rename_i h;have k:Pk m.s { m.s with jj:=m.s.jj.dropLast }:=⟨rfl,rfl,rfl,by simp,fun i=>⟨i.tk,i.so,fun _=>by
  show(top m.s).gk<=N m.s.jj.dropLast
  simp;omega⟩⟩
 dsimp only;split
 · rw[fail_s];exact k
 exact k
theorem mpopR_pk:∀(a:List Int) (m:MS),Pk m.s (JR m a).s
 |[],m=>Pk.refl _
 |t::a,m=>(XO m t).trans (mpopR_pk a _)
theorem JI (m:MS)(a:List Int):Pk m.s (Qq m a).s:=mpopR_pk _ m
theorem mapp_rf (s:Fn)(t:Qc):Rf (apply s t) (mapp ⟨s,0⟩ t):=(mpopAll_rf s t.ps).map _
theorem leave_rf (s:Fn)(a:List Int):Rf (JC s a) (mdie (Qq ⟨s,0⟩ a)):=(mpopAll_rf s a).map _
theorem mselect_rf (s:Fn):Rf ((Q7 s 127).bind λs1=>(pop s1 0).bind λp=>(pop p.2 p.1).map λq=>push q.2 [q.1]) (mselect ⟨s,0⟩):=by
 have E:E0 (λm=>Xb (QD (QD m 0).2 (QD m 0).1).2 [(QD (QD m 0).2 (QD m 0).1).1]):=λm h=>by show(QD (QD m 0).2 (QD m 0).1).2.e=m.e;have a:=mpop_e 0 m h;rw[mpop_e _ _ (by rw[a];exact h),a]
 refine(mpop1_rf s 127).bind (g:=λm=>Xb (QD (QD m 0).2 (QD m 0).1).2 [(QD (QD m 0).2 (QD m 0).1).1]) E λs1 _=>?_;try dsimp only
 rcases mpop_rf s1 0 with ⟨t,b,a,c⟩|⟨a,c⟩
 . rw[a,c];show Rf ((pop b t).map λq=>push q.2 [q.1]) (Xb (QD ⟨b,0⟩ t).2 [(QD ⟨b,0⟩ t).1]);rcases mpop_rf b t with ⟨u,j,f,d⟩|⟨f,d⟩
   . rw[f,d];exact .inl ⟨_,rfl,rfl⟩
   rw[f];exact .inr ⟨6,rfl,d,by decide⟩
 rw[a];exact .inr ⟨6,rfl,by show(QD (QD ⟨s1,0⟩ 0).2 _).2.e=6;rw[mpop_e _ _ (by rw[c];decide),c],by decide⟩
theorem mtab_e (l:List Int)(a:Int)(m:MS)(h:m.e≠0):mtab m l a=m:=by
 unfold mtab;split
 · rfl
 exact fail_e m 6 h
theorem mtable_rf (s:Fn)(l:List Int)(a:Int):Rf ((Q7 s 127).bind λs'=>if l.all (λi=>decide ((label s' i).gj=(label s' a).gj))then JC s' (label s' a).gj else .error 6) (mtable ⟨s,0⟩ l a):=by
 have E:E0 (λm=>mdie (Qq (mtab m l a) (label m.s a).gj)):=λm h=>by show(Qq (mtab m l a) (label m.s a).gj).e=m.e;rw[mtab_e l a m h];exact mpopAll_e _ m h
 refine(mpop1_rf s 127).bind (g:=λm=>mdie (Qq (mtab m l a) (label m.s a).gj)) E λs1 _=>?_;try dsimp only
 by_cases h:l.all (λi=>decide ((label s1 i).gj=(label s1 a).gj))=true
 . rw[if_pos h,mtab,if_pos h];exact leave_rf s1 _
 rw[if_neg h];refine .inr ⟨6,rfl,?_,by decide⟩;have e:mtab ⟨s1,0⟩ l a=⟨s1,6⟩:=by rw[mtab,if_neg h];rfl
 show(Qq (mtab ⟨s1,0⟩ l a) _).e=6;rw[e];exact mpopAll_e _ ⟨s1,6⟩ (by show(6:Int)≠0;decide)
theorem mopen_rf (s:Fn)(op:Int)(rs:List Int)(h:op=2\/op=3\/op=4):Rf (if op=4 then(Q7 s 127).map (QI · 4 rs)else .ok (QI s op rs)) (mopen ⟨s,0⟩ op rs):=by
 unfold mopen;by_cases a:op=4
 . subst a;simp only[if_true];exact(mpop1_rf s 127).map _
 simp only[if_neg a];exact .inl ⟨_,rfl,rfl⟩
theorem mclose_rf (s:Fn)(a:Bool)(i:Inv s)(t:s.cq≠[])(y:a=true->(top s).op=4):Rf (if a then(Qw s).map λp=>QI p.2 5 p.1.results else (Qw s).bind λp=>if p.1.op=4/\p.1.results≠[]then .error 6 else .ok (push p.2 p.1.results)) (Jb ⟨s,0⟩ a):=by
 rcases mpopAll_rf s (top s).results with ⟨b,r,l⟩|⟨f,r,l,o⟩
 . obtain⟨z,D,C,B,A⟩:=Jt r i;(have n:Qw s=if(N b.jj)≠(top s).gk then .error 6 else .ok (top s,{ b with cq:=b.cq.dropLast }):=by rw[Qw,r];rfl);(have d:mchk ⟨s,0⟩ a=if(N b.jj)≠(top s).gk\/(a=false/\(top s).op=4/\(top s).results≠[])then⟨b,6⟩else ⟨b,0⟩:=by unfold mchk;rw[l];rfl);by_cases k:N b.jj=(top s).gk
   . (have g:Qw s=.ok (top s,{ b with cq:=b.cq.dropLast }):=by rw[n,if_neg (λc=>c k)]);rw[g];have d:mchk ⟨s,0⟩ a=if a=false/\(top s).op=4/\(top s).results≠[]then⟨b,6⟩else ⟨b,0⟩:=by
      rw[d];by_cases q:a=false/\(top s).op=4/\(top s).results≠[]
      . rw[if_pos (.inr q),if_pos q]
      rw[if_neg (λc=>c.elim (λc=>c k) q),if_neg q]
     cases a
     . simp only[Mf,if_false];show Rf (if(top s).op=4/\(top s).results≠[]then .error 6 else .ok (push { b with cq:=b.cq.dropLast } (top s).results)) _;by_cases m:(top s).op=4/\(top s).results≠[]
       . rw[if_pos m];rw[if_pos ⟨rfl,m⟩]at d;exact .inr ⟨6,rfl,by simp[Jb,d],by decide⟩
       rw[if_neg m];rw[if_neg (λc=>m c.2)]at d;exact .inl ⟨_,rfl,by simp[Jb,d,JE]⟩
     rw[if_neg (by simp)]at d;simp only[if_true];refine .inl ⟨_,rfl,?_⟩;have u:=y rfl;have v:=i.tk (top s) (top_mem t);simp only[Jb,d,JE,QI,els5];simp[u,k,z];rw[v,u];simp
   (have g:Qw s=.error 6:=by rw[n,if_pos k]);rw[g];rw[if_pos (.inl k)]at d;(have j:(Jb ⟨s,0⟩ a).e=6:=by simp[Jb,d]);cases a
   . exact .inr ⟨6,rfl,j,by decide⟩
   exact .inr ⟨6,rfl,j,by decide⟩
 have n:Qw s=.error f:=by rw[Qw,r];rfl
 have d:(mchk ⟨s,0⟩ a).e=f:=by
  unfold mchk;dsimp only;split
  · rw[fail_e _ 6 (by rw[l];exact o)];exact l
  exact l
 have j:(Jb ⟨s,0⟩ a).e=f:=by unfold Jb;rw[if_pos (by rw[d];exact o)];exact d
 rw[n];cases a
 . exact .inr ⟨f,rfl,j,o⟩
 exact .inr ⟨f,rfl,j,o⟩
theorem mstep_rf (x:Ctx)(frm:Int->Int)(oty:Int->Qc)(s:Fn)(y:In)(i:Inv s)(o:s.cq≠[])(u:y.op=5->(top s).op=4):Rf (step x frm oty s y) (Qt x frm oty s y):=by
 unfold step Qt;by_cases j:Qk x frm s y=false
 . (have e:Qp x frm s y=2:=by rw[Qp,if_pos j]);rw[if_pos j,e,if_pos (by decide)];exact .inr ⟨2,rfl,rfl,by decide⟩
 by_cases k:frm y.op=5/\Jm y.op<y.a
 . (have e:Qp x frm s y=8:=by rw[Qp,if_neg j,if_pos k]);rw[if_neg j,if_pos k,e,if_pos (by decide)];exact .inr ⟨8,rfl,rfl,by decide⟩
 by_cases q:y.op=36/\(Q6 x y.a).mu=false
 . (have e:Qp x frm s y=9:=by rw[Qp,if_neg j,if_neg k,if_pos q]);rw[if_neg j,if_neg k,if_pos q,e,if_pos (by decide)];exact .inr ⟨9,rfl,rfl,by decide⟩
 have e:Qp x frm s y=0:=by rw[Qp,if_neg j,if_neg k,if_neg q]
 rw[if_neg j,if_neg k,if_neg q,e,if_neg (by decide)];unfold JQ Q9;dsimp only;by_cases p:y.op=0
 . rw[if_pos p,if_pos p];exact leave_rf s []
 rw[if_neg p,if_neg p];by_cases t:y.op=2\/y.op=3
 . have:=mopen_rf s y.op (Qh y.a) (by omega);rw[if_neg (by omega)]at this;rw[if_pos t,if_pos (show y.op=2\/y.op=3\/y.op=4 by omega)];exact this
 rw[if_neg t];by_cases r:y.op=4
 . have:=mopen_rf s y.op (Qh y.a) (by omega);rw[if_pos r]at this;rw[if_pos r,if_pos (show y.op=2\/y.op=3\/y.op=4 by omega)];exact this
 rw[if_neg r,if_neg (show ¬(y.op=2\/y.op=3\/y.op=4) by omega)];by_cases m:y.op=5
 . have:=mclose_rf s true i o (λ_=>u m);simp only[if_true]at this;rw[if_pos m,if_pos (show y.op=5\/y.op=11 by omega),show decide (y.op=5)=true by simp[m]];exact this
 rw[if_neg m];by_cases n:y.op=11
 . have:=mclose_rf s false i o (λh=>by cases h);simp only[Mf,if_false]at this;rw[if_pos n,if_pos (show y.op=5\/y.op=11 by omega),show decide (y.op=5)=false by simp[m]];exact this
 rw[if_neg n,if_neg (show ¬(y.op=5\/y.op=11) by omega)];by_cases g:y.op=12
 . rw[if_pos g,if_pos g];exact leave_rf s _
 rw[if_neg g,if_neg g];by_cases f:y.op=14
 . rw[if_pos f,if_pos f];exact mtable_rf s y.l y.a
 rw[if_neg f,if_neg f];by_cases d:y.op=15
 . rw[if_pos d,if_pos d];exact leave_rf s _
 rw[if_neg d,if_neg d];by_cases c:y.op=26
 . rw[if_pos c,if_pos c];exact mpop1_rf s 0
 rw[if_neg c,if_neg c];by_cases b:y.op=27
 . rw[if_pos b,if_pos b];exact mselect_rf s
 rw[if_neg b,if_neg b];exact mapp_rf s _
theorem locG_ps:∀(a:List Int) (gs:List Grp) (i:Int),0<=i->XU (a.map (λt=>⟨1,t⟩)++gs) i=if i<N a then a.getD i.toNat 0 else XU gs (i-N a)
 |[],gs,i,h=>by simp;intro b;omega
 |p::a,gs,i,h=>by
  simp only[Hp,Lz,XU]
  by_cases c:i<1
  . have:i=0:=by omega
    subst this
    simp
  . rw[if_neg c,locG_ps a gs (i-1) (by omega)];obtain⟨j,rfl⟩:∃j:Nat,i=(j+1:Nat):=⟨(i-1).toNat,by omega⟩;have e:((j+1:Nat):Int)-1=j:=by omega
    rw[e]
    simp only[Mh,Int.toNat_natCast]
    by_cases b:(j:Int)<N a
    . rw[if_pos b,if_pos (by omega)];simp
    . rw[if_neg b,if_neg (by omega)];congr 1;omega
abbrev QM (s:Fn):List Grp:=s.ps.map (λt=>⟨1,t⟩)++s.gq
theorem loc_eq (s:Fn)(i:Int)(h:0<=i):XU (QM s) i=loc s i:=by rw[loc,locG_ps _ _ _ h]
theorem nloc_eq (s:Fn):((QM s).map (·.n)).sum=Xj s:=by
 rw[Xj,List.map_append,List.sum_append];congr 1
 simp only[List.map_map];induction s.ps with
 |nil=>rfl
 |cons p ps ih=>simp only[Hp,List.sum_cons,Mh,ih];show(1:Int)+_=_;simp;omega
abbrev sb (lv:Vu)(nl:Int)(s b:Vu)(e po:Int):List Vu:=[lv,U O nl,s,b,U O e,U O po]
abbrev mbk (tv rv:Vu)(h:Int)(d i:Bool)(a:Int)(l:Bool):List Vu:=[tv,rv,U O h,G d,G i,U O a,G l]
def MRep (D:Nat)(w0:J)(ks:List Qb)(b:Blk)(cs:List Vu):Prop:=∃tv rv a,cs=mbk tv rv b.gk b.jq (decide (b.op=4)) a (decide (b.op=3))/\Ty D w0 ks tv b.gj/\Ty D w0 ks rv b.results
theorem mrep_len (b:Blk)(c:List Vu)(h:MRep D w0 ks b c):N c=7:=by obtain⟨tv,rv,a,rfl,_⟩:=h;rfl
abbrev mxR (p:Nat)(lv:Vu)(nl:Int)(sv bv:Vu)(e po:Int):Qb:=box 89 6 p (sb lv nl sv bv e po)
abbrev mlR (n:Nat)(bv:Vu)(cs:List Vu):Qb:=⟨174,7,n,bv,cs⟩
def MSt (D:Nat)(w0:J)(p:Nat)(lv:Vu)(nl:Int)(ks:List Qb)(m:MS)(V:J):Prop:=∃sv bv bcs po,Mo D w0 (mxR p lv nl sv bv m.e po::stR m.s sv::mlR (N m.s.cq) bv bcs::ks) V/\Fl (MRep D w0 ks) m.s.cq bcs
section
variable {D:Nat}{w0:J}{p:Nat}{lv:Vu}{nl:Int}{ks:List Qb}{m:MS}{V W V1:J}
theorem MSt.keep (h:MSt D w0 p lv nl ks m V)(a:Bw V.heap.size V W):MSt D w0 p lv nl ks m W:=by
 obtain⟨sv,bv,bcs,po,c,b⟩:=h;exact⟨sv,bv,bcs,po,c.keep a,b⟩
theorem MSt.drewN (h:MSt D w0 p lv nl ks m V)(n:Nat):MSt D w0 p lv nl ks m (V.drewN n):=h.keep ⟨rfl,rfl,rfl,lRz,λ_ _=>rfl⟩
theorem MSt.mo (h:MSt D w0 p lv nl ks m V):Mo D w0 ks V:=by
 obtain⟨sv,bv,bcs,po,a,b⟩:=h;exact a.tail.tail.tail
theorem MSt.new {ns}(h:MSt D w0 p lv nl ks m V)(d:Bw V.heap.size V W)(hn:Own V.heap.size W ns):MSt D w0 p lv nl (ns++ks) m W:=by
 obtain⟨sv,bv,bcs,po,g,f⟩:=h;refine⟨sv,bv,bcs,po,(g.new d hn).perm ?_,f.mono λb c ⟨tv,rv,a,e,x,y⟩=>⟨tv,rv,a,e,x.sub λr hr=>mR hr,y.sub λr hr=>mR hr⟩⟩;classical
 rw[Kn];intro a;simp[Th,List.count_append];omega
theorem Ty.ms {v:Vu}{xs:List Int}(t:Ty D w0 ks v xs)(h:MSt D w0 p lv nl ks m V):∃a c,v=S a (N xs) c/\Has V a xs:=t.shape h.mo λr hr=>hr
theorem MSt.bxn (h:MSt D w0 p lv nl ks m V)(cur:Array Vu)(e n:Nat)(hn:cur.size=n):MSt D w0 p lv nl (box e n V.heap.size cur.toList::ks) m (V.alloc (Fc cur e)):=by
 refine h.new (ns:=[box e n V.heap.size cur.toList]) (bFz.alloc lRz _) (Own.one ?_);subst hn;refine⟨by simp,.inr ⟨V.heap.size,1,cur,rfl,lRz,?_,lRz,by decide,by simp,?_⟩⟩
 . show(V.heap.push _)[V.heap.size]?=_;exact Array.getElem?_push_size
 show cur.toList.take (1*cur.size)=cur.toList;rw[List.take_of_length_le (by simp)]
theorem MSt.setBox {e:Nat}{cs:List Vu}(h:MSt D w0 p lv nl (box e n g cs::ks) m V)(k:(e==2)=false)(o:Nat)(u:Vu):MSt D w0 p lv nl (box e n g (cs.set o u)::ks) m (V.setCell ⟨g,o,none⟩ u):=by
 obtain⟨sv,bv,bcs,po,q,l⟩:=h;have j:∀r:Qb,(mxR p lv nl sv bv m.e po::stR m.s sv::mlR (N m.s.cq) bv bcs::r::ks).Perm (r::mxR p lv nl sv bv m.e po::stR m.s sv::mlR (N m.s.cq) bv bcs::ks):=λr=>by
  classical
  rw[Kn];intro a;simp[Th];omega
 have d:e≠2:=by simpa using k
 have f:∀{v:Vu} {xs:List Int},Ty D w0 (box e n g cs::ks) v xs->Ty D w0 (box e n g (cs.set o u)::ks) v xs:=λt=>by
  rcases t with t|t
  . exact .inl t
  rcases List.mem_cons.1 t with t|t
  . exact absurd (congrArg Qb.e t).symm d
  exact .inr (mC t)
 refine⟨sv,bv,bcs,po,((q.perm (j _)).set o u).perm (j _).symm,l.mono λb c ⟨tv,rv,a,e,t1,t2⟩=>⟨tv,rv,a,e,f t1,f t2⟩⟩
theorem MSt.opn {bs:List Blk}(h:MSt D w0 p lv nl ks m V)(l:m.s.cq=bs++[b]):∃f sc g c d tv rv a po,Mo D w0 (mxR p lv nl (S f (N m.s.jj) sc) (S (some ⟨g,0,none⟩) (N bs+1) c) m.e po::stR m.s (S f (N m.s.jj) sc)::mlR (N bs+1) (S (some ⟨g,0,none⟩) (N bs+1) c) (d++mbk tv rv b.gk b.jq (decide (b.op=4)) a (decide (b.op=3)))::ks) V /\ (N bs)+1<=c/\Fl (MRep D w0 ks) bs d/\N d=N bs*7/\Ty D w0 ks tv b.gj/\Ty D w0 ks rv b.results:=by
 obtain⟨sv,bv,bcs,po,j,o⟩:=h;rw[l]at o;have z:N m.s.cq=N bs+1:=by rw[l];simp
 rw[z]at j;obtain⟨d,E,rfl,n,A⟩:=Fl.split o;obtain⟨tv,rv,a,rfl,t,q⟩:=Fl.un A;have v:V.ownsRow D 2 1 sv (N m.s.jj) (I m.s.jj):=j.row (r:=stR m.s sv) (by simp);have u:V.ownsRow D 174 7 bv (N bs+1) (d++mbk tv rv b.gk b.jq (decide (b.op=4)) a (decide (b.op=3))):=j.row (r:=mlR _ bv _) (by simp);obtain⟨f,sc,rfl⟩:=Qg v;obtain⟨g,c,rfl,k⟩:∃g c,bv=S (some ⟨g,0,none⟩) (N bs+1) c/\N bs+1<=c:=by
  rcases u.2 with ⟨_,C⟩|⟨g,cap,B,y,_,_,k,_⟩
  . omega
  exact⟨g,cap,y,k⟩
 exact⟨f,sc,g,c,d,tv,rv,a,po,j,k,n,Fl.len mrep_len n,t,q⟩
theorem MSt.opnS (h:MSt D w0 p lv nl ks m V):∃a sc c b bcs po,Mo D w0 (mxR p lv nl (S a (N m.s.jj) sc) (S c (N m.s.cq) b) m.e po::stR m.s (S a (N m.s.jj) sc)::mlR (N m.s.cq) (S c (N m.s.cq) b) bcs::ks) V/\Fl (MRep D w0 ks) m.s.cq bcs:=by
 obtain⟨sv,bv,bcs,po,d,j⟩:=h;have g:V.ownsRow D 2 1 sv (N m.s.jj) (I m.s.jj):=d.row (r:=stR m.s sv) (by simp);have f:V.ownsRow D 174 7 bv (N m.s.cq) bcs:=d.row (r:=mlR _ bv _) (by simp);obtain⟨a,sc,rfl⟩:=Qg g;obtain⟨c,b,rfl⟩:=Qg f;exact⟨a,sc,c,b,bcs,po,d,j⟩
theorem Xn {e:Int}{rs:List Qb}(h:Mo D w0 (mxR p lv nl sv bv e po::rs) V) :
    (V.cell? ⟨p,0,none⟩=some lv/\V.cell? ⟨p,1,none⟩=some (U O nl)/\V.cell? ⟨p,2,none⟩=some sv/\V.cell? ⟨p,3,none⟩=some bv/\V.cell? ⟨p,4,none⟩=some (U O e)/\V.cell? ⟨p,5,none⟩=some (U O po))/\V.frozen? ⟨p,2,none⟩=false/\V.frozen? ⟨p,3,none⟩=false/\V.frozen? ⟨p,4,none⟩=false/\V.frozen? ⟨p,5,none⟩=false :=
 ⟨⟨(h.b0 0).1,(h.b0 1).1,(h.b0 2).1,(h.b0 3).1,(h.b0 4).1,(h.b0 5).1⟩,(h.b0 2).2,(h.b0 3).2,(h.b0 4).2,(h.b0 5).2⟩
theorem mlast {r:Vu}{x:Qb}{k c:Nat}{c1:List Vu}{h:Int}{d i l:Bool}{rs:List Qb}(b:Mo D w0 (x::stR m.s sv::mlR (k+1) (S (some ⟨g,0,none⟩) (k+1) c) (c1++mbk tv rv h d i a l)::rs) V)(f:N c1=k*7):V.cell? ⟨g,k*7,none⟩=some tv/\V.cell? ⟨g,k*7+1,none⟩=some rv/\V.cell? ⟨g,k*7+2,none⟩=some (U O h)/\V.cell? ⟨g,k*7+3,none⟩=some (G d)/\V.cell? ⟨g,k*7+4,none⟩=some (G i)/\V.cell? ⟨g,k*7+5,none⟩=some (U O a)/\V.cell? ⟨g,k*7+6,none⟩=some (G l)/\V.frozen? ⟨g,k*7+3,none⟩=false:=by
 have E:=λ(j:Nat) (u:Vu) (hj:j<7) (hu:(mbk tv rv h d i a l)[j]?=some u)=>b.cell (T:=174) (sz:=7) (n:=k+1) (g:=g) (c:=c) (cs:=c1++mbk tv rv h d i a l) (by simp) rfl (j:=k*7+j) (u:=u) (by omega) (by rw[List.getElem?_append_right (by omega),show k*7+j-N c1=j by omega];exact hu);exact⟨(E 0 _ (by omega) rfl).1,(E 1 _ (by omega) rfl).1,(E 2 _ (by omega) rfl).1,(E 3 _ (by omega) rfl).1,(E 4 _ (by omega) rfl).1,(E 5 _ (by omega) rfl).1,(E 6 _ (by omega) rfl).1,(E 3 (G d) (by omega) rfl).2⟩
theorem MSt.cut {a:Option Ad}{sc:Nat}(h:Mo D w0 (mxR p lv nl (S a (N m.s.jj) sc) bv m.e po::stR m.s (S a (N m.s.jj) sc)::mlR (N m.s.cq) bv bcs::ks) V)(d:Fl (MRep D w0 ks) m.s.cq bcs)(hn:n<=N m.s.jj):MSt D w0 p lv nl ks (JE m { m.s with jj:=m.s.jj.take n }) (V.setCell ⟨p,2,none⟩ (S a n sc)):=by
 have b:=(h.set 2 (S a n sc)).perm perm3;have k:=b.row (r:=stR m.s (S a (N m.s.jj) sc)) (by simp);have j:=own_take k hn;have c:(m.s.jj.take n).length=n:=by simp;omega
 have g:=b.swap (r':=⟨2,1,n,S a n sc,I (m.s.jj.take n)⟩) (by
  show(V.setCell ⟨p,2,none⟩ (S a n sc)).ownsRow D 2 1 (S a n sc) n (I (m.s.jj.take n))
  have e:(I m.s.jj).take (n*1)=I (m.s.jj.take n):=by simp[I,Eg]
  rw[<- e];exact j) (by cases a <;> rfl)
 have f:=g.perm perm3;refine⟨S a n sc,bv,bcs,po,?_,d⟩;simpa[stR,c,JE]using f
end
theorem Q2 (f:Int)(h:MSt D w0 p lv nl ks m V):Ec Q 137 #[Yp (some ⟨p,0,none⟩),U O f] V λe w'=>e=Z (.tuple #[])/\MSt D w0 p lv nl ks (fail m f) w':=by
 have g:=Hm h;obtain⟨sv,bv,bcs,po,b,c⟩:=h;obtain⟨⟨s,r,q,n,l,j⟩,y,v,u,t⟩:=Xn b;by_cases a:m.e=0
 . (have k:(m.e==0)=true:=by simp[a]);(have d:Hid (MSt D w0 p lv nl ks (fail m f) (V.setCell ⟨p,4,none⟩ (U O f))):=by(have e:fail m f={ m with e:=f }:=by simp[fail,a]);rw[e];exact⟨sv,bv,bcs,po,b.set 4 (U O f),c⟩);clear b c a;go_enter func137,ntmps137;go_wp2;go_end0;exact⟨rfl,d.o⟩
 have k:(m.e==0)=false:=by simp[a]
 have e:fail m f=m:=by simp[fail,a]
 rw[e];clear b c a e;go_enter func137,ntmps137;go_wp2;go_end0;exact⟨rfl,g.o⟩
theorem stop_c (p g k c:Nat)(w:J)(d:w.cell? ⟨p,3,none⟩=some (S (some ⟨g,0,none⟩) (k+1) c))(b:k<=1099511627776):Ec Q 141 #[Yp (some ⟨p,0,none⟩)] w λe w'=>e=Z (Yp (some ⟨g,k*7,none⟩))/\∃n,w'=w.drewN n:=by
 have a:IntKind.i64.wrap (((k+1:Nat):Int)-1)=k:=by rw[Kz];omega
 go_enter func141,ntmps141;go_wp2;go_quiet (fail)
 go_wp2;go_ret;exact⟨rfl,_,rfl⟩
theorem slabel_c (p g k c:Nat)(n:Int)(w:J)(q:w.cell? ⟨p,3,none⟩=some (S (some ⟨g,0,none⟩) (k+1) c))(o:k<=1099511627776)(hn:0<=n)(a:n<=k):Ec Q 84 #[Yp (some ⟨p,0,none⟩),U O n] w λe w'=>e=Z (Yp (some ⟨g,(k-n.toNat)*7,none⟩))/\∃m,w'=w.drewN m:=by
 obtain⟨j,rfl⟩:∃j:Nat,n=j:=⟨n.toNat,by omega⟩;have l:IntKind.i64.wrap (((k+1:Nat):Int)-1)=k:=by rw[Kz];omega
 obtain⟨i,b⟩:∃i:Nat,i=k-j:=⟨_,rfl⟩;have d:IntKind.i64.wrap ((k:Int)-(j:Int))=i:=by rw[Kz];omega
 have f:(i:Int)<((k+1:Nat):Int):=by omega
 simp only[Int.toNat_natCast];rw[<- b];clear b hn a;go_enter func84,ntmps84;go_wp2;go_quiet (fail)
 go_wp2;go_ret;exact⟨rfl,_,rfl⟩
theorem XJ (want:Int)(h:MSt D w0 p lv nl ks m V)(i:Inv m.s)(C:m.s.cq≠[])(H:N m.s.cq<=1048577)(X:N m.s.jj<=1099511627776):Ec Q 85 #[Yp (some ⟨p,0,none⟩),U O want] V λe w'=>e=Z (U O (QD m want).1)/\MSt D w0 p lv nl ks (QD m want).2 w':=by
 obtain⟨M,d⟩:=JN C;obtain⟨b,f⟩:∃b,b=top m.s:=⟨_,rfl⟩;rw[<- f]at d;have E:=i.ht C;rw[<- f]at E;obtain⟨sa,sc,g,c,c1,tv,rv,a,po,u,hc,L,hl,t1,t2⟩:=h.opn d;have a5:N M<=1048577:=by rw[d]at H;simp at H;omega
 obtain⟨⟨q0,q1,q2,q3,q4,q5⟩,f2,f3,f4,f5⟩:=Xn u;obtain⟨e0,e1,e2,e3,e4,e5,e6,f6⟩:=mlast (m:=m) (r:=tv) u hl;have HL:=Hm (λw=>stop_c p g (N M) c w);have hH:=Hm h;have HF:=Hm (λn=>Q2 6 (h.drewN n));have hw:IntKind.i64.wrap ((N m.s.jj:Int)-1)=(N m.s.jj:Int)-1:=by rw[Kz];omega
 by_cases z:N m.s.jj<=b.gk
 . (have d0:((N m.s.jj:Int)==(b.gk:Int))=true:=by simp;omega);cases hd:b.jq
   . (have B:QD m want=(want,fail m 6):=by simp[QD,<- f,z,hd]);rw[B];rw[hd]at e3;clear u L h B f d;go_enter func85,ntmps85;(go_wp2_with fail);refine(HL.o _ (by assumption) (by omega)).mono ?_;rintro e w1 ⟨rfl,n,rfl⟩;(go_wp2_with (go_at_call 137;refine(HF.o n).mono ?_;rintro e w2 ⟨rfl,v⟩));go_ret;exact⟨rfl,v⟩
   (have B:QD m want=(want,m):=by simp[QD,<- f,z,hd]);rw[B];rw[hd]at e3;clear u L h B HF f d;go_enter func85,ntmps85;(go_wp2_with fail);refine(HL.o _ (by assumption) (by omega)).mono ?_;rintro e w1 ⟨rfl,n,rfl⟩;go_wp2;go_ret;exact⟨rfl,hH.o.drewN n⟩
 have hr:V.ownsRow D 2 1 (S sa (N m.s.jj) sc) (N m.s.jj) (I m.s.jj):=u.row (r:=stR m.s _) (by simp);obtain⟨y,Y,ab⟩:∃y,sa=some ⟨y,0,none⟩/\N m.s.jj<=sc:=by
  rcases hr.2 with ⟨_,h0⟩|⟨y,cap,a8,hv,_,_,l,_⟩
  . omega
  cases hv;exact⟨y,rfl,l⟩
 subst Y;obtain⟨j,t,l⟩:∃j t,m.s.jj=j++[t]:=by
  have:m.s.jj≠[]:=λe=>by rw[e]at z;simp at z
  exact⟨_,_,(List.dropLast_concat_getLast this).symm⟩
 have hn:N m.s.jj=N j+1:=by rw[l];simp
 have ac:V.cell? ⟨y,N j,none⟩=some (U O t):=by rw[World.ownsRow.cellAt hr (N j) (by omega),l];simp[I]
 obtain⟨k,q⟩:∃k,k=JE m { m.s with jj:=m.s.jj.dropLast }:=⟨_,rfl⟩;have HM:Hid (∀n,MSt D w0 p lv nl ks k (((V.drewN n)).setCell ⟨p,2,none⟩ (S (some ⟨y,0,none⟩) (N j) sc))):=λn=>by
  have e:m.s.jj.dropLast=m.s.jj.take (N j):=by rw[l];simp
  rw[q,e];have F:N m.s.cq=N M+1:=by rw[d];simp
  refine MSt.cut (m:=m) (bv:=S (some ⟨g,0,none⟩) (N M+1) c) (po:=po) (by rw[F];exact u.drewN n) ?_ (by omega);rw[d];exact L.app (Fl.one ⟨tv,rv,a,rfl,t1,t2⟩)
 have ae:=Hm (λn=>Q2 6 (HM.o n));have hg:m.s.jj.getLastD 0=t:=by rw[l];simp
 have A:QD m want=(if t=0 then want else t,if t≠want/\t≠0/\want≠0 then fail k 6 else k):=by rw[q];simp only[QD,<- f,z,if_false,hg]
 have a0:IntKind.i64.wrap ((N m.s.jj:Int)-1)=N j:=by rw[Kz];omega
 have i1:(N j:Int)<(N m.s.jj:Int):=by omega
 have i3:(N j:Int)<=(sc:Int):=by omega
 have d0:((N m.s.jj:Int)==(b.gk:Int))=false:=by simp;omega
 clear u L h hr l hn hw z ab X q E HF d hH f;obtain⟨b1,k1⟩:∃x,(t != want)=x:=⟨_,rfl⟩;obtain⟨R,k2⟩:∃x,(t != 0)=x:=⟨_,rfl⟩;obtain⟨b3,k3⟩:∃x,(want != 0)=x:=⟨_,rfl⟩;have k4:(t==0)=!R:=by rw[<- k2,bne,Bool.not_not]
 have HP:Hid (QD m want=(if R=false then want else t,if b1=true/\R=true/\b3=true then fail k 6 else k)):=by show QD m want=_;rw[A,<- k1,<- k2,<- k3];simp
 clear A;cases b1<;>cases R<;>cases b3
 all_goals
  try simp only[Bool.not_true,Bool.not_false]at k4
  go_enter func85,ntmps85
  go_wp2_with fail
  refine(HL.o _ (by assumption) (by omega)).mono ?_
  rintro e w1 ⟨rfl,n,rfl⟩
  go_wp2_with (go_at_call 137;refine(ae.o n).mono ?_;rintro e w2 ⟨rfl,v⟩)
  go_ret
  have hq:=HP.o
  simp only[Mf,false_and,and_false,if_true,if_false,and_self,Bool.true_eq_false]at hq
  rw[hq]
  first
   |exact⟨rfl,HM.o n⟩
   |exact⟨rfl,v⟩
section
variable {D:Nat}{w0:J}{p:Nat}{lv:Vu}{nl:Int}{ks:List Qb}{m:MS}{V W V1:J}
theorem MSt.pushed {a:Option Ad}{sc:Nat}{v':Vu}{xs:List Int}(h:Mo D w0 (mxR p lv nl (S a (N m.s.jj) sc) bv m.e po::stR m.s (S a (N m.s.jj) sc)::mlR (N m.s.cq) bv bcs::ks) V)(g:Fl (MRep D w0 ks) m.s.cq bcs)(j:Bw V.heap.size V V1) (b:W.ownsRow D 2 1 v' (N m.s.jj+N xs) (I m.s.jj++I xs)) (f:V1.grownBy W (Value.slice a (N m.s.jj) sc).ownBlock) (c:v'.ownBlock=(Value.slice a (N m.s.jj) sc).ownBlock\/v'.ownBlock=some V1.heap.size):MSt D w0 p lv nl ks (Xb m xs) (W.setCell ⟨p,2,none⟩ v')/\W.cell? ⟨p,2,none⟩=some (S a (N m.s.jj) sc)/\W.frozen? ⟨p,2,none⟩=false:=by
 have n:=(h.perm perm3).push (r':=⟨2,1,N m.s.jj+N xs,v',I m.s.jj++I xs⟩) j f b c;have d:=n.perm (Kf _ _ _);have l:=d.set 2 v';have k:=d.b0 2;refine⟨⟨v',bv,bcs,po,?_,g⟩,k⟩;have e:stR (Xb m xs).s v'=⟨2,1,N m.s.jj+N xs,v',I m.s.jj++I xs⟩:=by simp[stR,Xb,JE,push]
 rw[e];exact l
theorem MSt.jq {d:Option Ad}{sc c:Nat}{bs:List Blk}{c1:List Vu}(A:m.s.cq=bs++[b]) (h:Mo D w0 (mxR p lv nl (S d (N m.s.jj) sc) (S (some ⟨g,0,none⟩) (N bs+1) c) m.e po::stR m.s (S d (N m.s.jj) sc)::mlR (N bs+1) (S (some ⟨g,0,none⟩) (N bs+1) c) (c1++mbk tv rv b.gk b.jq (decide (b.op=4)) a (decide (b.op=3)))::ks) V) (q:Fl (MRep D w0 ks) bs c1) (z:N c1=N bs*7) (o:Ty D w0 ks tv b.gj) (l:Ty D w0 ks rv b.results)  (hn:n<=N m.s.jj):MSt D w0 p lv nl ks (JE m { m.s with jj:=m.s.jj.take n,cq:=bs++[{ b with jq:=true }] }) ((V.setCell ⟨p,2,none⟩ (S d n sc)).setCell ⟨g,N bs*7+3,none⟩ (G true)):=by
 have k:=(h.set 2 (S d n sc)).perm perm3;have v:=k.row (r:=stR m.s (S d (N m.s.jj) sc)) (by simp);have u:=own_take v hn;have f:(m.s.jj.take n).length=n:=by simp;omega
 have t:=k.swap (r':=⟨2,1,n,S d n sc,I (m.s.jj.take n)⟩) (by
  show(V.setCell ⟨p,2,none⟩ (S d n sc)).ownsRow D 2 1 (S d n sc) n (I (m.s.jj.take n))
  have e:(I m.s.jj).take (n*1)=I (m.s.jj.take n):=by simp[I,Eg]
  rw[<- e];exact u) (by cases d <;> rfl)
 have j:=(((t.perm perm3).perm XK).set (N bs*7+3) (G true)).perm XK.symm;have e:(c1++mbk tv rv b.gk b.jq (decide (b.op=4)) a (decide (b.op=3))).set (N bs*7+3) (G true)=c1++mbk tv rv b.gk true (decide (b.op=4)) a (decide (b.op=3)):=by rw[List.set_append_right _ _ (by omega),show(N bs)*7+3-N c1=3 by omega];rfl
 rw[e]at j;refine⟨S d n sc,S (some ⟨g,0,none⟩) (N bs+1) c,c1++mbk tv rv b.gk true (decide (b.op=4)) a (decide (b.op=3)),po,?_,q.app (Fl.one ⟨tv,rv,a,rfl,o,l⟩)⟩;have y:(bs++[{ b with jq:=true }]).length=N bs+1:=by simp
 simpa[stR,f,JE,y]using j
theorem MSt.begun {c v':Vu}(h:Mo D w0 (mxR p lv nl sv c m.e po::stR m.s sv::mlR (N m.s.cq) c bcs::ks) V)(n:Fl (MRep D w0 ks) m.s.cq bcs)(o:Bw V.heap.size V V1) (d:W.ownsRow D 174 7 v' (N m.s.cq+1) (bcs++mbk tv rv b.gk b.jq (decide (b.op=4)) a (decide (b.op=3)))) (l:V1.grownBy W c.ownBlock) (f:v'.ownBlock=c.ownBlock\/v'.ownBlock=some V1.heap.size) (k:Ty D w0 ks tv b.gj) (j:Ty D w0 ks rv b.results):MSt D w0 p lv nl ks (JE m { m.s with cq:=m.s.cq++[b] }) (W.setCell ⟨p,3,none⟩ v')/\W.cell? ⟨p,3,none⟩=some c/\W.frozen? ⟨p,3,none⟩=false:=by
 have t:=(h.perm XK).push (r':=mlR (N m.s.cq+1) v' (bcs++mbk tv rv b.gk b.jq (decide (b.op=4)) a (decide (b.op=3)))) o l d f;have g:=t.perm (rs':=mxR p lv nl sv c m.e po::mlR (N m.s.cq+1) v' (bcs++mbk tv rv b.gk b.jq (decide (b.op=4)) a (decide (b.op=3)))::stR m.s sv::ks) (Kf _ _ _);have r:=(g.set 3 v').perm ((Kf _ _ _).cons _);have q:=g.b0 3;refine⟨⟨sv,v',_,po,?_,n.app (Fl.one ⟨tv,rv,a,rfl,k,j⟩)⟩,q⟩;have e:(m.s.cq++[b]).length=N m.s.cq+1:=by simp
 show Mo D w0 (_::_::mlR (m.s.cq++[b]).length _ _::_) _;rw[e];exact r
end
theorem XM (a)(c:Nat)(xs)(h:MSt D w0 p lv nl ks m V)(t:Has V a xs)(B:N xs<=1048577)(C:N m.s.jj<=2199023255552):Ec Q 86 #[Yp (some ⟨p,0,none⟩),S a (N xs) c] V λe w'=>e=Z (.tuple #[])/\MSt D w0 p lv nl ks (Xb m xs) w':=by
 obtain⟨A,E,l,k,j⟩:=info_parts info2;obtain⟨z,sc,ba,bc,bcs,po,g,v⟩:=h.opnS;obtain⟨⟨q0,q1,q2,Y,X,R⟩,f2,f3,f4,f5⟩:=Xn g;have u:V.ownsRow D 2 1 (S z (N m.s.jj) sc) (N m.s.jj) (I m.s.jj):=g.row (r:=stR m.s _) (by simp);have L:=Hm (λW v'=>MSt.pushed (W:=W) (v':=v') (xs:=xs) g v bFz);have n:=g.le;have F:=Hm u;have H:=Hm (λW (hb:Bw V.heap.size V W)=>SrcC.on (Has.src t) hb);clear g v h u t;go_enter func86,ntmps86;go_wp2_with (at_builtin;refine XP rfl _ _ 24 rfl D 2 A (U O 0) 1 8 underlying24 E l k j rfl (by decide) _ _ _ rfl F.o a (N xs) c (I xs) rfl (by simp) (H.o _ bFz) (one_I xs) (by unfold maxLen;omega) (by omega) n ?_;intro v' y b d f;have q:=Hm (L.o y v' b d f);have d4:=q.o.2.1;have df:=q.o.2.2;obtain⟨va,M,rfl⟩:=QH b;clear b d f)
 go_end0;exact⟨rfl,q.o.1⟩
theorem mpopR_snoc (m:MS):∀(a:List Int) (b:Int),JR m (a++[b])=(QD (JR m a) b).2
 |[],b=>rfl
 |u::a,b=>by rw[Lz,JR,JR,mpopR_snoc (QD m u).2 a b]
theorem drop_rev (xs:List Int)(j:Nat)(h:j<N xs):(xs.drop j).reverse=(xs.drop (j+1)).reverse++[xs.getD j 0]:=by
 rw[List.drop_eq_getElem_cons h];simp[List.getD,h]
theorem Xa (v:Vu)(xs:List Int)(h:MSt D w0 p lv nl ks m V)(t:Ty D w0 ks v xs)(i:Inv m.s)(q:m.s.cq≠[])(r:N m.s.cq<=1048577)(n:N m.s.jj<=1099511627776)(B:N xs<=1099511627776):Ec Q 83 #[Yp (some ⟨p,0,none⟩),v] V λe w'=>e=Z (.tuple #[])/\MSt D w0 p lv nl ks (Qq m xs) w':=by
 obtain⟨a,c,rfl,_⟩:=t.ms h;have F:IntKind.i64.wrap ((N xs:Int)-1)=(N xs:Int)-1:=by rw[Kz];omega
 have X:=Hm h;have M:=Hm t;clear h t;go_enter func83,ntmps83;go_wp2;go_loopw [4] (λi wr=>∃k:Nat,k<=N xs/\i=U O ((k:Int)-1)/\MSt D w0 p lv nl ks (JR m (xs.drop k).reverse) wr) (λi _=>((intOf i)+1).toNat)
 case atStart=>exact⟨N xs,lRz,rfl,by simpa[JR]using X.o⟩
 obtain⟨k,hk,rfl,g⟩:=hrel;by_cases I:k=0
 . subst I;go_wp2;go_end0;exact⟨rfl,by simpa[Qq]using g⟩
 obtain⟨j,rfl⟩:∃j,k=j+1:=⟨k-1,by omega⟩;have z:((j+1:Nat):Int)-1=j:=by omega
 rw[z];have d:j<N xs:=by omega
 obtain⟨a',c',e,H⟩:=M.o.ms g;cases e;rcases H with C|⟨b,off,rfl,A⟩
 . subst C;simp at d
 have L:=A j d;obtain⟨y,l⟩:∃y,y=xs.getD j 0:=⟨_,rfl⟩;have f:=mpopR_pk (xs.drop (j+1)).reverse m;have R:=Hm (XJ y g (f.iv i) (by rw[f.bl];exact q) (by rw[f.bl];exact r) (Kq f.ln n));have Y:Hid ((QD (JR m (xs.drop (j+1)).reverse) y).2=JR m (xs.drop j).reverse):=by show _=_;rw[drop_rev xs j d,mpopR_snoc,l]
 rw[<- l]at L;have i1:(0:Int)<=(j:Int):=by omega
 have i2:(j:Int)<(N xs:Int):=by omega
 have E:IntKind.i64.wrap ((j:Int)-1)=(j:Int)-1:=by rw[Kz];omega
 clear A l f g F z;go_wp2_with (go_at_call 85;refine R.o.mono ?_;rintro e w2 ⟨rfl,u⟩)
 go_roundw
 case rel=>exact⟨j,by omega,rfl,by rw[<- Y.o];exact u⟩
 case measure=>simp[intOf]
theorem sdead_c (h:MSt D w0 p lv nl ks m V)(i:Inv m.s)(l:m.s.cq≠[])(u:N m.s.cq<=1048577):Ec Q 80 #[Yp (some ⟨p,0,none⟩)] V λe w'=>e=Z (.tuple #[])/\MSt D w0 p lv nl ks (mdie m) w':=by
 obtain⟨y,d⟩:=JN l;have t:=i.ht l;obtain⟨b,j⟩:∃b,b=top m.s:=⟨_,rfl⟩;rw[<- j]at d t;obtain⟨z,sc,g,c,c1,tv,rv,a,po,q,hc,L,H,F,E⟩:=h.opn d;have ae:N y<=1048577:=by rw[d]at u;simp at u;omega
 have f:die m.s={ m.s with jj:=m.s.jj.take b.gk,cq:=y++[{ b with jq:=true }] }:=by
  have M:m.s.cq.dropLast=y:=by rw[d];simp
  simp only[die,<- j,M]
 obtain⟨⟨q0,q1,Y,q3,q4,q5⟩,f2,f3,f4,f5⟩:=Xn q;obtain⟨e0,M,e2,e3,e4,e5,e6,f6⟩:=mlast (m:=m) (r:=tv) q H;have R:=Hm (λw=>stop_c p g (N y) c w);have C:Hid (∀n,MSt D w0 p lv nl ks (mdie m) (((V.drewN n).setCell ⟨p,2,none⟩ (S z b.gk sc)).setCell ⟨g,N y*7+3,none⟩ (G true))):=λn=>by show MSt D w0 p lv nl ks (JE m (die m.s)) _;rw[f];exact MSt.jq d (q.drewN n) L H F E t
 have k:V.ownsRow D 2 1 (S z (N m.s.jj) sc) (N m.s.jj) (I m.s.jj):=q.row (r:=stR m.s _) (by simp);have B:(z=none/\N m.s.jj=0/\sc=0)\/∃A,z=some ⟨A,0,none⟩/\N m.s.jj<=sc:=by
  rcases k.2 with ⟨v,h1⟩|⟨A,cap,ah,hv,_,_,hx,_⟩
  . simp only[Value.slice.injEq]at v;exact .inl ⟨v.1,h1,v.2.2⟩
  cases hv;exact .inr ⟨A,rfl,hx⟩
 clear q L k d j f F E h;rcases B with ⟨rfl,v,rfl⟩|⟨A,rfl,ad⟩
 . (have hz:b.gk=0:=by omega);rw[v]at Y;rw[hz]at e2 C;go_enter func80,ntmps80;(go_wp2_with fail);refine(R.o _ (by assumption) (by omega)).mono ?_;rintro e X ⟨rfl,n,rfl⟩;go_wp2;(go_region);go_wp2;go_end0;exact⟨rfl,(C.o n).keep ⟨rfl,rfl,rfl,lRz,λ_ _=>rfl⟩⟩
 have i1:(b.gk:Int)<=(sc:Int):=by omega
 go_enter func80,ntmps80;go_wp2_with fail
 refine(R.o _ (by assumption) (by omega)).mono ?_;rintro e X ⟨rfl,n,rfl⟩;go_wp2;go_region
 go_wp2;go_end0;exact⟨rfl,(C.o n).keep ⟨rfl,rfl,rfl,lRz,λ_ _=>rfl⟩⟩
theorem sres_c (a:Int)(w:J):Ec Q 142 #[U O a] w λe w'=>∃v,e=Z v/\w'.ownsRow w.heap.size 2 1 v (Qh a).length (I (Qh a))/\Bw w.heap.size w w':=by
 by_cases h:a=64
 . subst h;go_enter func142,ntmps142;go_wp2;go_ret;exact⟨_,rfl,World.ownsRow_lit (base:=w.heap.size) (e:=2) (size:=1) w #[] 0 lRz (by unfold maxLen;omega) rfl,bFz.alloc lRz _⟩
 have k:(a==64)=false:=by simpa using h
 have e:Qh a=[a]:=by simp[Qh,h]
 rw[e];clear h e;go_enter func142,ntmps142;go_wp2;go_ret;exact⟨_,rfl,World.ownsRow_lit (base:=w.heap.size) (e:=2) (size:=1) w #[U O a] 1 lRz (by unfold maxLen;omega) rfl,bFz.alloc lRz _⟩
theorem sselect_c (h:MSt D w0 p lv nl ks m V)(i:Inv m.s)(f:m.s.cq≠[])(g:N m.s.cq<=1048577)(d:N m.s.jj<=1099511627776):Ec Q 88 #[Yp (some ⟨p,0,none⟩)] V λe w'=>e=Z (.tuple #[])/\MSt D w0 p lv nl ks (mselect m) w':=by
 have I:=Hm (XJ 127 h i f g d);obtain⟨M,t⟩:∃M,M=mselect m:=⟨_,rfl⟩;rw[<- t];unfold mselect at t;have l:=XO m 127;obtain⟨F,u⟩:∃r,r=QD m 127:=⟨_,rfl⟩;rw[<- u]at I t l;obtain⟨c,q⟩:∃r,r=QD F.2 0:=⟨_,rfl⟩;have b:=l.trans (XO F.2 0);rw[<- q]at t b;obtain⟨j,n⟩:∃r,r=QD c.2 c.1:=⟨_,rfl⟩;have k:=b.trans (XO c.2 c.1);rw[<- n]at t k;have R:Hid (∀a,MSt D w0 p lv nl ks F.2 a->Ec Q 85 #[Yp (some ⟨p,0,none⟩),U O 0] a λe w'=>e=Z (U O c.1)/\MSt D w0 p lv nl ks c.2 w'):=λa h1=>by rw[q];exact XJ 0 h1 (l.iv i) (by rw[l.bl];exact f) (by rw[l.bl];exact g) (Kq l.ln d)
 have B:Hid (∀a,MSt D w0 p lv nl ks c.2 a->Ec Q 85 #[Yp (some ⟨p,0,none⟩),U O c.1] a λe w'=>e=Z (U O j.1)/\MSt D w0 p lv nl ks j.2 w'):=λa h1=>by rw[n];exact XJ c.1 h1 (b.iv i) (by rw[b.bl];exact f) (by rw[b.bl];exact g) (Kq b.ln d)
 have A:Hid (∀a,MSt D w0 p lv nl ks j.2 a->Ec Q 86 #[Yp (some ⟨p,0,none⟩),S (some ⟨a.heap.size,0,none⟩) 1 1] (a.alloc (Fc #[U O j.1] 2)) λe w'=>e=Z (.tuple #[])/\MSt D w0 p lv nl ks M w'):=λa h1=>by
  rw[t];have hh:Has (a.alloc (Fc #[U O j.1] 2)) (some ⟨a.heap.size,0,none⟩) [j.1]:=.inr ⟨a.heap.size,0,rfl,fun i hi=>by
   have:i=0:=by simp at hi;omega
   subst this
   exact Qe rfl rfl⟩
  exact XM (some ⟨a.heap.size,0,none⟩) 1 [j.1] (h1.keep (bFz.alloc lRz _)) hh (by simp) (Kq k.ln (by omega))
 clear h t u q n l b k i f g d;go_enter func88,ntmps88;go_wp2_with fail
 refine I.o.mono ?_;rintro e a ⟨rfl,z⟩;have E:=Hm (R.o a z);clear R I z;go_wp2_with fail
 refine E.o.mono ?_;rintro e Y ⟨rfl,y⟩;have C:=Hm (B.o Y y);clear B E y;go_wp2_with fail
 refine C.o.mono ?_;rintro e X ⟨rfl,v⟩;have L:=Hm (A.o X v);clear A C v;go_wp2_with fail
 refine L.o.mono ?_;rintro e w4 ⟨rfl,H⟩;go_wp2;go_end0;exact⟨rfl,H⟩
