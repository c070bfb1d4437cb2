import Derived.Test.YtaccbbndmmhenaaGreatGao
import Derived.Maps.Own
import Derived.Maps.OwnOps
import Derived.Maps.OwnSet
set_option linter.all false
set_option maxHeartbeats 400000000
set_option maxRecDepth 100000
namespace Go.Proofs
open Value renaming int->U,slice->S,bool->G,pointer->Yp,string->Xs,agg->Ag,nilIface->Nf,iface->If
open IntKind renaming i64->O,u64->Ou
open Ending renaming returned->Z
open Obj renaming cells->Fc
open Go renaming World->J,Calls->Ec,Value->Vu,Addr->Ad
open Go.RowKit renaming Below->Bw
open Tryz renaming prog->Q
open Tryz
open Calls renaming regrown_of->Tz
open Region renaming wanted->Tj
open Exit renaming normal->Tn
open List renaming getD->Kx,perm_iff_count->Kn,count_cons->Th,drop_of_length_le->Hz,getElem?_append_left->Lq,getElem?_append_right->Tb,length->N
open World renaming block_lt_of_cell?->Kk,ownsRow_nil->Tq,cell?_setCell_far->Rm,cell?_of_block->Kd,putObj_heap_other->My
open List.Perm renaming swap->Kf
open Nat renaming zero_le->Kw,le_trans->Kq
open IntKind renaming wrap_i64->Kz
open Value renaming slice->Tv,nilIface->Rv
open Act renaming eval->Tc,put->Hw
namespace YtaccbbndmmhenaaGreat.Va
open Go.RowKit Go.Sort
variable {x:Ctx}{s:Fn}{fo go bd want:Int}{w0 V w w':J}{g:List Int}{ks:List Qb}{c2:List Vu}{l:Lo}{D p q b:Nat}{m:Spc}{v' nv:Vu}
theorem istep_5 (y:In)(la:Option Ad)(lc:Nat)(h:ISt D w0 p (Yp (some ⟨q,0,none⟩)) l ks s V)(I:SpR D w0 q x fo go bd m ks)(L:JM D w0 ks l s.ps s.gq)(B:Bd s)(C:CxB x)(ax:s.cq≠[])(ag:0<=y.a)(af:y.a<=4294967295)(ae:N y.l<=1048577)(tL:Ty D w0 [] (S la (N y.l) lc) y.l)(ah:∀i∈y.l,0<=i)(R:frm y.op=5):Ec Q 105 #[Yp (some ⟨p,0,none⟩),inV y la lc] V (FnX D w0 p (Yp (some ⟨q,0,none⟩)) l ks (step x frm oty s y)):=by
 obtain⟨M,hM⟩:∃M,M=step x frm oty s y:=⟨_,rfl⟩;rw[<- hM];obtain⟨a9,a8,e,hL⟩:=Ty.st (tL.sub (λr hr=>by cases hr)) h;cases e;obtain⟨W,hW⟩:∃W,W=V.alloc (Fc #[U O y.op,U O y.a,U O y.b,U Ou y.v,S la (N y.l) lc] 85):=⟨_,rfl⟩;have ba:Bw V.heap.size V W:=by rw[hW];exact bFz.alloc lRz _
 have kk:C5 W V.heap.size 0 (U O y.op) (U O y.a) (U O y.b) (U Ou y.v) (S la (N y.l) lc):=by rw[hW];exact C5.new
 have a1:=Hm kk;obtain⟨⟨c0,c1,c2,c3,c4⟩,cf⟩:=kk;have z:=Hm ba;have HI:=Hm h;have HM:=Hm hM;have HA:=Hm (ihasAll_c y la lc (h.keep ba) I L B ag af ae (hL.keep ba) ah);have a0:=Hm (λW (hb:Bw V.heap.size V W)=>ityped_c (V:=W) y la lc (h.keep hb) I L B C ax ag af ae tL ah);have HF:=Hm (QK y.op);have u:=Hm (imem_c y.op);clear h hM hL tL I L cf ba;go_enter func105,ntmps105;go_upto_region 1 with fail
 rw[<- hW];clear hW;cases hh:Qk x frm s y
 . rw[hh]at HA;(have g:Hid (M=.error 2):=by show M=_;rw[HM.o];simp[step,hh]);clear hh;(go_wp2_with (go_at_call 173;refine HA.o.mono ?_;rintro e c ⟨rfl,t⟩));go_ret;exact .inl ⟨2,g.o,rfl,(HI.o.keep (z.o.trans (t.mono z.o.size))).mo⟩
 rw[hh]at HA;have aa:=Hm hh;clear hh;go_upto_region 3 with (go_at_call 173;refine HA.o.mono ?_;rintro e c ⟨rfl,t⟩)
 have A:=Hm (z.o.trans (t.mono z.o.size));have Y:=Hm (a1.o.keep t);obtain⟨⟨d0,d1,d2,d3,d4⟩,df⟩:=Y.o;clear t c0 c1 c2 c3 c4 df;rw[show Qi (Qa y.op)=5 from R]at HF;have az:(y.op==36)=false:=by
  by_cases e:y.op=36
  . rw[e]at R;exact absurd R (by decide +kernel)
  simpa using e
 by_cases hw:Jm y.op<y.a
 . (have g:Hid (M=.error 8):=by show M=_;rw[HM.o];simp[step,aa.o,R,hw]);generalize Jm y.op=wd at u hw;clear R HM;have F:=cell_regrown d0;have E:=cell_regrown d1;have T1:Hid (∀d os,Ec Q 174 #[U O y.op] (grow (redrawn c d) os) λe w''=>e=Z (U O 5)/\∃p:Regrown,w''=grow (redrawn c p.d) p.os):=λd os=>Tz (HF.o _);have T2:Hid (∀d os,Ec Q 175 #[U O y.op] (grow (redrawn c d) os) λe w''=>e=Z (U O wd)/\∃p:Regrown,w''=grow (redrawn c p.d) p.os):=λd os=>(u.o _).mono λe w' ⟨h1,h2⟩=>⟨h1,⟨d,os⟩,h2.symm⟩;refine wp_region_quiet_below (by kernel_rfl) (by kernel_rfl) ?_;(repeat ((with_reducible refine wpQuiet_step (λK hK=>?_));go_simp;first|(refine hK _ ?_;clear hK K)|(apply Exists.intro;refine⟨λ_=>?_,hK _ ?_⟩;(first|with_reducible exact T1.o _ _|with_reducible exact T2.o _ _);clear hK K)|(rw[if_neg (by simp[Tj,yielded,undef])];go_simp;refine hK _ ?_;clear hK K)));(with_reducible refine wpQuiet_nil ?_);intro _ H;obtain⟨⟨dq,j⟩,k⟩:=H;subst k;have n:=below_regrown c dq j;clear F E T1 T2;generalize grow (redrawn c dq) j=w2 at *;(try show Exit.then _ _ Tn _ w2);have ab:=Hm (A.o.trans (n.mono A.o.size));have X:=Hm (Y.o.keep n);obtain⟨⟨g0,g1,g2,g3,g4⟩,gf⟩:=X.o;go_wp2;go_ret;exact .inl ⟨8,g.o,rfl,(HI.o.keep ab.o).mo⟩
 have g:Hid (M=JQ x oty s y):=by
  show M=_;rw[HM.o];have ai:y.op≠36:=by simpa using az
  simp[step,aa.o,R,hw,ai]
 generalize Jm y.op=wd at u hw;clear R HM;have F:=cell_regrown d0;have E:=cell_regrown d1;have T1:Hid (∀d os,Ec Q 174 #[U O y.op] (grow (redrawn c d) os) λe w''=>e=Z (U O 5)/\∃p:Regrown,w''=grow (redrawn c p.d) p.os):=λd os=>Tz (HF.o _);have T2:Hid (∀d os,Ec Q 175 #[U O y.op] (grow (redrawn c d) os) λe w''=>e=Z (U O wd)/\∃p:Regrown,w''=grow (redrawn c p.d) p.os):=λd os=>(u.o _).mono λe w' ⟨h1,h2⟩=>⟨h1,⟨d,os⟩,h2.symm⟩;refine wp_region_quiet_below (by kernel_rfl) (by kernel_rfl) ?_;repeat ((with_reducible refine wpQuiet_step (λK hK=>?_));go_simp;first|(refine hK _ ?_;clear hK K)|(apply Exists.intro;refine⟨λ_=>?_,hK _ ?_⟩;(first|with_reducible exact T1.o _ _|with_reducible exact T2.o _ _);clear hK K)|(rw[if_neg (by simp[Tj,yielded,undef])];go_simp;refine hK _ ?_;clear hK K))
 with_reducible refine wpQuiet_nil ?_
 intro _ H;obtain⟨⟨dq,j⟩,k⟩:=H;subst k;have n:=below_regrown c dq j;clear F E T1 T2;generalize grow (redrawn c dq) j=w2 at *;try show Exit.then _ _ Tn _ w2
 have ab:=Hm (A.o.trans (n.mono A.o.size));have X:=Hm (Y.o.keep n);obtain⟨⟨g0,g1,g2,g3,g4⟩,gf⟩:=X.o;go_upto_region 5 with fail
 refine wp_region_quiet_lit (by kernel_rfl) (by kernel_rfl) ?_;repeat ((with_reducible refine wpQuiet_step (λK hK=>?_));go_simp;first|(refine hK _ ?_;clear hK K)|(rw[if_neg (by simp[Tj,yielded,undef])];go_simp;refine hK _ ?_;clear hK K))
 refine wpQuiet_nil ?_;rintro _ ⟨nq,rfl⟩;have a3:=Hm (Qo ab.o nq);go_wp2_with fail
 refine(a0.o _ a3.o aa.o).mono ?_;rintro e w4 (⟨f,hr,rfl,hb⟩|⟨s',ns,hr,rfl,hI⟩)
 . go_wp2;go_ret;exact .inl ⟨f,g.o.trans hr,rfl,hb⟩
 go_wp2;go_ret;exact .inr ⟨s',ns,g.o.trans hr,rfl,hI⟩
theorem istep_n (y:In)(la:Option Ad)(lc:Nat)(h:ISt D w0 p (Yp (some ⟨q,0,none⟩)) l ks s V)(X:SpR D w0 q x fo go bd m ks)(ag:JM D w0 ks l s.ps s.gq)(B:Bd s)(C:CxB x)(bl:s.cq≠[])(az:0<=y.a)(ay:y.a<=4294967295)(ap:N y.l<=1048577)(tL:Ty D w0 [] (S la (N y.l) lc) y.l)(a0:∀i∈y.l,0<=i)(f5:¬frm y.op=5):Ec Q 105 #[Yp (some ⟨p,0,none⟩),inV y la lc] V (FnX D w0 p (Yp (some ⟨q,0,none⟩)) l ks (step x frm oty s y)):=by
 obtain⟨M,hM⟩:∃M,M=step x frm oty s y:=⟨_,rfl⟩;rw[<- hM];obtain⟨cg,ce,e,hL⟩:=Ty.st (tL.sub (λr hr=>by cases hr)) h;cases e;obtain⟨W,hW⟩:∃W,W=V.alloc (Fc #[U O y.op,U O y.a,U O y.b,U Ou y.v,S la (N y.l) lc] 85):=⟨_,rfl⟩;have ba:Bw V.heap.size V W:=by rw[hW];exact bFz.alloc lRz _
 have kk:C5 W V.heap.size 0 (U O y.op) (U O y.a) (U O y.b) (U Ou y.v) (S la (N y.l) lc):=by rw[hW];exact C5.new
 have bw:=Hm kk;obtain⟨⟨c0,c1,c2,c3,c4⟩,cf⟩:=kk;have aa:=Hm ba;have HI:=Hm h;have HM:=Hm hM;have HA:=Hm (ihasAll_c y la lc (h.keep ba) X ag B az ay ap (hL.keep ba) a0);have a3:=Hm (λW (hb:Bw V.heap.size V W)=>ityped_c (V:=W) y la lc (h.keep hb) X ag B C bl az ay ap tL a0);have HF:=Hm (QK y.op);have ah:=Hm X;clear h hM hL tL X ag cf ba;go_enter func105,ntmps105;go_upto_region 1 with fail
 rw[<- hW];clear hW;cases hh:Qk x frm s y
 . rw[hh]at HA;(have g:Hid (M=.error 2):=by show M=_;rw[HM.o];simp[step,hh]);clear hh;(go_wp2_with (go_at_call 173;refine HA.o.mono ?_;rintro e k ⟨rfl,H⟩));go_ret;exact .inl ⟨2,g.o,rfl,(HI.o.keep (aa.o.trans (H.mono aa.o.size))).mo⟩
 rw[hh]at HA;have A:=Hm hh;clear hh;go_upto_region 3 with (go_at_call 173;refine HA.o.mono ?_;rintro e k ⟨rfl,H⟩)
 have z:=Hm (aa.o.trans (H.mono aa.o.size));have L:=Hm (bw.o.keep H);obtain⟨⟨d0,d1,d2,d3,d4⟩,df⟩:=L.o;clear H c0 c1 c2 c3 c4 df;have bo:(Qi (Qa y.op)==5)=false:=by simpa using f5
 have bz:=Hm f5;generalize Qi (Qa y.op)=f at HF bo;clear f5;by_cases u:y.op=36
 . (have bh:(y.op==36)=true:=by simp[u]);obtain⟨j,hj⟩:∃j:Nat,y.a=j:=⟨y.a.toNat,by omega⟩;(have aq:j<N x.jx:=by have hx:=A.o;(have:Qk x frm s y=decide (y.a<N x.jx):=by(have e6:frm 36=2:=by decide +kernel);simp[Qk,e6,u]);rw[this,hj]at hx;simp at hx;exact hx);have Y:=HI.o.keep z.o;obtain⟨fa,fc,av,aw⟩:=Qu Y.mo ah.o.gr;obtain⟨gf,bm,ax⟩:=aw (by omega);subst bm;(have au:x.jx[j]?=some (Q6 x j):=by rw[Q6,Int.toNat_natCast];simp[Kx,aq]);have e1:=(Gr au).2;rw[<- ah.o.gt]at e1;have dm:=ax _ _ e1 (by omega);obtain⟨r0,r1,r2,r3,r4⟩:=ah.o.cells Y.mo;rw[av]at r4;obtain⟨sa,sc,bv,ct,hm,hf,q4,q5,f4,f5⟩:=Y.opnS;have q0:=(hm.b0 0).1;rw[hj]at d1 L;(have ch:(j:Int)<(N x.jx:Int):=by omega);have CR:Hid (∀w2,Bw k.heap.size k w2->w2.cell? ⟨p,0,none⟩=some (Yp (some ⟨q,0,none⟩))/\w2.cell? ⟨q,4,none⟩=some (S (some ⟨gf,0,none⟩) (N x.jx) fc)/\w2.cell? ⟨gf,j*2+1,none⟩=some (G (Q6 x j).mu)):=λw2 hb=>⟨(hb.cell (p:=⟨p,0,none⟩) (Kk k _ q0)).trans q0,(hb.cell (p:=⟨q,4,none⟩) (Kk k _ r4)).trans r4,(hb.cell (p:=⟨gf,j*2+1,none⟩) (Kk k _ dm)).trans dm⟩;have af:=Hm (λW hb=>a3.o W hb A.o);rw[show inV y la lc=Ag #[U O y.op,U O (j:Int),U O y.b,U Ou y.v,S la (N y.l) lc] by rw[<- hj]]at af;have a4:=Hm hj;have a5:=Hm u;clear Y av aw ax au e1 dm r0 r1 r2 r3 r4 hm hf q4 q5 f4 f5 q0 hj u aq;cases hmu:(Q6 x j).mu
   . rw[hmu]at CR;(have g:Hid (M=.error 9):=by show M=_;rw[HM.o];(have e6:frm 36=2:=by decide +kernel);simp[step,A.o,e6,a5.o,a4.o,hmu]);clear hmu HM;have E:=cell_regrown d0;have T1:Hid (∀d os,Ec Q 174 #[U O y.op] (grow (redrawn k d) os) λe w''=>e=Z (U O f)/\∃p:Regrown,w''=grow (redrawn k p.d) p.os):=λd os=>Tz (HF.o _);refine wp_region_quiet_below (by kernel_rfl) (by kernel_rfl) ?_;(repeat ((with_reducible refine wpQuiet_step (λK hK=>?_));go_simp;first|(refine hK _ ?_;clear hK K)|(apply Exists.intro;refine⟨λ_=>?_,hK _ ?_⟩;(with_reducible exact T1.o _ _);clear hK K)|(rw[if_neg (by simp[Tj,yielded,undef])];go_simp;refine hK _ ?_;clear hK K)));(with_reducible refine wpQuiet_nil ?_);intro _ F;obtain⟨⟨dq,n⟩,t⟩:=F;subst t;have c:=below_regrown k dq n;clear E T1;generalize grow (redrawn k dq) n=w2 at *;(try show Exit.then _ _ Tn _ w2);have R:=Hm (z.o.trans (c.mono z.o.size));have I:=Hm (L.o.keep c);obtain⟨⟨g0,g1,g2,g3,g4⟩,gf⟩:=I.o;obtain⟨bu,bt,bs⟩:=CR.o _ c;(go_upto_region 5 with fail);refine wp_region_quiet_lit (by kernel_rfl) (by kernel_rfl) ?_;(repeat ((with_reducible refine wpQuiet_step (λK hK=>?_));go_simp;first|(refine hK _ ?_;clear hK K)|(rw[if_neg (by simp[Tj,yielded,undef])];go_simp;refine hK _ ?_;clear hK K)));refine wpQuiet_nil ?_;rintro _ ⟨nq,rfl⟩;go_wp2;go_ret;exact .inl ⟨9,g.o,rfl,(HI.o.keep (Qo R.o nq)).mo⟩
   rw[hmu]at CR;(have g:Hid (M=JQ x oty s y):=by show M=_;rw[HM.o];(have e6:frm 36=2:=by decide +kernel);simp[step,A.o,e6,a5.o,a4.o,hmu]);clear hmu HM;have E:=cell_regrown d0;have T1:Hid (∀d os,Ec Q 174 #[U O y.op] (grow (redrawn k d) os) λe w''=>e=Z (U O f)/\∃p:Regrown,w''=grow (redrawn k p.d) p.os):=λd os=>Tz (HF.o _);refine wp_region_quiet_below (by kernel_rfl) (by kernel_rfl) ?_;(repeat ((with_reducible refine wpQuiet_step (λK hK=>?_));go_simp;first|(refine hK _ ?_;clear hK K)|(apply Exists.intro;refine⟨λ_=>?_,hK _ ?_⟩;(with_reducible exact T1.o _ _);clear hK K)|(rw[if_neg (by simp[Tj,yielded,undef])];go_simp;refine hK _ ?_;clear hK K)));(with_reducible refine wpQuiet_nil ?_);intro _ F;obtain⟨⟨dq,n⟩,t⟩:=F;subst t;have c:=below_regrown k dq n;clear E T1;generalize grow (redrawn k dq) n=w2 at *;(try show Exit.then _ _ Tn _ w2);have R:=Hm (z.o.trans (c.mono z.o.size));have I:=Hm (L.o.keep c);obtain⟨⟨g0,g1,g2,g3,g4⟩,gf⟩:=I.o;obtain⟨bu,bt,bs⟩:=CR.o _ c;(go_upto_region 5 with fail);refine wp_region_quiet_lit (by kernel_rfl) (by kernel_rfl) ?_;(repeat ((with_reducible refine wpQuiet_step (λK hK=>?_));go_simp;first|(refine hK _ ?_;clear hK K)|(rw[if_neg (by simp[Tj,yielded,undef])];go_simp;refine hK _ ?_;clear hK K)));refine wpQuiet_nil ?_;rintro _ ⟨nq,rfl⟩;have aj:=Hm (Qo R.o nq);(go_wp2_with fail);refine(af.o _ aj.o).mono ?_;rintro e w4 (⟨f,hr,rfl,hb⟩|⟨s',ns,hr,rfl,hI⟩)
   . go_wp2;go_ret;exact .inl ⟨f,g.o.trans hr,rfl,hb⟩
   go_wp2;go_ret;exact .inr ⟨s',ns,g.o.trans hr,rfl,hI⟩
 have bh:(y.op==36)=false:=by simp[u]
 have g:Hid (M=JQ x oty s y):=by show M=_;rw[HM.o];simp[step,A.o,show ¬(frm y.op=5)from bz.o,u]
 clear u HM;have E:=cell_regrown d0;have T1:Hid (∀d os,Ec Q 174 #[U O y.op] (grow (redrawn k d) os) λe w''=>e=Z (U O f)/\∃p:Regrown,w''=grow (redrawn k p.d) p.os):=λd os=>Tz (HF.o _);refine wp_region_quiet_below (by kernel_rfl) (by kernel_rfl) ?_;repeat ((with_reducible refine wpQuiet_step (λK hK=>?_));go_simp;first|(refine hK _ ?_;clear hK K)|(apply Exists.intro;refine⟨λ_=>?_,hK _ ?_⟩;(with_reducible exact T1.o _ _);clear hK K)|(rw[if_neg (by simp[Tj,yielded,undef])];go_simp;refine hK _ ?_;clear hK K))
 with_reducible refine wpQuiet_nil ?_
 intro _ F;obtain⟨⟨dq,n⟩,t⟩:=F;subst t;have c:=below_regrown k dq n;clear E T1;generalize grow (redrawn k dq) n=w2 at *;try show Exit.then _ _ Tn _ w2
 have R:=Hm (z.o.trans (c.mono z.o.size));have I:=Hm (L.o.keep c);obtain⟨⟨g0,g1,g2,g3,g4⟩,gf⟩:=I.o;go_upto_region 5 with fail
 refine wp_region_quiet_lit (by kernel_rfl) (by kernel_rfl) ?_;repeat ((with_reducible refine wpQuiet_step (λK hK=>?_));go_simp;first|(refine hK _ ?_;clear hK K)|(rw[if_neg (by simp[Tj,yielded,undef])];go_simp;refine hK _ ?_;clear hK K))
 refine wpQuiet_nil ?_;rintro _ ⟨nq,rfl⟩;have aj:=Hm (Qo R.o nq);go_wp2_with fail
 refine(a3.o _ aj.o A.o).mono ?_;rintro e w4 (⟨f,hr,rfl,hb⟩|⟨s',ns,hr,rfl,hI⟩)
 . go_wp2;go_ret;exact .inl ⟨f,g.o.trans hr,rfl,hb⟩
 go_wp2;go_ret;exact .inr ⟨s',ns,g.o.trans hr,rfl,hI⟩
theorem istep_c (y:In)(o:Option Ad)(n:Nat)(h:ISt D w0 p (Yp (some ⟨q,0,none⟩)) l ks s V)(b:SpR D w0 q x fo go bd m ks)(d:JM D w0 ks l s.ps s.gq)(B:Bd s)(C:CxB x)(c:s.cq≠[])(j:0<=y.a)(g:y.a<=4294967295)(f:N y.l<=1048577)(r:Ty D w0 [] (S o (N y.l) n) y.l)(k:∀i∈y.l,0<=i):Ec Q 105 #[Yp (some ⟨p,0,none⟩),inV y o n] V (FnX D w0 p (Yp (some ⟨q,0,none⟩)) l ks (step x frm oty s y)):=by
 by_cases t:frm y.op=5
 . exact istep_5 y o n h b d B C c j g f r k t
 exact istep_n y o n h b d B C c j g f r k t
theorem endsM_take (n:Int)(gs:List Grp)(k:Nat)(h:k<N gs):QR n (gs.take (k+1))=QR n (gs.take k)++[n+QJ (gs.take k)+(gs.getD k Grp.z).n]/\QJ (gs.take (k+1))=QJ (gs.take k)+(gs.getD k Grp.z).n:=by
 have e:gs.take (k+1)=gs.take k++[gs.getD k Grp.z]:=by rw[List.take_succ_eq_append_getElem h];simp[Kx,h]
 rw[e,endsM_snoc];exact⟨rfl,by simp[QJ]⟩
theorem ilocNew_c {D w0 V rs}(m s:Option Ad)(a l q:Nat)(gs:List Grp)(hm:Mo D w0 rs V)(hg:GrL D w0 s gs)(bq:a<=1048577)(bu:N gs<=1048577)(hs:∀k,k<=N gs->0<=QJ (gs.take k)/\QJ (gs.take k)<=4503599627370496*4):Ec Q 103 #[S m a l,S s (N gs) q] V λe w'=>∃y,e=Z (Ag #[S m a l,S s (N gs) q,y])/\Mo D w0 (⟨2,1,(QR a gs).length,y,I (QR a gs)⟩::rs) w':=by
 obtain⟨i0,hi,ar,aq,ap⟩:=info_parts info2;obtain⟨W,hW⟩:∃W,W=(V.alloc (Fc #[S none 0 0,S none 0 0,S none 0 0] 113)).alloc (Fc #[S m a l,S s (N gs) q,S none 0 0] 113):=⟨_,rfl⟩;have A:=(hm.box (cur:=#[S none 0 0,S none 0 0,S none 0 0]) 113 3 rfl).box (cur:=#[S m a l,S s (N gs) q,S none 0 0]) 113 3 rfl;have ab:(V.alloc (Fc #[S none 0 0,S none 0 0,S none 0 0] 113)).heap.size=V.heap.size+1:=by simp
 rw[<- hW,ab]at A;have ad:Mo D w0 (box 113 3 (V.heap.size+1) [S m a l,S s (N gs) q,S none 0 0]::⟨2,1,0,S none 0 0,[]⟩::box 113 3 V.heap.size [S none 0 0,S none 0 0,S none 0 0]::rs) W:=by have h1:=A.new (ns:=[⟨2,1,0,S none 0 0,[]⟩]) bFz (Own.one (Tq W _ 2 1));exact h1.perm (Kf _ _ _)
 have M:=Hm ad;have HG:=Hm hg;have a4:=Hm hs;obtain⟨X,C⟩:∃X,X=V.heap.size+1:=⟨_,rfl⟩;obtain⟨Y,E⟩:∃Y,Y=V.heap.size:=⟨_,rfl⟩;rw[<- C,<- E]at M;clear hm A ad hg hs;go_enter func103,ntmps103;go_upto_region 2 with fail
 rw[<- hW,<- C,<- E];clear hW C E ab;go_wp2;go_loopw [6,16] (λn i wr=>∃(k:Nat) (y:Vu),k<=N gs/\i=U O k/\n=U O (a+QJ (gs.take k))/\Mo D w0 (box 113 3 X [S m a l,S s (N gs) q,y]::⟨2,1,k,y,I (QR a (gs.take k))⟩::box 113 3 Y [S none 0 0,S none 0 0,S none 0 0]::rs) wr) (λ_ i _=>N gs-(intOf i).toNat)
 case atStart=>exact⟨0,S none 0 0,Kw _,rfl,by simp[QJ],M.o⟩
 obtain⟨k,y,hk,rfl,rfl,c⟩:=hrel;have hr:wr.ownsRow D 2 1 y k (I (QR a (gs.take k))):=c.row (r:=⟨2,1,k,y,I (QR a (gs.take k))⟩) (by simp);obtain⟨H,F,au⟩:=Qg hr;have d0:=(c.b0 0).1;have d1:=(c.b0 1).1;have d2:=(c.b0 2).1;subst au;by_cases t:k<N gs
 . (have br:(k:Int)<(N gs:Int):=by omega);rcases HG.o with hx|⟨b,off,ay,hb,hc⟩
   . subst hx;simp at t
   subst ay;have c0:wr.cell? ⟨b,off+k*2,none⟩=some (U O (gs.getD k Grp.z).n):=(c.b.cell (p:=⟨b,off+k*2,none⟩) hb).trans (hc k t).1;have c1:wr.cell? ⟨b,off+k*2+1,none⟩=some (U O (gs.getD k Grp.z).ty):=(c.b.cell (p:=⟨b,off+k*2+1,none⟩) hb).trans (hc k t).2;obtain⟨E1,E2⟩:=endsM_take a gs k t;have ac:=a4.o (k+1) (by omega);rw[E2]at ac;obtain⟨f,af⟩:∃f,f=(gs.getD k Grp.z).n:=⟨_,rfl⟩;obtain⟨gt,ae⟩:∃gt,gt=(gs.getD k Grp.z).ty:=⟨_,rfl⟩;obtain⟨d,hS⟩:∃d,d=(a:Int)+QJ (gs.take k):=⟨_,rfl⟩;rw[<- af]at c0 E1 E2 ac;rw[<- ae]at c1;rw[<- hS]at E1⊢;(have hw:IntKind.i64.wrap (d+f)=d+f:=by rw[Kz];omega);have a7:=Hm E1;(have a5:Hid ((a:Int)+QJ (gs.take (k+1))=d+f):=by show _=_;rw[E2];omega);have ah:=Hm c;have OW:=Hm hr;clear c hr hc E1 E2 af ae hS d0 d1;(go_upto_region 7 with fail);obtain⟨L,B⟩:∃L,L=wr.alloc (Fc #[U O f,U O gt] 172):=⟨_,rfl⟩;(have bW:Bw wr.heap.size wr L:=by rw[B];exact bFz.alloc lRz _);rw[<- B];have R:=Hm (ah.o.keep bW);have bw:=(R.o.b0 2).1;have a3:=Hm (Qb.Ok.keep' OW.o bW);have ba:=R.o.le;(have bs:k<=1048577:=by omega);(have HP:Hid (∀W v',W.ownsRow D 2 1 v' (k+1) (I (QR a (gs.take k))++[U O (d+f)])->(L.alloc (Fc #[U O (d+f)] 2)).grownBy W (Tv H k F).ownBlock->(v'.ownBlock=(Tv H k F).ownBlock\/v'.ownBlock=some (L.alloc (Fc #[U O (d+f)] 2)).heap.size)->(W.cell? ⟨X,2,none⟩=some (S H k F)/\W.frozen? ⟨X,2,none⟩=false)/\Mo D w0 (box 113 3 X [S m a l,S (some ⟨b,off,none⟩) (N gs) q,v']::⟨2,1,k+1,v',I (QR a (gs.take (k+1)))⟩::box 113 3 Y [S none 0 0,S none 0 0,S none 0 0]::rs) (W.setCell ⟨X,2,none⟩ v')):=λW v' ho hgr hl=>by have h1:=((R.o.perm (Kf _ _ _)).push (r':=⟨2,1,k+1,v',I (QR a (gs.take k))++([U O (d+f)]:List Vu)⟩) (bFz.alloc lRz _) hgr ho hl).perm (Kf _ _ _);refine⟨h1.b0 2,?_⟩;have h2:=h1.set 2 v';(have e:I (QR a (gs.take (k+1)))=I (QR a (gs.take k))++[U O (d+f)]:=by rw[a7.o];simp[I]);rw[e];exact h2);clear B bW ah OW
   (go_wp2_with (at_builtin;refine XP rfl _ _ 24 rfl D 2 i0 (U O 0) 1 8 underlying24 hi ar aq ap rfl (by decide) _ _ _ rfl (World.ownsRow.alloc a3.o _) (some ⟨L.heap.size,0,none⟩) 1 1 [U O (d+f)] rfl (by simp) (.inr ⟨_,rfl,Jo L [U O (d+f)] 2⟩) (oneI _) (by unfold maxLen;omega) (by omega) (by rw[World.size_alloc];omega) ?_;intro v' W3 g j u;have HQ:=Hm (HP.o W3 v' g j u);have x1:=HQ.o.1.1;have x2:=HQ.o.1.2;obtain⟨va,vc,rfl⟩:=Qg g;clear g j u));(go_roundw);(case rel=>exact⟨k+1,_,by omega,by go_num,by rw[a5.o],HQ.o.2⟩);case measure=>simp[intOf];omega
 have e:k=N gs:=by omega
 subst e;have y0:=(c.tail.tail.b0 0);have y1:=(c.tail.tail.b0 1);have y2:=(c.tail.tail.b0 2);obtain⟨a0,b0⟩:=y0;obtain⟨a1,b1⟩:=y1;obtain⟨a2,b2⟩:=y2;have HX:=Hm ((((c.tail.perm (Kf _ _ _)).set 0 (S m a l)).set 1 (S s (N gs) q)).set 2 (S H (N gs) F));clear c hr M;go_wp2;refine QC (λW'=>(W'.cell? ⟨Y,0,none⟩=some (S m a l)/\W'.cell? ⟨Y,1,none⟩=some (S s (N gs) q)/\W'.cell? ⟨Y,2,none⟩=some (S H (N gs) F))/\Mo D w0 (⟨2,1,(QR a gs).length,S H (N gs) F,I (QR a gs)⟩::rs) W') ⟨⟨(HX.o.b0 0).1,(HX.o.b0 1).1,(HX.o.b0 2).1⟩,by have:=HX.o.tail;rw[List.take_length]at this;rw[endsM_len];exact this⟩ ?_;rintro W' ⟨⟨u0,u1,u2⟩,h1⟩;exact bodyPost_ret (v:=Ag #[S m a l,S s (N gs) q,S H (N gs) F]) (by simp[results,results103,go_sem,u0,u1,u2]) rfl ⟨_,rfl,h1⟩
theorem perm321 (a b c:Qb)(ks:List Qb):(c::b::a::ks).Perm (a::b::c::ks):=by
 classical
 rw[Kn];intro x;simp[Th];omega
def BnP (D:Nat)(w0:J)(sp:Vu)(rs:List Qb)(t:Qc)(gs:List Grp)(e:Ending)(w':J):Prop:=∃p l ns,e=Z (Yp (some ⟨p,0,none⟩))/\ISt D w0 p sp l (ns++rs) (fn0 t gs) w'/\JM D w0 (ns++rs) l t.ps gs
theorem ibodyNew_c {D w0 V rs}(q:Nat)(pv rv:Vu)(t:Qc)(g:Option Ad)(m:Nat)(gs:List Grp)(H:Mo D w0 rs V)(M:Ty D w0 rs pv t.ps)(L:Ty D w0 rs rv t.rs)(hg:GrL D w0 g gs)(R:N t.ps<=1048577)(Y:N gs<=1048577)(hs:∀k,k<=N gs->0<=QJ (gs.take k)/\QJ (gs.take k)<=4503599627370496*4):Ec Q 43 #[Yp (some ⟨q,0,none⟩),Ag #[pv,rv],S g (N gs) m] V (BnP D w0 (Yp (some ⟨q,0,none⟩)) rs t gs):=by
 obtain⟨b,a,rfl,_⟩:=M.has0 H;obtain⟨y,v,rfl,_⟩:=L.has0 H;have l:=H.box (cur:=#[S b (N t.ps) a,S y (N t.rs) v]) 76 2 rfl;obtain⟨W,hW⟩:∃W,W=V.alloc (Fc #[S b (N t.ps) a,S y (N t.rs) v] 76):=⟨_,rfl⟩;obtain⟨B,hB⟩:∃B,B=V.heap.size:=⟨_,rfl⟩;rw[<- hW,<- hB]at l;have c0:=(l.b0 0).1;have C:=Hm (ilocNew_c b g (N t.ps) a m gs l hg R Y hs);have ag:=Hm M;have af:=Hm L;have HG:=Hm hg;clear H l M L hg hs;go_enter func43,ntmps43;go_upto_region 1 with fail
 rw[<- hW,<- hB];clear hW hB;go_wp2_with fail
 refine C.o.mono ?_;rintro e z ⟨n,rfl,j⟩;have F:z.ownsRow D 2 1 n (QR (N t.ps) gs).length (I (QR (N t.ps) gs)):=j.row (r:=⟨2,1,_,n,_⟩) (by simp);obtain⟨ea,ec,A⟩:=Qg F;have d0:=(j.tail.b0 1).1;have s:=j.box (cur:=#[Yp (some ⟨q,0,none⟩),S b (N t.ps) a,S g (N gs) m,n,S none 0 0,S none 0 0]) 116 6 rfl;obtain⟨ks,d⟩:∃ks:List Qb,ks=⟨2,1,(QR (N t.ps) gs).length,n,I (QR (N t.ps) gs)⟩::box 76 2 B [S b (N t.ps) a,S y (N t.rs) v]::rs:=⟨_,rfl⟩;rw[<- d]at s;have c:∀r∈rs,r∈ks:=λr F=>by rw[d];simp[F]
 have u:ISt D w0 z.heap.size (Yp (some ⟨q,0,none⟩)) ⟨S b (N t.ps) a,S g (N gs) m,n⟩ ks ⟨t.ps,gs,[],[]⟩ (z.alloc (Fc #[Yp (some ⟨q,0,none⟩),S b (N t.ps) a,S g (N gs) m,n,S none 0 0,S none 0 0] 116)):=by refine⟨S none 0 0,S none 0 0,[],?_,rfl⟩;have h1:=(s.new (ns:=[⟨2,1,0,S none 0 0,[]⟩]) bFz (Own.one (Tq _ _ 2 1))).new (ns:=[⟨221,5,0,S none 0 0,[]⟩]) bFz (Own.one (Tq _ _ _ 5));exact h1.perm (perm321 _ _ _ _)
 obtain⟨W2,f⟩:∃W2,W2=z.alloc (Fc #[Yp (some ⟨q,0,none⟩),S b (N t.ps) a,S g (N gs) m,n,S none 0 0,S none 0 0] 116):=⟨_,rfl⟩;obtain⟨p,X⟩:∃p,p=z.heap.size:=⟨_,rfl⟩;rw[<- f,<- X]at u;have d1:W2.cell? ⟨B,1,none⟩=some (S y (N t.rs) v):=by rw[f];exact Qf d0
 have ai:=Hm (ibegin_c 2 (S y (N t.rs) v) t.rs u (af.o.sub c) (by simp) (by simp));have ah:Hid (JM D w0 ks ⟨S b (N t.ps) a,S g (N gs) m,n⟩ t.ps gs):=⟨ag.o.sub c,⟨g,m,rfl,HG.o⟩,.inr (by rw[d];simp)⟩;have E:=Hm d;rw[A]at f;subst A;clear j s F u c d d0 C;go_upto_region 2 with fail
 rw[<- f,<- X];clear f X;go_wp2_with (go_at_call 104;refine ai.o.mono ?_;rintro e w3 ⟨rfl,ac⟩)
 go_ret;refine⟨p,⟨S b (N t.ps) a,S g (N gs) m,S ea (QR (N t.ps) gs).length ec⟩,[⟨2,1,(QR (N t.ps) gs).length,S ea (QR (N t.ps) gs).length ec,I (QR (N t.ps) gs)⟩,box 76 2 B [S b (N t.ps) a,S y (N t.rs) v]],rfl,?_,?_⟩
 . have:=ac;rw[E.o]at this;exact this
 have:=ah.o;rw[E.o]at this;exact this
def InL (D:Nat)(w0:J)(a:Option Ad)(xs:List In):Prop:=xs=[]\/∃b off,a=some ⟨b,off,none⟩/\b<D/\∀i,i<N xs->∃la lc,w0.cell? ⟨b,off+i*5,none⟩=some (U O (xs.getD i I0).op)/\w0.cell? ⟨b,off+i*5+1,none⟩=some (U O (xs.getD i I0).a)/\w0.cell? ⟨b,off+i*5+2,none⟩=some (U O (xs.getD i I0).b)/\w0.cell? ⟨b,off+i*5+3,none⟩=some (U Ou (xs.getD i I0).v)/\w0.cell? ⟨b,off+i*5+4,none⟩=some (S la (xs.getD i I0).l.length lc)/\Ty D w0 [] (S la (xs.getD i I0).l.length lc) (xs.getD i I0).l
abbrev atIns (k:Nat)(e:Vu):Vu:=If 357 (Ag #[U O k,e])
structure InB (y:In):Prop where
 a0:0<=y.a
 a1:y.a<=4294967295
 ll:N y.l<=1048576
 l0:∀i∈y.l,0<=i
def BoP (D:Nat)(w0:J)(ks:List Qb)(r:Except (Int × Nat) Fn)(e:Ending)(w':J):Prop:=(∃f k,r=.error (f,k)/\e=Z (atIns k (flt f))/\Mo D w0 ks w')\/∃s',r=.ok s'/\e=Z Nf/\Mo D w0 ks w'
theorem Gs (x:Ctx)(frm:Int->Int)(oty:Int->Qc)(s:Fn)(xs:List In)(k:Nat)(h:k<N xs):QL x frm oty s k (xs.drop k)=match step x frm oty s (xs.getD k I0)with|.error e=>.error (e,k)|.ok s'=>QL x frm oty s' (k+1) (xs.drop (k+1)):=by
 rw[JP xs k h,QL]<;>cases step x frm oty s (xs.getD k I0)<;>rfl
theorem bd_next {a:Fn}{n:List Bool}{k:Nat}(B:Bd s)(K:Kp s a n)(d:k<1048576)(f:N s.cq<=k+1)(c:N s.jj<=k*1048576):Bd a/\N a.cq<=k+1+1/\N a.jj<=(k+1)*1048576:=by
 have j:=K.bl;have g:=K.st;have b:N a.jj<=(k+1)*1048576:=by rw[Nat.add_mul];omega
 refine⟨⟨K.inv,by omega,by omega,K.rl B.rl,by rw[K.gq];exact B.nn,by rw[K.ps];exact B.pl,by rw[K.gq];exact B.gl⟩,by omega,b⟩
theorem ilistB_c (a:Option Ad)(c:Nat)(xs:List In)(h:ISt D w0 p (Yp (some ⟨q,0,none⟩)) l ks s V)(ai:SpR D w0 q x fo go bd m ks)(ao:JM D w0 ks l s.ps s.gq)(B:Bd s)(C:CxB x)(a6:N s.cq<=1)(bz:N s.jj=0)(hL:InL D w0 a xs)(hI:∀y∈xs,InB y)(bv:N xs<=1048576)(ap:goM (nst s) xs=true):Ec Q 249 #[S a (N xs) c,.func (.func 105) #[Yp (some ⟨p,0,none⟩)] #[]] V (BoP D w0 ks (QL x frm oty s 0 xs)):=by
 obtain⟨M,hM⟩:∃M,M=QL x frm oty s 0 xs:=⟨_,rfl⟩;rw[<- hM];have HS:=Hm (⟨h,B,ap⟩:ISt D w0 p (Yp (some ⟨q,0,none⟩)) l ks s V/\Bd s/\goM (nst s) xs=true);have bb:=Hm ai;have ad:=Hm ao;have HL:=Hm hL;have ae:=Hm hI;have ac:=Hm hM;have bl:N s.cq<=1:=a6;clear h ai ao B hL hI ap hM;go_enter func249,ntmps249;go_wp2;go_loopw [10] (λi wr=>∃(k:Nat) (d:Fn) (ns:List Qb),k<=N xs/\i=U O k/\ISt D w0 p (Yp (some ⟨q,0,none⟩)) l (ns++ks) d wr/\Bd d/\N d.cq<=k+1/\N d.jj<=k*1048576/\d.ps=s.ps/\d.gq=s.gq/\goM (nst d) (xs.drop k)=true/\M=QL x frm oty d k (xs.drop k)) (λi _=>N xs-(intOf i).toNat)
 case atStart=>exact⟨0,s,[],Kw _,rfl,HS.o.1,HS.o.2.1,by omega,by omega,rfl,rfl,HS.o.2.2,ac.o⟩
 obtain⟨k,d,ns,hk,rfl,A,B1,Y,I,e1,e2,g,r⟩:=hrel;by_cases t:k<N xs
 . (have b1:(k:Int)<(N xs:Int):=by omega);rcases HL.o with hx|⟨b,off,a8,hb,hc⟩
   . subst hx;simp at t
   subst a8;obtain⟨la,lc,c0,c1,c2,c3,c4,tL⟩:=hc k t;have j:=ae.o (xs.getD k I0) (by simp[Kx,t]);rw[JP xs k t]at g;have ak:=A.mo.b;have kp:=λ(o:Nat) (u:Vu) (hu:w0.cell? ⟨b,o,none⟩=some u)=>(ak.cell (p:=⟨b,o,none⟩) hb).trans hu;have d0:=kp _ _ c0;have d1:=kp _ _ c1;have d2:=kp _ _ c2;have d3:=kp _ _ c3;have d4:=kp _ _ c4;rw[Gs x frm oty d xs k t]at r;obtain⟨y,hy⟩:∃y,y=xs.getD k I0:=⟨_,rfl⟩;rw[<- hy]at d0 d1 d2 d3 d4 tL j g r;have X:gd y=true:=by
    by_cases e:gd y=true
    . exact e
    simp[goM,e]at g
   obtain⟨n',R,H⟩:∃n',QB (nst d) y.op=some n'/\goM n' (xs.drop (k+1))=true:=by
    cases hsm:QB (nst d) y.op with
    |none=>simp[goM,X,hsm]at g
    |some n'=>exact⟨n',rfl,by simpa[goM,X,hsm]using g⟩
   (have L:d.cq≠[]:=λe=>by simp[QB,nst,e]at R);obtain⟨W,hW⟩:∃W,W=wr.alloc (Fc #[U O y.op,U O y.a,U O y.b,U Ou y.v,S la (N y.l) lc] 85):=⟨_,rfl⟩;(have ba:Bw wr.heap.size wr W:=by rw[hW];exact bFz.alloc lRz _);(have kk:C5 W wr.heap.size 0 (U O y.op) (U O y.a) (U O y.b) (U Ou y.v) (S la (N y.l) lc):=by rw[hW];exact C5.new);obtain⟨⟨f0,f1,f2,f3,f4⟩,cf⟩:=kk;have a9:=Hm (istep_c y la lc (A.keep ba) (bb.o.sub mem_app) (by rw[e1,e2];exact⟨ad.o.1.sub mem_app,ad.o.2.1,ad.o.2.2.sub mem_app⟩) B1 C L j.a0 j.a1 (by have:=j.ll;omega) tL j.l0);have HK:=Hm (λs' (hs':step x frm oty d y=.ok s')=>step_kp hs' C B1 L j.a0 R);have aw:=Hm (λs' n (K:Kp d s' n)=>bd_next B1 K (k:=k) (by omega) Y I);have ab:=Hm r;have ar:=Hm H;have av:=Hm e1;have au:=Hm e2;clear A B1 Y I e1 e2 g r hc c0 c1 c2 c3 c4 tL j hy X R L ba cf ak kp H HL ae HS ac;(go_upto_region 4 with fail);rw[<- hW];clear hW;(go_wp2_with fail);refine a9.o.mono ?_;rintro e w2 (⟨f,hr,rfl,z⟩|⟨s2,ns2,hr,rfl,hI2⟩)
   . (have F:Hid (M=.error (f,k)):=by show M=_;rw[ab.o,hr]);have E:=Hm z.right;clear hr z;go_wp2;go_ret;exact .inl ⟨f,k,F.o,rfl,E.o⟩
   (have F:Hid (M=QL x frm oty s2 (k+1) (xs.drop (k+1))):=by show M=_;rw[ab.o,hr]);have K:=HK.o s2 hr;obtain⟨B2,z,aj⟩:=aw.o s2 _ K;have aa:Hid (s2.ps=s.ps/\s2.gq=s.gq/\goM (nst s2) (xs.drop (k+1))=true):=⟨K.ps.trans av.o,K.gq.trans au.o,by rw[K.nst];exact ar.o⟩;(have bg:Hid (ISt D w0 p (Yp (some ⟨q,0,none⟩)) l ((ns2++ns)++ks) s2 w2):=by show ISt D w0 p _ l ((ns2++ns)++ks) s2 w2;rw[List.append_assoc];exact hI2);have E:=Hm (⟨B2,z,aj⟩:Bd s2/\N s2.cq<=k+1+1/\N s2.jj<=(k+1)*1048576);clear hr K B2 z aj hI2 HK aw ab ar av au;go_wp2;(go_roundw);(case rel=>exact⟨k+1,s2,ns2++ns,by omega,by go_num,bg.o,E.o.1,E.o.2.1,E.o.2.2,aa.o.1,aa.o.2.1,aa.o.2.2,F.o⟩);case measure=>simp[intOf];omega
 have e:k=N xs:=by omega
 subst e;have F:Hid (M=.ok d):=by show M=_;rw[r,Hz lRz];rfl
 have bc:=Hm A.mo.right;clear A B1 Y I e1 e2 g r HL ae HS ac;go_wp2;go_ret;exact .inr ⟨d,F.o,rfl,bc.o⟩
def XI (x:Ctx)(go:Int)(gv:List Int)(i:Int):R (List Int):=if go<=i then .error 2 else if(Q6 x i).mu then .error 5 else .ok (gv++[(Q6 x i).ty])
def Xf (x:Ctx)(go want:Int)(gv:List Int)(y:In):R (List Int) :=
 if frm y.op=7\/frm y.op=8\/frm y.op=9\/frm y.op=10 then .ok (gv++(oty y.op).rs)else
 if y.op=35 then XI x go gv y.a else if y.op=11 then(if gv=[want]then .ok gv else .error 6)else .error 5
def QU (x:Ctx)(go want:Int):List Int->Nat->List In->Except (Int × Nat) (List Int)
 |g,_,[]=>.ok g
 |g,k,y::ys=>match Xf x go want g y with
  |.error e=>.error (e,k)
  |.ok g'=>QU x go want g' (k+1) ys
abbrev cbR (p:Nat)(sp:Vu)(want:Int)(v:Vu):Qb:=box 342 3 p [sp,U O want,v]
def CSt (D:Nat)(w0:J)(p:Nat)(sp:Vu)(want:Int)(ks:List Qb)(g:List Int)(V:J):Prop:=∃v,Mo D w0 (cbR p sp want v::⟨2,1,N g,v,I g⟩::ks) V
def CsP (D:Nat)(w0:J)(p:Nat)(sp:Vu)(want:Int)(ks:List Qb)(r:R (List Int))(e:Ending)(w':J):Prop:=(∃f,r=.error f/\e=Z (flt f)/\Mo D w0 ks w')\/∃g,r=.ok g/\e=Z Nf/\CSt D w0 p sp want ks g w'
section
variable {D:Nat}{w0:J}{p:Nat}{sp:Vu}{want:Int}{ks:List Qb}{g:List Int}{V W V1:J}
theorem CSt.keep (h:CSt D w0 p sp want ks g V)(a:Bw V.heap.size V W):CSt D w0 p sp want ks g W:=by
 obtain⟨v,h⟩:=h;exact⟨v,h.keep a⟩
theorem CSt.mo (h:CSt D w0 p sp want ks g V):Mo D w0 ks V:=by obtain⟨v,h⟩:=h;exact h.tail.tail
theorem CSt.opn (h:CSt D w0 p sp want ks g V):∃a c,Mo D w0 (cbR p sp want (S a (N g) c)::⟨2,1,N g,S a (N g) c,I g⟩::ks) V/\V.cell? ⟨p,0,none⟩=some sp/\V.cell? ⟨p,1,none⟩=some (U O want)/\V.cell? ⟨p,2,none⟩=some (S a (N g) c)/\V.frozen? ⟨p,2,none⟩=false:=by
 obtain⟨v,h⟩:=h;have b:V.ownsRow D 2 1 v (N g) (I g):=h.row (r:=⟨2,1,N g,v,I g⟩) (by simp);obtain⟨a,c,rfl⟩:=Qg b;exact⟨a,c,h,(h.b0 0).1,(h.b0 1).1,(h.b0 2).1,(h.b0 2).2⟩
theorem CSt.pushed {a:Option Ad}{c:Nat}{xs:List Int}(h:Mo D w0 (cbR p sp want (S a (N g) c)::⟨2,1,N g,S a (N g) c,I g⟩::ks) V)(k:Bw V.heap.size V V1)(d:W.ownsRow D 2 1 v' (N g+N xs) (I g++I xs))(j:V1.grownBy W (Tv a (N g) c).ownBlock)(f:v'.ownBlock=(Tv a (N g) c).ownBlock\/v'.ownBlock=some V1.heap.size):(W.cell? ⟨p,2,none⟩=some (S a (N g) c)/\W.frozen? ⟨p,2,none⟩=false)/\CSt D w0 p sp want ks (g++xs) (W.setCell ⟨p,2,none⟩ v'):=by
 have b:=((h.perm (Kf _ _ _)).push (r':=⟨2,1,N g+N xs,v',I g++I xs⟩) k j d f).perm (Kf _ _ _);refine⟨b.b0 2,v',?_⟩;have e:(⟨2,1,(g++xs).length,v',I (g++xs)⟩:Qb)=⟨2,1,N g+N xs,v',I g++I xs⟩:=by simp
 rw[e];exact b.set 2 v'
end
theorem icglob_c (i:Int)(h:CSt D w0 p (Yp (some ⟨q,0,none⟩)) want ks g V)(b:SpR D w0 q x fo go bd m ks)(h0:0<=i)(a2:go<=N x.jx)(a3:N g<=1048577):Ec Q 275 #[Yp (some ⟨p,0,none⟩),U O i] V (CsP D w0 p (Yp (some ⟨q,0,none⟩)) want ks (XI x go g i)):=by
 obtain⟨i0,hi,R,M,L⟩:=info_parts info2;obtain⟨a,c,C,c0,c1,c2,cf⟩:=h.opn;have r6:=(h.mo.bx b.bx 6).1;obtain⟨r0,r1,r2,r3,r4⟩:=b.cells h.mo;have HM:=Hm C;have HH:=Hm h.mo;by_cases k1:go<=i
 . (have l:Hid (XI x go g i=.error 2):=by show XI x go g i=_;simp[XI,k1]);clear h C b;go_enter func275,ntmps275;go_wp2;go_ret;exact .inl ⟨2,l.o,rfl,HH.o⟩
 obtain⟨j,rfl⟩:∃j:Nat,i=j:=⟨i.toNat,by omega⟩;have Y:j<N x.jx:=by omega
 obtain⟨fa,fc,z,A⟩:=Qu h.mo b.gr;obtain⟨gf,aa,s⟩:=A (by omega);subst aa;rw[z]at r4;have n:x.jx[j]?=some (Q6 x j):=by rw[Q6,Int.toNat_natCast];simp[Kx,Y]
 have H:=(Gr n).1;have F:=(Gr n).2;rw[<- b.gt]at H F;have d0:=s _ _ H (by omega);have d1:=s _ _ F (by omega);have a0:(j:Int)<(N x.jx:Int):=by omega
 have d:XI x go g j=if(Q6 x j).mu then .error 5 else .ok (g++[(Q6 x j).ty]):=by simp[XI,k1]
 obtain⟨v,y⟩:∃v,v=(Q6 x j).ty:=⟨_,rfl⟩;rw[<- y]at d0 d;cases hmu:(Q6 x j).mu
 . rw[hmu]at d1 d;(have l:Hid (XI x go g j=.ok (g++[v])):=by show XI x go g j=_;rw[d];rfl);clear h b z A s n H F d y hmu Y r0 r1 r2 r3 C;go_enter func275,ntmps275;(go_upto_region 6 with fail);obtain⟨W,E⟩:∃W,W=V.alloc (Fc #[U O v,G false] 176):=⟨_,rfl⟩;rw[<- E];(have ba:Bw V.heap.size V W:=by rw[E];exact bFz.alloc lRz _);(have kk:Bk W V.heap.size [U O v,G false]:=by rw[E];exact Bk.new);have e0:=kk.2.1 0 _ rfl;have t:=Hm (HM.o.keep ba);have ac:=(t.o.b0 2).1;have OW:Hid (W.ownsRow D 2 1 (S a (N g) c) (N g) (I g)):=t.o.row (r:=⟨2,1,N g,S a (N g) c,I g⟩) (by simp);have X:=t.o.le;have kd:∀o,(W.alloc o).cell? ⟨p,2,none⟩=some (S a (N g) c):=λo=>Qf ac;have HB:Hid (∀o,Bw W.heap.size W ((W.alloc o).drew)):=λo=>⟨rfl,rfl,rfl,by show W.heap.size<=(W.alloc o).heap.size;simp,λk hk=>QN W o k hk⟩;have HP:=Hm (λV1 W' v'=>CSt.pushed (V1:=V1) (W:=W') (v':=v') (xs:=[v]) t.o);clear E kk ba c2 c0 c1 cf d0 d1 r4 r6 HM
   go_region_law (first
    | (
     refine Qs rfl (.tmp 33) (.tmp 36) 24 rfl D 2 i0 (U O 0) 1 8 underlying24 hi R M L rfl (by decide) (S a (N g) c) (N g) (I g) (by first|rfl|simp[Tc,Hw]) (World.ownsRow.alloc OW.o _) ⟨W.heap.size,0,none⟩ 1 1 [U O v] (by first|rfl|simp[Tc,Hw]) (by first|rfl|simp) (Jo W [U O v] 2) (oneI _) (by unfold maxLen;omega) (by omega) (Kq X (HB.o _).size) ?_
     intro v2 w5 f B u
     have HQ:=Hm (HP.o _ w5 v2 (HB.o _) f B u);have a5:=HQ.o.1.1;have a4:=HQ.o.1.2;obtain⟨aq,ap,rfl⟩:=Qg f;clear f B u))
   all_goals
    go_wp2_with fail
    go_ret
    exact .inr ⟨_,l.o,rfl,HQ.o.2⟩
 rw[hmu]at d1 d;have l:Hid (XI x go g j=.error 5):=by show XI x go g j=_;rw[d];rfl
 clear h C b z A s n H F d y hmu Y;go_enter func275,ntmps275;go_wp2;go_ret;exact .inl ⟨5,l.o,rfl,HH.o.keep (bFz.alloc lRz _)⟩
theorem step_append_any {P:Program}{b:Array Oper}{o:Oper}{a:Act}{K:Act->J->Prop}{g:Exit->Act->J->Prop}{E:Prop}(f:o.guard=none)(s x:Operand)(t:TypeId) (j:o.op=.call { callee:=.builtin .append,args:=#[s,x],argTypes:=#[t,t] }) (base:Nat) (e:TypeId) (i:TypeInfo) (z:Vu) (size bytes:Nat) (ht:P.underlying t=some (.slice e)) (hi:P.info? e=some i) (hz:i.zero=some z) (hsize:i.size=size) (hby:i.bytes=bytes) (hzs:z.cells.size=size) (hsz:0<size) (v:Vu) (n:Nat) (xs:List Vu) (hs:a.eval s=v) (hown:w.ownsRow base e size v n xs) (a0:Option Ad) (m c:Nat) (news:List Vu) (hx:a.eval x=S a0 m c) (hl:N news=m*size) (hnews:SrcC w a0 news) (h1:∀u∈news,u.oneCell'=true) (h63:n+m<=maxLen) (hbytes:(n+m)*bytes<=140737488355328) (hbase:base<=w.heap.size) (h:∀v' w',w'.ownsRow base e size v' (n+m) (xs++news)->w.grownBy w' v.ownBlock->(v'.ownBlock=v.ownBlock\/v'.ownBlock=some w.heap.size)->K (a.put o.dst v') w'):if Tj o (yielded b a.tmps)=true then Oper.wp P o a w K g else E:=by
 rcases hnews with ⟨rfl,rfl⟩|⟨r,rfl,l⟩
 . (have k:Tj o (yielded b a.tmps)=true:=by simp[Tj,f]);rw[if_pos k];have p:m=0:=by
    rcases Nat.mul_eq_zero.1 hl.symm with h|h
    . exact h
    omega
   subst p;have d:=JS (P:=P) (w:=w) base t o.type e i size ht hi v n xs hown c;have q:=h v w (by simpa using hown) (World.grownBy.refl _ _) (.inl rfl);unfold Oper.wp execOp;simp only[j,resolve,invoke,builtin,Sem.run_bind,Sem.run_pure,Result.andThen_ok,List.map_toArray,List.map_cons,List.map_nil,hs,hx,d];exact q
 exact Qs f s x t j base e i z size bytes ht hi hz hsize hby hzs hsz v n xs hs hown r m c news hx hl l h1 h63 hbytes hbase h
theorem fieldF (pv rv:Vu)(d:∃a n c,pv=S a n c)(b:∃a n c,rv=S a n c)(w:J):(Instr.field 76 (Ag #[pv,rv]) 1).run Q w=.ok rv w:=by
 obtain⟨a,n,c,rfl⟩:=d;obtain⟨j,f,g,rfl⟩:=b;kernel_rfl
theorem icstep_c (y:In)(la:Option Ad)(lc:Nat)(h:CSt D w0 p (Yp (some ⟨q,0,none⟩)) want ks g V)(af:SpR D w0 q x fo go bd m ks)(h0:0<=y.a)(a8:go<=N x.jx)(bz:N g<=1048576):Ec Q 250 #[Yp (some ⟨p,0,none⟩),inV y la lc] V (CsP D w0 p (Yp (some ⟨q,0,none⟩)) want ks (Xf x go want g y)):=by
 obtain⟨i0,hi,a3,a2,a0⟩:=info_parts info2;obtain⟨M,hM⟩:∃M,M=Xf x go want g y:=⟨_,rfl⟩;rw[<- hM];obtain⟨W,hW⟩:∃W,W=V.alloc (Fc #[U O y.op,U O y.a,U O y.b,U Ou y.v,S la (N y.l) lc] 85):=⟨_,rfl⟩;have ba:Bw V.heap.size V W:=by rw[hW];exact bFz.alloc lRz _
 have kk:C5 W V.heap.size 0 (U O y.op) (U O y.a) (U O y.b) (U Ou y.v) (S la (N y.l) lc):=by rw[hW];exact C5.new
 have ak:=Hm kk;obtain⟨⟨c0,c1,c2,c3,c4⟩,cf⟩:=kk;have HF:=Hm (QK y.op W);have HI:=Hm (h.keep ba);have HM:=Hm hM;have bh:=Hm af;clear h hM af cf ba;go_enter func250,ntmps250;go_upto_region 1 with fail
 rw[<- hW];clear hW;go_wp2_with fail
 refine HF.o.mono ?_;rintro e F ⟨rfl,ac⟩;have E:=Hm (HI.o.keep ac);obtain⟨⟨d0,d1,d2,d3,d4⟩,df⟩:=ak.o.keep ac;obtain⟨a,c,hm,g0,g1,g2,gf⟩:=E.o.opn;have R:=Hm hm;clear ac HF HI ak c0 c1 c2 c3 c4 df hm;obtain⟨f,hf⟩:∃f,f=frm y.op:=⟨_,rfl⟩;rw[<- show f=Qi (Qa y.op)from hf];by_cases kc:f=7\/f=8\/f=9\/f=10
 . (have j:Hid (M=.ok (g++(oty y.op).rs)):=by show M=_;rw[HM.o,Xf,if_pos (by rw[<- hf];exact kc)]);have aj:=Hm (itype_c y.op F.drew);have a5:=R.o.le;have a4:(nz [(Qa y.op).g]).length<=1:=(oty_len y.op).2;obtain⟨Y,H⟩:∃Y,Y=nz [(Qa y.op).g]:=⟨_,rfl⟩;obtain⟨ps,ah⟩:∃ps,ps=nz [(Qa y.op).a,(Qa y.op).b]:=⟨_,rfl⟩;rw[<- H,<- ah]at aj;rw[<- H]at a4;(have ap:Hid (M=.ok (g++Y)):=by show M=_;rw[H];exact j.o);clear H ah j;have KC:Hid (∀(P:Prop),(f=7->P)->(f=8->P)->(f=9->P)->(f=10->P)->P):=λP a b c d=>by
    rcases kc with h|h|h|h
    . exact a h
    . exact b h
    . exact c h
    exact d h
   have bl:=Hm hf;clear hf kc HM;refine KC.o _ ?_ ?_ ?_ ?_
   all_goals
    intro ef
    subst ef;clear KC bl
    go_upto_region 6 with fail
    go_region_law (first
     | (
      refine step_append_any rfl (.tmp 17) (.tmp 21) 24 rfl D 2 i0 (U O 0) 1 8 underlying24 hi a3 a2 a0 rfl (by decide) (S a (N g) c) (N g) (I g) (by first|rfl|simp[Tc,Hw]) bg.o ra (N Y) rc (I Y) (by first|rfl|simp[Tc,Hw]) (by simp) SR.o (one_I _) (by unfold maxLen;omega) (by omega) (Kq a5 ao.o.size) ?_
      intro v2 w5 C ai aa
      have HQ:=Hm (CSt.pushed (xs:=Y) R.o ao.o C ai aa);have b7:=HQ.o.1.1;have b5:=HQ.o.1.2;obtain⟨bs,br,rfl⟩:=Qg C;clear C ai aa)
     | (
      go_simp
      go_at_call 272
      refine aj.o.mono ?_
      rintro e w2 ⟨pv,rv,rfl,L,A⟩;have t:Bw F.heap.size F w2:=⟨A.os,A.tape,A.output,A.size,A.block⟩;have ao:=Hm t;have bg:Hid (w2.ownsRow D 2 1 (S a (N g) c) (N g) (I g)):=Qb.Ok.keep' (R.o.row (r:=⟨2,1,N g,S a (N g) c,I g⟩) (by simp)) t;have b3:w2.cell? ⟨p,2,none⟩=some (S a (N g) c):=(t.cell (p:=⟨p,2,none⟩) (Kk F _ g2)).trans g2;obtain⟨pa,pc,rfl⟩:=Qg L.hp;obtain⟨ra,rc,rfl⟩:=Qg L.hr
      have SR:Hid (SrcC w2 ra (I Y)):=(by
       obtain⟨a1,c1,e1,hh⟩:=XQ L.hr
       cases e1
       exact Has.src hh)
      have fF:=fieldF (S pa (N ps) pc) (S ra (N Y) rc) ⟨_,_,_,rfl⟩ ⟨_,_,_,rfl⟩;clear L A t))
    all_goals
     go_wp2_with fail
     go_ret
     exact .inr ⟨_,ap.o,rfl,HQ.o.2⟩
 have k7:(f==7)=false:=by simp;omega
 have k8:(f==8)=false:=by simp;omega
 have k9:(f==9)=false:=by simp;omega
 have bv:(f==10)=false:=by simp;omega
 have z:M=if y.op=35 then XI x go g y.a else if y.op=11 then(if g=[want]then .ok g else .error 6)else .error 5:=by rw[HM.o,Xf,if_neg (by rw[<- hf];exact kc)]
 clear hf kc HM;by_cases k:y.op=35
 . (have j:Hid (M=XI x go g y.a):=by show M=_;rw[z,if_pos k]);have HG:=Hm (icglob_c (go:=go) y.a E.o bh.o h0 a8 (by omega));(have av:(y.op==35)=true:=by simp[k]);clear z k;(go_wp2_with fail);refine HG.o.mono ?_;rintro e w2 (⟨f2,hr,rfl,hb⟩|⟨g',hr,rfl,hI⟩)
   . go_wp2;go_ret;exact .inl ⟨f2,j.o.trans hr,rfl,hb⟩
   go_wp2;go_ret;exact .inr ⟨g',j.o.trans hr,rfl,hI⟩
 have av:(y.op==35)=false:=by simp[k]
 by_cases B:y.op=11
 . (have aw:(y.op==11)=true:=by simp[B]);(have s:M=if g=[want]then .ok g else .error 6:=by rw[z,if_neg k,if_pos B]);clear z k B;have hg:Hid (Has F a g):=by have hr:F.ownsRow D 2 1 (S a (N g) c) (N g) (I g):=R.o.row (r:=⟨2,1,N g,S a (N g) c,I g⟩) (by simp);obtain⟨a1,c1,e1,hh⟩:=XQ hr;cases e1;exact hh
   have X:=Hm (ieq_c a (some ⟨F.heap.size,0,none⟩) c 1 g [want] ((F.alloc (Fc #[U O want] 2)).drew) (by omega) (by simp) (hg.o.keep ((bFz.alloc lRz _).drew)) (.inr ⟨F.heap.size,0,rfl,fun i hi=>by
    have:i=0:=by simp at hi;omega
    subst this
    exact Qe rfl rfl⟩))
   have kd:∀o,(F.alloc o).cell? ⟨p,2,none⟩=some (S a (N g) c):=λo=>Qf g2;(go_upto_region 12 with fail);by_cases u:g=[want]
   . (have j:Hid (M=.ok g):=by show M=_;rw[s,if_pos u]);(have hd:decide (g=[want])=true:=by simp[u]);rw[hd]at X;clear s hd u
     go_region_law (
      go_simp
      go_at_call 269
      refine X.o.mono ?_
      rintro e w2 ⟨rfl,n,rfl⟩)
     all_goals
      go_wp2
      go_ret
      exact .inr ⟨g,j.o,rfl,E.o.keep (Qo (bFz.alloc lRz _) _)⟩
   (have j:Hid (M=.error 6):=by show M=_;rw[s,if_neg u]);(have hd:decide (g=[want])=false:=by simp[u]);rw[hd]at X;clear s hd u
   go_region_law (
    go_simp
    go_at_call 269
    refine X.o.mono ?_
    rintro e w2 ⟨rfl,n,rfl⟩)
   all_goals
    go_wp2
    go_ret
    exact .inl ⟨6,j.o,rfl,(E.o.keep (Qo (bFz.alloc lRz _) _)).mo⟩
 have aw:(y.op==11)=false:=by simp[B]
 have j:Hid (M=.error 5):=by show M=_;rw[z,if_neg k,if_neg B]
 clear z k B;go_wp2;go_ret;exact .inl ⟨5,j.o,rfl,E.o.mo⟩
def ClP (D:Nat)(w0:J)(ks:List Qb)(r:Except (Int × Nat) (List Int))(e:Ending)(w':J):Prop:=(∃f k,r=.error (f,k)/\e=Z (atIns k (flt f))/\Mo D w0 ks w')\/∃g,r=.ok g/\e=Z Nf/\Mo D w0 ks w'
theorem listC_drop (x:Ctx)(go want:Int)(g:List Int)(xs:List In)(k:Nat)(h:k<N xs):QU x go want g k (xs.drop k)=match Xf x go want g (xs.getD k I0)with|.error e=>.error (e,k)|.ok g'=>QU x go want g' (k+1) (xs.drop (k+1)):=by
 rw[JP xs k h,QU]<;>cases Xf x go want g (xs.getD k I0)<;>rfl
theorem cstep_len {a:List Int}{y:In}(h:Xf x go want g y=.ok a):N a<=N g+1:=by
 unfold Xf at h;split at h
 . cases h;have:=(oty_len y.op).2;simp at this⊢;omega
 split at h
 . unfold XI at h;split at h
   . cases h
   split at h
   . cases h
   cases h;simp
 split at h
 . split at h
   . cases h;omega
   cases h
 cases h
theorem ilistC_c (a:Option Ad)(c:Nat)(xs:List In)(h:CSt D w0 p (Yp (some ⟨q,0,none⟩)) want ks [] V)(C:SpR D w0 q x fo go bd m ks)(L:go<=N x.jx)(hL:InL D w0 a xs)(hI:∀y∈xs,InB y)(au:N xs<=1048576):Ec Q 249 #[S a (N xs) c,.func (.func 250) #[Yp (some ⟨p,0,none⟩)] #[]] V (ClP D w0 ks (QU x go want [] 0 xs)):=by
 obtain⟨M,R⟩:∃M,M=QU x go want [] 0 xs:=⟨_,rfl⟩;rw[<- R];have HS:=Hm h;have aa:=Hm C;have HL:=Hm hL;have A:=Hm hI;have z:=Hm R;clear h C hL hI R;go_enter func249,ntmps249;go_wp2;go_loopw [10] (λi wr=>∃(k:Nat) (g:List Int),k<=N xs/\i=U O k/\CSt D w0 p (Yp (some ⟨q,0,none⟩)) want ks g wr/\N g<=k/\M=QU x go want g k (xs.drop k)) (λi _=>N xs-(intOf i).toNat)
 case atStart=>exact⟨0,[],Kw _,rfl,HS.o,lRz,z.o⟩
 obtain⟨k,g,hk,rfl,j,ay,d⟩:=hrel;by_cases r:k<N xs
 . (have ax:(k:Int)<(N xs:Int):=by omega);rcases HL.o with hx|⟨b,off,X,hb,hc⟩
   . subst hx;simp at r
   subst X;obtain⟨I,H,c0,c1,c2,c3,c4,tL⟩:=hc k r;have s:=A.o (xs.getD k I0) (by simp[Kx,r]);have E:=j.mo.b;have B:=λ(o:Nat) (u:Vu) (hu:w0.cell? ⟨b,o,none⟩=some u)=>(E.cell (p:=⟨b,o,none⟩) hb).trans hu;have d0:=B _ _ c0;have d1:=B _ _ c1;have d2:=B _ _ c2;have d3:=B _ _ c3;have d4:=B _ _ c4;rw[listC_drop x go want g xs k r]at d;obtain⟨y,hy⟩:∃y,y=xs.getD k I0:=⟨_,rfl⟩;rw[<- hy]at d0 d1 d2 d3 d4 tL s d;obtain⟨W,F⟩:∃W,W=wr.alloc (Fc #[U O y.op,U O y.a,U O y.b,U Ou y.v,S I (N y.l) H] 85):=⟨_,rfl⟩;(have ba:Bw wr.heap.size wr W:=by rw[F];exact bFz.alloc lRz _);(have kk:C5 W wr.heap.size 0 (U O y.op) (U O y.a) (U O y.b) (U Ou y.v) (S I (N y.l) H):=by rw[F];exact C5.new);obtain⟨⟨f0,f1,f2,f3,f4⟩,cf⟩:=kk;have Y:=Hm (icstep_c y I H (j.keep ba) aa.o s.a0 L (by omega));have t:=Hm d;clear j d hc c0 c1 c2 c3 c4 tL s hy ba cf E B HL A HS z;(go_upto_region 4 with fail);rw[<- F];clear F;(go_wp2_with fail);refine Y.o.mono ?_;rintro e w2 (⟨f,hr,rfl,hb2⟩|⟨g2,hr,rfl,hI2⟩)
   . (have n:Hid (M=.error (f,k)):=by show M=_;rw[t.o,hr]);clear hr;go_wp2;go_ret;exact .inl ⟨f,k,n.o,rfl,hb2⟩
   (have n:Hid (M=QU x go want g2 (k+1) (xs.drop (k+1))):=by show M=_;rw[t.o,hr]);have aw:=cstep_len hr;have ae:=Hm hI2;clear hr t hI2;go_wp2;(go_roundw);(case rel=>exact⟨k+1,g2,by omega,by go_num,ae.o,by omega,n.o⟩);case measure=>simp[intOf];omega
 have e:k=N xs:=by omega
 subst e;have n:Hid (M=.ok g):=by show M=_;rw[d,Hz lRz];rfl
 have ac:=Hm j.mo;clear j d HL A HS z;go_wp2;go_ret;exact .inr ⟨g,n.o,rfl,ac.o⟩
abbrev Q5 (q:Nat)(x:Ctx)(m:Spc)(fo go bd:Int):List Qb:=[box 215 9 q (spB x m fo go bd),⟨76,2,N x.types,m.tv,m.tcs⟩,⟨76,2,N x.jk,m.fv,m.fcs⟩,⟨176,2,N x.jx,m.gv,m.gcs⟩]
structure SpF (D:Nat)(w0:J)(x:Ctx)(m:Spc):Prop where
 tt:FTs D w0 x.types m.tcs
 ft:FTs D w0 x.jk m.fcs
 gt:m.gcs=gCs x.jx
def SSt (D:Nat)(w0:J)(q:Nat)(x:Ctx)(fo go bd:Int)(nv:Vu)(ks:List Qb)(V:J):Prop:=∃m:Spc,m.nv=nv/\Mo D w0 (Q5 q x m fo go bd++ks) V/\SpF D w0 x m
def SsP (D:Nat)(w0:J)(q:Nat)(ks:List Qb)(nv:Vu)(r:R (Ctx × Int × Int × Int))(e:Ending)(w':J):Prop:=(∃f,r=.error f/\e=Z (flt f)/\Bw D w0 w'/\D<=w'.heap.size)\/∃x fo go bd,r=.ok (x,fo,go,bd)/\e=Z Nf/\SSt D w0 q x fo go bd nv ks w'
section
variable {D:Nat}{w0:J}{q:Nat}{x:Ctx}{fo go bd:Int}{nv:Vu}{ks:List Qb}{V W V1:J}
theorem SSt.keep (h:SSt D w0 q x fo go bd nv ks V)(a:Bw V.heap.size V W):SSt D w0 q x fo go bd nv ks W:=by
 obtain⟨m,e,c,b⟩:=h;exact⟨m,e,c.keep a,b⟩
theorem SSt.mo (h:SSt D w0 q x fo go bd nv ks V):Mo D w0 ks V:=by
 obtain⟨m,e,a,b⟩:=h;exact a.right
theorem SSt.spr (h:SpF D w0 x m):SpR D w0 q x fo go bd m (Q5 q x m fo go bd++ks):=⟨by simp,by simp,by simp,by simp,h.tt,h.ft,h.gt⟩
theorem SSt.of (a:m.nv=nv)(h:Mo D w0 (Q5 q x m fo go bd++ks) V)(b:SpF D w0 x m):SSt D w0 q x fo go bd nv ks V:=⟨m,a,h,b⟩
theorem SSt.num (h:SSt D w0 q x fo go bd nv ks V)(j:Nat)(u:Vu){a:Ctx}{c b d:Int}(k:a.types=x.types)(f:a.jk=x.jk)(l:a.jx=x.jx)(p:∀m:Spc,(spB x m fo go bd).set j u=spB a m c b d):SSt D w0 q a c b d nv ks (V.setCell ⟨q,j,none⟩ u):=by
 obtain⟨m,e,r,g⟩:=h;refine⟨m,e,?_,⟨by rw[k];exact g.tt,by rw[f];exact g.ft,by rw[l];exact g.gt⟩⟩;have o:=Mo.set (n:=1) (T:=215) (sz:=9) r j u;rw[p m]at o;show Mo D w0 ([box 215 9 q (spB a m c b d),⟨76,2,N a.types,m.tv,m.tcs⟩,⟨76,2,N a.jk,m.fv,m.fcs⟩,⟨176,2,N a.jx,m.gv,m.gcs⟩]++ks) _;rw[k,f,l];exact o
theorem FTs.snoc {xs:List Qc}{cs:List Vu}(h:FTs D w0 xs cs){t:Qc}{pv rv:Vu}(j:Ty D w0 [] pv t.ps)(g:Ty D w0 [] rv t.rs):FTs D w0 (xs++[t]) (cs++[pv,rv]):=by
 refine⟨by simp[h.1];omega,λi y hy=>?_⟩;by_cases l:i<N xs
 . rw[Lq l]at hy;obtain⟨p,r,a,b,c,d⟩:=h.2 i y hy;have:=h.1;exact⟨p,r,by rw[Lq (by omega)];exact a,by rw[Lq (by omega)];exact b,c,d⟩
 have f:i=N xs:=by have:=(List.getElem?_eq_some_iff.1 hy).1;simp at this;omega
 subst f;simp at hy;subst hy;have k:=h.1;exact⟨pv,rv,by rw[Tb (by omega),k,Nat.sub_self];rfl,by rw[Tb (by omega),show(N xs)*2+1-N cs=1 by omega];rfl,j,g⟩
theorem gCs_snoc (gs:List Qx)(g:Qx):gCs (gs++[g])=gCs gs++[U O g.ty,G g.mu]:=by simp[gCs]
theorem perm4T (a b c d:Qb)(ks:List Qb):(a::b::c::d::ks).Perm (b::a::c::d::ks):=by
 classical
 rw[Kn];intro z;simp[Th];omega
theorem SSt.pushT {y:Qc}(h:Mo D w0 (Q5 q x m fo go bd++ks) V)(g:Bw V.heap.size V V1)(b:W.ownsRow D 76 2 v' (N x.types+1) (m.tcs++c2))(d:V1.grownBy W m.tv.ownBlock)(c:v'.ownBlock=m.tv.ownBlock\/v'.ownBlock=some V1.heap.size)(f:SpF D w0 { x with types:=x.types++[y] } { m with tv:=v',tcs:=m.tcs++c2 }):(W.cell? ⟨q,0,none⟩=some m.tv/\W.frozen? ⟨q,0,none⟩=false)/\SSt D w0 q { x with types:=x.types++[y] } fo go bd m.nv ks (W.setCell ⟨q,0,none⟩ v'):=by
 have a:=((h.perm (perm4T _ _ _ _ _)).push (r':=⟨76,2,N x.types+1,v',m.tcs++c2⟩) g d b c).perm (perm4T _ _ _ _ _).symm;refine⟨a.b0 0,{ m with tv:=v',tcs:=m.tcs++c2 },rfl,?_,f⟩;have j:=a.set 0 v';have e:(x.types++[y]).length=N x.types+1:=by simp
 simp only[Q5,e];exact j
theorem perm4F (a b c d:Qb)(ks:List Qb):(a::b::c::d::ks).Perm (c::a::b::d::ks):=by
 classical
 rw[Kn];intro z;simp[Th];omega
theorem SSt.pushF {y:Qc}(h:Mo D w0 (Q5 q x m fo go bd++ks) V)(g:Bw V.heap.size V V1)(b:W.ownsRow D 76 2 v' (N x.jk+1) (m.fcs++c2))(d:V1.grownBy W m.fv.ownBlock)(c:v'.ownBlock=m.fv.ownBlock\/v'.ownBlock=some V1.heap.size)(f:SpF D w0 { x with jk:=x.jk++[y] } { m with fv:=v',fcs:=m.fcs++c2 }):(W.cell? ⟨q,1,none⟩=some m.fv/\W.frozen? ⟨q,1,none⟩=false)/\SSt D w0 q { x with jk:=x.jk++[y] } fo go bd m.nv ks (W.setCell ⟨q,1,none⟩ v'):=by
 have a:=((h.perm (perm4F _ _ _ _ _)).push (r':=⟨76,2,N x.jk+1,v',m.fcs++c2⟩) g d b c).perm (perm4F _ _ _ _ _).symm;refine⟨a.b0 1,{ m with fv:=v',fcs:=m.fcs++c2 },rfl,?_,f⟩;have j:=a.set 1 v';have e:(x.jk++[y]).length=N x.jk+1:=by simp
 simp only[Q5,e];exact j
theorem perm4G (a b c d:Qb)(ks:List Qb):(a::b::c::d::ks).Perm (d::a::b::c::ks):=by
 classical
 rw[Kn];intro z;simp[Th];omega
theorem SSt.pushG {y:Qx}(h:Mo D w0 (Q5 q x m fo go bd++ks) V)(g:Bw V.heap.size V V1)(b:W.ownsRow D 176 2 v' (N x.jx+1) (m.gcs++c2))(d:V1.grownBy W m.gv.ownBlock)(c:v'.ownBlock=m.gv.ownBlock\/v'.ownBlock=some V1.heap.size)(f:SpF D w0 { x with jx:=x.jx++[y] } { m with gv:=v',gcs:=m.gcs++c2 }):(W.cell? ⟨q,4,none⟩=some m.gv/\W.frozen? ⟨q,4,none⟩=false)/\SSt D w0 q { x with jx:=x.jx++[y] } fo go bd m.nv ks (W.setCell ⟨q,4,none⟩ v'):=by
 have a:=((h.perm (perm4G _ _ _ _ _)).push (r':=⟨176,2,N x.jx+1,v',m.gcs++c2⟩) g d b c).perm (perm4G _ _ _ _ _).symm;refine⟨a.b0 4,{ m with gv:=v',gcs:=m.gcs++c2 },rfl,?_,f⟩;have j:=a.set 4 v';have e:(x.jx++[y]).length=N x.jx+1:=by simp
 simp only[Q5,e];exact j
end
theorem isize_c (k:Nat)(o:k<4)(h:SSt D w0 q x fo go bd nv ks V):Ec Q 247 #[Yp (some ⟨q,0,none⟩),U O (k:Int)] V λe w'=>e=Z (U O (if k=0 then(N x.jk:Int)else if k=1 then(x.jv:Int)else if k=2 then(x.jz:Int)else (N x.jx:Int)))/\V=w':=by
 obtain⟨m,e,c,d⟩:=h;obtain⟨n,g,l,j,f⟩:=(SSt.spr (q:=q) (fo:=fo) (go:=go) (bd:=bd) (ks:=ks) d).cells c;obtain⟨u,t,b⟩:=Qg (c.row (r:=⟨76,2,N x.jk,m.fv,m.fcs⟩) (by simp));obtain⟨s,p,a⟩:=Qg (c.row (r:=⟨176,2,N x.jx,m.gv,m.gcs⟩) (by simp));dsimp only at b a;rw[b]at g;rw[a]at f;clear c d b a e;rcases(by omega:k=0\/k=1\/k=2\/k=3)with rfl|rfl|rfl|rfl
 all_goals
  go_enter func247,ntmps247
  go_wp2
  go_ret
  exact⟨rfl,rfl⟩
theorem inamed_c (i:Int)(h:SSt D w0 q x fo go bd nv ks V)(j:0<=i):Ec Q 251 #[Yp (some ⟨q,0,none⟩),U O i] V λe w'=>e=Z (if i<N x.jk then Nf else flt 2)/\V=w':=by
 obtain⟨m,e,c,f⟩:=h;obtain⟨u,d,t,s,p⟩:=(SSt.spr (q:=q) (fo:=fo) (go:=go) (bd:=bd) (ks:=ks) f).cells c;obtain⟨n,l,a⟩:=Qg (c.row (r:=⟨76,2,N x.jk,m.fv,m.fcs⟩) (by simp));dsimp only at a;rw[a]at d;have b:=Hm (ihasFunc_c q (N x.jk) l n i V d);rw[Xm j]at b;clear c f a e;by_cases k:i<N x.jk
 . rw[if_pos k];(have hd:decide (i<(N x.jk:Int))=true:=by simp[k]);rw[hd]at b;clear hd k;go_enter func251,ntmps251;(go_wp2_with (go_at_call 221;refine b.o.mono ?_;rintro e g ⟨rfl,rfl⟩));go_ret;exact⟨rfl,rfl⟩
 rw[if_neg k];have hd:decide (i<(N x.jk:Int))=false:=by simp;omega
 rw[hd]at b;clear hd k;go_enter func251,ntmps251;go_wp2_with (go_at_call 221;refine b.o.mono ?_;rintro e g ⟨rfl,rfl⟩)
 go_ret;exact⟨rfl,rfl⟩
theorem info76:(Q.info? 76).map (λi=>(i.zero,i.size,i.bytes))=some (some (Ag #[S none 0 0,S none 0 0]),2,48):=by kernel_rfl
theorem one2 {a b:Vu}(f:a.oneCell'=true)(d:b.oneCell'=true):∀u∈[a,b],u.oneCell'=true:=by
 intro u c;simp at c;rcases c with rfl|rfl
 . exact f
 exact d
def Xe (x:Ctx)(i:Int):R Ctx:=if i<N x.types then .ok { x with jk:=x.jk++[x.types.getD i.toNat Qc.z] }else .error 2
theorem ifunction_c (i:Int)(h:SSt D w0 q x fo go bd nv ks V)(h0:0<=i)(bf:N x.jk<=4194304):Ec Q 211 #[Yp (some ⟨q,0,none⟩),U O i] V (SsP D w0 q ks nv ((Xe x i).map λx'=>(x',fo,go,bd))):=by
 obtain⟨i0,hi,ai,ah,ag⟩:=info_parts info76;obtain⟨m,e,f,s⟩:=h;subst e;obtain⟨r0,r1,r2,r3,r4⟩:=(SSt.spr (q:=q) (fo:=fo) (go:=go) (bd:=bd) (ks:=ks) s).cells f;obtain⟨ta,tc,p,t⟩:=Qu f (e:=76) (sz:=2) (n:=N x.types) (v:=m.tv) (cs:=m.tcs) (by simp);obtain⟨E,C,d⟩:=Qg (f.row (r:=⟨76,2,N x.jk,m.fv,m.fcs⟩) (by simp));dsimp only at d;rw[p]at r0;rw[d]at r1;have M:=Hm (X4 ta (N x.types) tc i V);rw[Xm h0]at M;have L:=Hm (⟨f.b,f.le⟩:Bw D w0 V/\D<=V.heap.size);by_cases k:i<N x.types
 . obtain⟨j,rfl⟩:∃j:Nat,i=j:=⟨i.toNat,by omega⟩;(have hj:j<N x.types:=by omega);have bb:(j:Int)<(N x.types:Int):=k;(have B:Hid ((Xe x j).map (λx'=>(x',fo,go,bd))=.ok ({ x with jk:=x.jk++[x.types.getD j Qc.z] },fo,go,bd)):=by show(Xe x j).map _=_;rw[Xe,if_pos k];rfl);(have hd:decide ((j:Int)<(N x.types:Int))=true:=by simp[hj]);rw[hd]at M;obtain⟨gt,aq,u⟩:=t (by omega);subst aq;obtain⟨pv,rv,e1,e2,X,R⟩:=s.tt.get hj [];have d0:=u _ _ e1 (by omega);have d1:=u _ _ e2 (by omega);(obtain⟨pa,pc,ak⟩:∃a c,pv=S a (x.types.getD j Qc.z).ps.length c:=by obtain⟨a,c,e,_⟩:=(X.sub (ks':=Q5 q x m fo go bd++ks) (λr hr=>by cases hr)).has0 f;exact⟨a,c,e⟩);(obtain⟨ra,rc,aj⟩:∃a c,rv=S a (x.types.getD j Qc.z).rs.length c:=by obtain⟨a,c,e,_⟩:=(R.sub (ks':=Q5 q x m fo go bd++ks) (λr hr=>by cases hr)).has0 f;exact⟨a,c,e⟩);have A:Hid (∀v':Vu,SpF D w0 { x with jk:=x.jk++[x.types.getD j Qc.z] } { m with fv:=v',fcs:=m.fcs++[pv,rv] }):=λv'=>⟨s.tt,s.ft.snoc X R,s.gt⟩;subst ak aj;obtain⟨pn,H⟩:∃n,n=(x.types.getD j Qc.z).ps.length:=⟨_,rfl⟩;obtain⟨Y,F⟩:∃n,n=(x.types.getD j Qc.z).rs.length:=⟨_,rfl⟩;rw[<- H]at d0 A;rw[<- F]at d1 A;(have OW:Hid (V.ownsRow D 76 2 (S E (N x.jk) C) (N x.jk) m.fcs):=by have:=f.row (r:=⟨76,2,N x.jk,m.fv,m.fcs⟩) (by simp);rw[d]at this;exact this);have ao:=f.le;have HB:Hid (∀o,Bw V.heap.size V ((V.alloc o).drew)):=λo=>⟨rfl,rfl,rfl,by show V.heap.size<=(V.alloc o).heap.size;simp,λk hk=>QN V o k hk⟩
   (have HP:Hid (∀V1 W v',Bw V.heap.size V V1->W.ownsRow D 76 2 v' (N x.jk+1) (m.fcs++[S pa pn pc,S ra Y rc])->V1.grownBy W (Tv E (N x.jk) C).ownBlock->(v'.ownBlock=(Tv E (N x.jk) C).ownBlock\/v'.ownBlock=some V1.heap.size)->(W.cell? ⟨q,1,none⟩=some (S E (N x.jk) C)/\W.frozen? ⟨q,1,none⟩=false)/\SSt D w0 q { x with jk:=x.jk++[x.types.getD j Qc.z] } fo go bd m.nv ks (W.setCell ⟨q,1,none⟩ v')):=λV1 W v' hb ho hg hl=>by have:=SSt.pushF (y:=x.types.getD j Qc.z) f hb ho (by rw[d];exact hg) (by rw[d];exact hl) (A.o v');rw[d]at this;exact this);have kd:∀o,(V.alloc o).cell? ⟨q,1,none⟩=some (S E (N x.jk) C):=λo=>Qf r1;clear f s p t d u e1 e2 X R H F r2 r3 r4 hd k hj;go_enter func211,ntmps211;go_upto_region 3 with (go_at_call 222;refine M.o.mono ?_;rintro e w1 ⟨rfl,rfl⟩)
   go_region_law (first
    | (
     refine Qs rfl (.tmp 17) (.tmp 25) 38 rfl D 76 i0 (Ag #[S none 0 0,S none 0 0]) 2 48 underlying38 hi ai ah ag rfl (by decide) (S E (N x.jk) C) (N x.jk) m.fcs (by first|rfl|simp[Tc,Hw]) (World.ownsRow.alloc OW.o _) ⟨V.heap.size,0,none⟩ 1 1 [S pa pn pc,S ra Y rc] (by first|rfl|simp[Tc,Hw]) (by first|rfl|simp) (Jo V [S pa pn pc,S ra Y rc] 76) (one2 rfl rfl) (by unfold maxLen;omega) (by omega) (Kq ao (HB.o _).size) ?_
     intro v2 w5 g I l
     have HQ:=Hm (HP.o _ w5 v2 (HB.o _) g I l);have bj:=HQ.o.1.1;have bh:=HQ.o.1.2;obtain⟨a5,a4,rfl⟩:=Qg g;clear g I l))
   all_goals
    go_wp2_with fail
    go_ret
    exact .inr ⟨_,_,_,_,B.o,rfl,HQ.o.2⟩
 have B:Hid ((Xe x i).map (λx'=>(x',fo,go,bd))=.error 2):=by show(Xe x i).map _=_;rw[Xe,if_neg k];rfl
 have hd:decide (i<(N x.types:Int))=false:=by simp;omega
 rw[hd]at M;clear f s p t d r1 r2 r3 r4 hd k;go_enter func211,ntmps211;go_wp2_with (go_at_call 222;refine M.o.mono ?_;rintro e w1 ⟨rfl,rfl⟩)
 go_ret;exact .inl ⟨2,B.o,rfl,L.o.1,L.o.2⟩
def X6 (n:Nat)(l:Qd)(most:Int):R Nat:=if(l.has=true/\l.max<l.min)\/most<l.min\/most<l.max then .error 3 else if 0<n then .error 4 else .ok (n+1)
def OnP (V:J)(a:Ad)(r:R Nat)(e:Ending)(w':J):Prop:=(∃f,r=.error f/\e=Z (flt f)/\Bw V.heap.size V w')\/∃(n:Nat) (W:J),r=.ok n/\e=Z Nf/\Bw V.heap.size V W/\w'=W.setCell a (U O n)
theorem ione_c (q k n:Nat)(l:Qd)(a:Int)(V:J)(z:V.cell? ⟨q,k,none⟩=some (U O (n:Int)))(B:V.frozen? ⟨q,k,none⟩=false)(hn:n<=1):Ec Q 248 #[Yp (some ⟨q,k,none⟩),Ag #[U O l.min,U O l.max,G l.has],U O a] V (OnP V ⟨q,k,none⟩ (X6 n l a)):=by
 obtain⟨f,d,m⟩:=l;obtain⟨M,A⟩:∃M,M=X6 n ⟨f,d,m⟩ a:=⟨_,rfl⟩;rw[<- A];have y:=Hm A;obtain⟨W,u⟩:∃W,W=V.alloc (Fc #[U O f,U O d,G m] 175):=⟨_,rfl⟩;have v:Bw V.heap.size V W:=by rw[u];exact bFz.alloc lRz _
 have kk:Bk W V.heap.size [U O f,U O d,G m]:=by rw[u];exact Bk.new
 have L:=kk.2.1 0 _ rfl;have I:=kk.2.1 1 _ rfl;have H:=kk.2.1 2 _ rfl;have t:=Kk V _ z;have X:W.cell? ⟨q,k,none⟩=some (U O (n:Int)):=(v.cell (p:=⟨q,k,none⟩) t).trans z;have R:W.frozen? ⟨q,k,none⟩=false:=(v.frozen (p:=⟨q,k,none⟩) t).trans B;have c:=Hm v;clear A z B kk v;go_enter func248,ntmps248;go_upto_region 1 with fail
 rw[<- u];clear u;by_cases g:(m=true/\d<f)\/a<f\/a<d
 . (have b:Hid (M=.error 3):=by show M=_;rw[y.o,X6,if_pos g]);clear y;cases m
   . (have c2:a<f\/a<d:=by simpa using g);clear g;by_cases D:a<f
     . go_wp2;go_ret;exact .inl ⟨3,b.o,rfl,c.o⟩
     (have C:a<d:=by omega);go_wp2;go_ret;exact .inl ⟨3,b.o,rfl,c.o⟩
   by_cases F:d<f
   . clear g;go_wp2;go_ret;exact .inl ⟨3,b.o,rfl,c.o⟩
   (have c2:a<f\/a<d:=by simpa[F]using g);clear g;by_cases D:a<f
   . go_wp2;go_ret;exact .inl ⟨3,b.o,rfl,c.o⟩
   (have C:a<d:=by omega);go_wp2;go_ret;exact .inl ⟨3,b.o,rfl,c.o⟩
 have D:¬a<f:=λh=>g (.inr (.inl h));have C:¬a<d:=λh=>g (.inr (.inr h));have j:M=if 0<n then .error 4 else .ok (n+1):=by rw[y.o,X6,if_neg g]
 have r:m=true->¬d<f:=λh h2=>g (.inl ⟨h,h2⟩);clear g y;by_cases s:0<n
 . (have b:Hid (M=.error 4):=by show M=_;rw[j,if_pos s]);clear j;cases m
   . clear r;go_wp2;go_ret;exact .inl ⟨4,b.o,rfl,c.o⟩
   have E:=r rfl;clear r;go_wp2;go_ret;exact .inl ⟨4,b.o,rfl,c.o⟩
 obtain rfl:n=0:=by omega
 have b:Hid (M=.ok 1):=by show M=_;rw[j];rfl
 clear j s hn;cases m
 . clear r;go_wp2;go_ret;exact .inr ⟨1,W,b.o,rfl,c.o,rfl⟩
 have E:=r rfl;clear r;go_wp2;go_ret;exact .inr ⟨1,W,b.o,rfl,c.o,rfl⟩
theorem on_val {a:Ad}{r:R Nat}{e:Ending}(h:OnP V a r e w'):∃rv,e=Z rv/\((∃f,r=.error f/\rv=flt f/\Bw V.heap.size V w')\/∃(n:Nat) (W:J),r=.ok n/\rv=Nf/\Bw V.heap.size V W/\w'=W.setCell a (U O n)):=by
 rcases h with ⟨f,x,y,z⟩|⟨n,W,x,y,z,t⟩
 . exact⟨_,y,.inl ⟨f,x,rfl,z⟩⟩
 exact⟨_,y,.inr ⟨n,W,x,rfl,z,t⟩⟩
theorem itable_c (l:Qd)(h:SSt D w0 q x fo go bd nv ks V)(hn:x.jv<=1):Ec Q 212 #[Yp (some ⟨q,0,none⟩),Ag #[U O l.min,U O l.max,G l.has]] V (SsP D w0 q ks nv ((X6 x.jv l 4294967295).map λn=>({ x with jv:=n },fo,go,bd))):=by
 obtain⟨W,d⟩:∃W,W=V.alloc (Fc #[U O l.min,U O l.max,G l.has] 175):=⟨_,rfl⟩;have u:Bw V.heap.size V W:=by rw[d];exact bFz.alloc lRz _
 have kk:Bk W V.heap.size [U O l.min,U O l.max,G l.has]:=by rw[d];exact Bk.new
 have H:=kk.2.1 0 _ rfl;have F:=kk.2.1 1 _ rfl;have E:=kk.2.1 2 _ rfl;have k:=h.keep u;have c:W.cell? ⟨q,2,none⟩=some (U O (x.jv:Int))/\W.frozen? ⟨q,2,none⟩=false:=by obtain⟨m,e,y,C⟩:=k;exact y.b0 2
 have p:=Hm (ione_c q 2 x.jv l 4294967295 W.drew c.1 c.2 hn);have HI:=Hm k;have r:Hid (∀(n:Nat) (W':J),SSt D w0 q x fo go bd nv ks W'->SSt D w0 q { x with jv:=n } fo go bd nv ks (W'.setCell ⟨q,2,none⟩ (U O n))):=λn W' hs=>hs.num 2 (U O n) rfl rfl rfl (λm=>rfl);clear h k kk u c;go_enter func212,ntmps212;go_upto_region 1 with fail
 rw[<- d];clear d
 go_region_law (
  go_simp
  go_at_call 248
  refine p.o.mono ?_
  intro e A t
  obtain⟨B,rfl,s⟩:=on_val t;have z:=Hm s;clear t s)
 all_goals
  go_wp2
  go_ret
  rcases z.o with ⟨f,j,g,a⟩|⟨n,I,j,g,a,v⟩
  . exact .inl ⟨_,by rw[j];rfl,by rw[g];rfl,(HI.o.keep ⟨a.os,a.tape,a.output,a.size,a.block⟩).mo.b,(HI.o.keep ⟨a.os,a.tape,a.output,a.size,a.block⟩).mo.le⟩
  . exact .inr ⟨_,_,_,_,by rw[j];rfl,by rw[g];rfl,by rw[v];exact r.o _ _ (HI.o.keep ⟨a.os,a.tape,a.output,a.size,a.block⟩)⟩
theorem imemory_c (l:Qd)(h:SSt D w0 q x fo go bd nv ks V)(hn:x.jz<=1):Ec Q 213 #[Yp (some ⟨q,0,none⟩),Ag #[U O l.min,U O l.max,G l.has]] V (SsP D w0 q ks nv ((X6 x.jz l 65536).map λn=>({ x with jz:=n },fo,go,bd))):=by
 obtain⟨W,d⟩:∃W,W=V.alloc (Fc #[U O l.min,U O l.max,G l.has] 175):=⟨_,rfl⟩;have u:Bw V.heap.size V W:=by rw[d];exact bFz.alloc lRz _
 have kk:Bk W V.heap.size [U O l.min,U O l.max,G l.has]:=by rw[d];exact Bk.new
 have H:=kk.2.1 0 _ rfl;have F:=kk.2.1 1 _ rfl;have E:=kk.2.1 2 _ rfl;have k:=h.keep u;have c:W.cell? ⟨q,3,none⟩=some (U O (x.jz:Int))/\W.frozen? ⟨q,3,none⟩=false:=by obtain⟨m,e,y,C⟩:=k;exact y.b0 3
 have p:=Hm (ione_c q 3 x.jz l 65536 W.drew c.1 c.2 hn);have HI:=Hm k;have r:Hid (∀(n:Nat) (W':J),SSt D w0 q x fo go bd nv ks W'->SSt D w0 q { x with jz:=n } fo go bd nv ks (W'.setCell ⟨q,3,none⟩ (U O n))):=λn W' hs=>hs.num 3 (U O n) rfl rfl rfl (λm=>rfl);clear h k kk u c;go_enter func213,ntmps213;go_upto_region 1 with fail
 rw[<- d];clear d
 go_region_law (
  go_simp
  go_at_call 248
  refine p.o.mono ?_
  intro e A t
  obtain⟨B,rfl,s⟩:=on_val t;have z:=Hm s;clear t s)
 all_goals
  go_wp2
  go_ret
  rcases z.o with ⟨f,j,g,a⟩|⟨n,I,j,g,a,v⟩
  . exact .inl ⟨_,by rw[j];rfl,by rw[g];rfl,(HI.o.keep ⟨a.os,a.tape,a.output,a.size,a.block⟩).mo.b,(HI.o.keep ⟨a.os,a.tape,a.output,a.size,a.block⟩).mo.le⟩
  . exact .inr ⟨_,_,_,_,by rw[j];rfl,by rw[g];rfl,by rw[v];exact r.o _ _ (HI.o.keep ⟨a.os,a.tape,a.output,a.size,a.block⟩)⟩
theorem info176:(Q.info? 176).map (λi=>(i.zero,i.size,i.bytes))=some (some (Ag #[U O 0,G false]),2,16):=by kernel_rfl
theorem SsP.val {r:R (Ctx × Int × Int × Int)}{e:Ending}(h:SsP D w0 q ks nv r e w'):∃rv,e=Z rv/\((∃f,r=.error f/\rv=flt f/\Bw D w0 w'/\D<=w'.heap.size)\/∃x fo go bd,r=.ok (x,fo,go,bd)/\rv=Nf/\SSt D w0 q x fo go bd nv ks w'):=by
 rcases h with ⟨f,a,b,c⟩|⟨x,fo,go,bd,a,b,c⟩
 . exact⟨_,b,.inl ⟨f,a,rfl,c⟩⟩
 exact⟨_,b,.inr ⟨x,fo,go,bd,a,rfl,c⟩⟩
theorem ifunction_err (i:Int)(h:SSt D w0 q x fo go bd nv ks V)(t:0<=i)(k:¬i<N x.types):Ec Q 211 #[Yp (some ⟨q,0,none⟩),U O i] V λe w'=>e=Z (flt 2)/\V=w':=by
 obtain⟨m,e,b,d⟩:=h;obtain⟨s,r,p,l,j⟩:=(SSt.spr (q:=q) (fo:=fo) (go:=go) (bd:=bd) (ks:=ks) d).cells b;obtain⟨g,f,a,_⟩:=Qu b (e:=76) (sz:=2) (n:=N x.types) (v:=m.tv) (cs:=m.tcs) (by simp);rw[a]at s;have c:=Hm (X4 g (N x.types) f i V);rw[Xm t]at c;have hd:decide (i<(N x.types:Int))=false:=by simp;omega
 rw[hd]at c;clear b d a r p l j hd k e;go_enter func211,ntmps211;go_wp2_with (go_at_call 222;refine c.o.mono ?_;rintro e u ⟨rfl,rfl⟩)
 go_ret;exact⟨rfl,rfl⟩
def impM (x:Ctx)(fo go bd:Int)(y:Imp):R (Ctx × Int × Int × Int) :=
 if y.kind=0 then(Xe x y.ty).map λx'=>(x',(N x'.jk:Int),go,bd)else
 if y.kind=1 then(X6 x.jv y.lim 4294967295).map λn=>({ x with jv:=n },fo,go,bd)else
 if y.kind=2 then(X6 x.jz y.lim 65536).map λn=>({ x with jz:=n },fo,go,bd)else
 .ok ({ x with jx:=x.jx++[y.gl] },fo,((N x.jx+1:Nat):Int),bd)
theorem iimp_0 (mod r:ByteArray)(ty:Int)(a:Qd)(gl:Qx)(h:SSt D w0 q x fo go bd nv ks V)(y:0<=ty)(s:N x.jk<=4194304):Ec Q 210 #[Yp (some ⟨q,0,none⟩),Ag #[Xs mod,Xs r,U O 0,U O ty,U O a.min,U O a.max,G a.has,U O gl.ty,G gl.mu]] V (SsP D w0 q ks nv ((Xe x ty).map λx'=>(x',(N x'.jk:Int),go,bd))):=by
 obtain⟨W,l⟩:∃W,W=V.alloc (Fc #[Xs mod,Xs r,U O 0,U O ty,U O a.min,U O a.max,G a.has,U O gl.ty,G gl.mu] 178):=⟨_,rfl⟩;have t:Bw V.heap.size V W:=by rw[l];exact bFz.alloc lRz _
 have kk:Bk W V.heap.size [Xs mod,Xs r,U O 0,U O ty,U O a.min,U O a.max,G a.has,U O gl.ty,G gl.mu]:=by rw[l];exact Bk.new
 have H:=kk.2.1 2 _ rfl;have F:=kk.2.1 3 _ rfl;have n:=h.keep t;have j:Hid (∀{x1:Ctx} {W':J},SSt D w0 q x1 fo go bd nv ks W'->(W'.cell? ⟨q,5,none⟩=some (U O fo)/\W'.frozen? ⟨q,5,none⟩=false)/\SSt D w0 q x1 (N x1.jk:Int) go bd nv ks (W'.setCell ⟨q,5,none⟩ (U O (N x1.jk:Int)))):=fun {x1 W'} hs=>⟨by
     obtain⟨m,e,C,E⟩:=hs
     exact C.b0 5,hs.num 5 _ rfl rfl rfl (fun m=>rfl)⟩
 by_cases k:ty<N x.types
 . have p:=Hm (ifunction_c ty n y s);(have c:Xe x ty=.ok { x with jk:=x.jk++[x.types.getD ty.toNat Qc.z] }:=by rw[Xe,if_pos k]);rw[c]at p⊢;clear h n kk t;go_enter func210,ntmps210;(go_upto_region 1 with fail);rw[<- l];clear l;(go_wp2_with fail);refine p.o.mono ?_;rintro e w1 (⟨f,hr,rfl,hb⟩|⟨x1,fo1,go1,bd1,hr,rfl,hI1⟩)
   . cases hr
   cases hr;have u:=Hm (isize_c 0 (by omega) hI1);obtain⟨⟨B,A⟩,d⟩:=j.o hI1;have g:=Hm d;clear hI1 d c k;(go_wp2_with (go_at_call 247;refine u.o.mono ?_;rintro e v ⟨rfl,rfl⟩));go_ret;exact .inr ⟨_,_,_,_,rfl,rfl,by simpa using g.o⟩
 have p:=Hm (ifunction_err ty n y k);have c:Xe x ty=.error 2:=by rw[Xe,if_neg k]
 rw[c];have u:=Hm (isize_c 0 (by omega) n);obtain⟨⟨B,A⟩,d⟩:=j.o n;have g:=Hm d;clear d c k;clear h n kk t;go_enter func210,ntmps210;go_upto_region 1 with fail
 rw[<- l];clear l;go_wp2_with (first|(go_at_call 211;refine p.o.mono ?_;rintro e v ⟨rfl,rfl⟩)|(go_at_call 247;refine u.o.mono ?_;rintro e v ⟨rfl,rfl⟩))
 go_ret;exact .inl ⟨2,rfl,rfl,g.o.mo.b,g.o.mo.le⟩
theorem iimp_1 (mod c:ByteArray)(ty:Int)(a:Qd)(gl:Qx)(h:SSt D w0 q x fo go bd nv ks V)(hn:x.jv<=1):Ec Q 210 #[Yp (some ⟨q,0,none⟩),Ag #[Xs mod,Xs c,U O 1,U O ty,U O a.min,U O a.max,G a.has,U O gl.ty,G gl.mu]] V (SsP D w0 q ks nv ((X6 x.jv a 4294967295).map λn=>({ x with jv:=n },fo,go,bd))):=by
 obtain⟨W,b⟩:∃W,W=V.alloc (Fc #[Xs mod,Xs c,U O 1,U O ty,U O a.min,U O a.max,G a.has,U O gl.ty,G gl.mu] 178):=⟨_,rfl⟩;have s:Bw V.heap.size V W:=by rw[b];exact bFz.alloc lRz _
 have kk:Bk W V.heap.size [Xs mod,Xs c,U O 1,U O ty,U O a.min,U O a.max,G a.has,U O gl.ty,G gl.mu]:=by rw[b];exact Bk.new
 have F:=kk.2.1 2 _ rfl;have E:=kk.2.1 4 _ rfl;have C:=kk.2.1 5 _ rfl;have B:=kk.2.1 6 _ rfl;have r:=h.keep s;have y:=Hm (itable_c a r hn);clear h r kk s;go_enter func210,ntmps210;go_upto_region 1 with fail
 rw[<- b];clear b;go_wp2_with fail
 refine y.o.mono ?_;intro e z p;obtain⟨A,rfl,m⟩:=p.val;have v:=Hm m;clear p m;go_wp2;go_ret;rcases v.o with ⟨f,d,rfl,u⟩|⟨t,k,j,l,d,rfl,g⟩
 . exact .inl ⟨f,d,rfl,u⟩
 exact .inr ⟨t,k,j,l,d,rfl,g⟩
theorem iimp_2 (mod c:ByteArray)(ty:Int)(a:Qd)(gl:Qx)(h:SSt D w0 q x fo go bd nv ks V)(hn:x.jz<=1):Ec Q 210 #[Yp (some ⟨q,0,none⟩),Ag #[Xs mod,Xs c,U O 2,U O ty,U O a.min,U O a.max,G a.has,U O gl.ty,G gl.mu]] V (SsP D w0 q ks nv ((X6 x.jz a 65536).map λn=>({ x with jz:=n },fo,go,bd))):=by
 obtain⟨W,b⟩:∃W,W=V.alloc (Fc #[Xs mod,Xs c,U O 2,U O ty,U O a.min,U O a.max,G a.has,U O gl.ty,G gl.mu] 178):=⟨_,rfl⟩;have s:Bw V.heap.size V W:=by rw[b];exact bFz.alloc lRz _
 have kk:Bk W V.heap.size [Xs mod,Xs c,U O 2,U O ty,U O a.min,U O a.max,G a.has,U O gl.ty,G gl.mu]:=by rw[b];exact Bk.new
 have F:=kk.2.1 2 _ rfl;have E:=kk.2.1 4 _ rfl;have C:=kk.2.1 5 _ rfl;have B:=kk.2.1 6 _ rfl;have r:=h.keep s;have y:=Hm (imemory_c a r hn);clear h r kk s;go_enter func210,ntmps210;go_upto_region 1 with fail
 rw[<- b];clear b;go_wp2_with fail
 refine y.o.mono ?_;intro e z p;obtain⟨A,rfl,m⟩:=p.val;have v:=Hm m;clear p m;go_wp2;go_ret;rcases v.o with ⟨f,d,rfl,u⟩|⟨t,k,j,l,d,rfl,g⟩
 . exact .inl ⟨f,d,rfl,u⟩
 exact .inr ⟨t,k,j,l,d,rfl,g⟩
theorem iimp_3 (mod E:ByteArray)(ty:Int)(a:Qd)(gl:Qx)(h:SSt D w0 q x fo go bd nv ks V)(aj:N x.jx<=4194304):Ec Q 210 #[Yp (some ⟨q,0,none⟩),Ag #[Xs mod,Xs E,U O 3,U O ty,U O a.min,U O a.max,G a.has,U O gl.ty,G gl.mu]] V (SsP D w0 q ks nv (.ok ({ x with jx:=x.jx++[gl] },fo,((N x.jx+1:Nat):Int),bd))):=by
 obtain⟨W,z⟩:∃W,W=V.alloc (Fc #[Xs mod,Xs E,U O 3,U O ty,U O a.min,U O a.max,G a.has,U O gl.ty,G gl.mu] 178):=⟨_,rfl⟩;have ba:Bw V.heap.size V W:=by rw[z];exact bFz.alloc lRz _
 have kk:Bk W V.heap.size [Xs mod,Xs E,U O 3,U O ty,U O a.min,U O a.max,G a.has,U O gl.ty,G gl.mu]:=by rw[z];exact Bk.new
 have e2:=kk.2.1 2 _ rfl;have e7:=kk.2.1 7 _ rfl;have e8:=kk.2.1 8 _ rfl;have Y:=h.keep ba;have HI:=Hm Y;obtain⟨i0,hi,I,H,F⟩:=info_parts info176;have v:Hid (∀{x1:Ctx} {W':J},SSt D w0 q x1 fo go bd nv ks W'->(W'.cell? ⟨q,6,none⟩=some (U O go)/\W'.frozen? ⟨q,6,none⟩=false)/\SSt D w0 q x1 fo (N x1.jx:Int) bd nv ks (W'.setCell ⟨q,6,none⟩ (U O (N x1.jx:Int)))):=fun {x1 W'} hs=>⟨by
     obtain⟨m,e,l,n⟩:=hs
     exact l.b0 6,hs.num 6 _ rfl rfl rfl (fun m=>rfl)⟩
 obtain⟨f,g⟩:=gl;dsimp only at e7 e8;obtain⟨m,e,l,n⟩:=Y;subst e;obtain⟨r0,r1,r2,r3,X⟩:=(SSt.spr (q:=q) (fo:=fo) (go:=go) (bd:=bd) (ks:=ks) n).cells l;have b:W.ownsRow D 176 2 m.gv (N x.jx) m.gcs:=l.row (r:=⟨176,2,N x.jx,m.gv,m.gcs⟩) (by simp);obtain⟨u,t,d⟩:=Qg b;rw[d]at X b;have OW:=Hm b;have L:=l.le;have HB:Hid (∀o,Bw W.heap.size W ((W.alloc o).drew)):=λo=>⟨rfl,rfl,rfl,by show W.heap.size<=(W.alloc o).heap.size;simp,λk hk=>QN W o k hk⟩;have HP:Hid (∀V1 W' v',Bw W.heap.size W V1->W'.ownsRow D 176 2 v' (N x.jx+1) (m.gcs++[U O f,G g])->V1.grownBy W' (Tv u (N x.jx) t).ownBlock->(v'.ownBlock=(Tv u (N x.jx) t).ownBlock\/v'.ownBlock=some V1.heap.size)->(W'.cell? ⟨q,4,none⟩=some (S u (N x.jx) t)/\W'.frozen? ⟨q,4,none⟩=false)/\SSt D w0 q { x with jx:=x.jx++[⟨f,g⟩] } fo go bd m.nv ks (W'.setCell ⟨q,4,none⟩ v')):=λV1 W' v' hb ho hg hl=>by have:=SSt.pushG (y:=⟨f,g⟩) l hb ho (by rw[d];exact hg) (by rw[d];exact hl) ⟨n.tt,n.ft,by rw[gCs_snoc,<- n.gt]⟩;rw[d]at this;exact this
 have kd:∀o,(W.alloc o).cell? ⟨q,4,none⟩=some (S u (N x.jx) t):=λo=>Qf X;clear l n d b r0 r1 r2 r3;clear h kk ba;go_enter func210,ntmps210;go_upto_region 1 with fail
 rw[<- z];clear z;go_upto_region 11 with fail
 go_region_law (first
  | (
   refine Qs rfl (.tmp 37) (.tmp 40) 78 rfl D 176 i0 (Ag #[U O 0,G false]) 2 16 underlying78 hi I H F rfl (by decide) (S u (N x.jx) t) (N x.jx) m.gcs (by first|rfl|simp[Tc,Hw]) (World.ownsRow.alloc OW.o _) ⟨W.heap.size,0,none⟩ 1 1 [U O f,G g] (by first|rfl|simp[Tc,Hw]) (by first|rfl|simp) (Jo W [U O f,G g] 176) (one2 rfl rfl) (by unfold maxLen;omega) (by omega) (Kq L (HB.o _).size) ?_
   intro v2 R c s j
   have A:=Hm (HP.o _ R v2 (HB.o _) c s j);have aq:=A.o.1.1;have ap:=A.o.1.2;obtain⟨C,B,rfl⟩:=Qg c;clear c s j))
 all_goals
  have HS:=Hm (isize_c 3 (by omega) A.o.2);obtain⟨⟨u0,u1⟩,p⟩:=v.o A.o.2;have M:=Hm p;clear p
  go_upto_region 12 with fail
  generalize R.setCell ⟨q,4,none⟩ (S C (N x.jx+1) B)=W9 at *
  go_wp2_with (go_at_call 247;refine HS.o.mono ?_;rintro e w2 ⟨rfl,rfl⟩)
  go_ret
  exact .inr ⟨_,_,_,_,rfl,rfl,by simpa using M.o⟩
abbrev Er:=Int × Option Nat
def erV:Er->Vu
 |(f,none)=>flt f
 |(f,some k)=>atIns k (flt f)
def SeP (D:Nat)(w0:J)(q:Nat)(ks:List Qb)(nv:Vu)(r:Except Er (Ctx × Int × Int × Int))(e:Ending)(w':J):Prop:=(∃er,r=.error er/\e=Z (erV er)/\Bw D w0 w'/\D<=w'.heap.size)\/∃x fo go bd,r=.ok (x,fo,go,bd)/\e=Z Nf/\SSt D w0 q x fo go bd nv ks w'
def lift (r:R (Ctx × Int × Int × Int)):Except Er (Ctx × Int × Int × Int):=match r with|.error f=>.error (f,none)|.ok x=>.ok x
theorem SsP.se {r:R (Ctx × Int × Int × Int)}{e:Ending}(h:SsP D w0 q ks nv r e w'):SeP D w0 q ks nv (lift r) e w':=by
 rcases h with ⟨f,a,b,c⟩|⟨x,fo,go,bd,a,b,c⟩
 . exact .inl ⟨(f,none),by rw[a];rfl,b,c⟩
 exact .inr ⟨x,fo,go,bd,by rw[a];rfl,b,c⟩
def globM (x:Ctx)(fo go bd:Int)(y:Qm):Except Er (Ctx × Int × Int × Int):=match QU x go y.ty.ty [] 0 y.ini with
 |.error (f,k)=>.error (f,some k)
 |.ok _=>.ok ({ x with jx:=x.jx++[y.ty] },fo,go,bd)
theorem iglobal_c (d:Int)(j:Bool)(a:Option Ad)(c:Nat)(xs:List In)(h:SSt D w0 q x fo go bd nv ks V)(ad:go<=N x.jx)(hL:InL D w0 a xs)(hI:∀y∈xs,InB y)(ab:N xs<=1048576)(a1:N x.jx<=4194304):Ec Q 214 #[Yp (some ⟨q,0,none⟩),Ag #[U O d,G j,S a (N xs) c]] V (SeP D w0 q ks nv (globM x fo go bd ⟨⟨d,j⟩,xs⟩)):=by
 obtain⟨i0,hi,aa,Y,X⟩:=info_parts info176;obtain⟨m,e,v,hf⟩:=h;subst e;have E:=(v.box (cur:=#[U O d,G j,S a (N xs) c]) 180 3 rfl);obtain⟨R,t⟩:∃B,B=V.heap.size:=⟨_,rfl⟩;have s:=E.box (cur:=#[Yp (some ⟨q,0,none⟩),U O d,S none 0 0]) 342 3 rfl;obtain⟨W,hW⟩:∃W,W=(V.alloc (Fc #[U O d,G j,S a (N xs) c] 180)).alloc (Fc #[Yp (some ⟨q,0,none⟩),U O d,S none 0 0] 342):=⟨_,rfl⟩;have C:(V.alloc (Fc #[U O d,G j,S a (N xs) c] 180)).heap.size=R+1:=by rw[t];simp
 rw[<- hW,C,<- t]at s;have hC:CSt D w0 (R+1) (Yp (some ⟨q,0,none⟩)) d (box 180 3 R [U O d,G j,S a (N xs) c]::(Q5 q x m fo go bd++ks)) [] W:=by refine⟨S none 0 0,?_⟩;exact(s.new (ns:=[⟨2,1,0,S none 0 0,[]⟩]) bFz (Own.one (Tq W _ 2 1))).perm (Kf _ _ _)
 have u:SpR D w0 q x fo go bd m (box 180 3 R [U O d,G j,S a (N xs) c]::(Q5 q x m fo go bd++ks)):=(SSt.spr (q:=q) (fo:=fo) (go:=go) (bd:=bd) (ks:=ks) hf).sub (λr hr=>mC hr);have HL:=Hm (ilistC_c a c xs hC u ad hL hI ab);have e2:=(s.tail.b0 2).1;have L:=Hm hf;clear v E s hC u hL hI hf;go_enter func214,ntmps214;go_upto_region 2 with fail
 rw[<- hW,<- t];clear hW t C;go_wp2_with fail
 refine HL.o.mono ?_;rintro e w1 (⟨f,k,hr,rfl,hb⟩|⟨g,hr,rfl,hmo⟩)
 . (have A:Hid (globM x fo go bd ⟨⟨d,j⟩,xs⟩=.error (f,some k)):=by show globM _ _ _ _ _=_;simp only[globM,hr]);have M:=Hm (⟨hb.b,hb.le⟩:Bw D w0 w1/\D<=w1.heap.size);clear hr hb HL;go_wp2;go_ret;exact .inl ⟨(f,some k),A.o,rfl,M.o⟩
 have A:Hid (globM x fo go bd ⟨⟨d,j⟩,xs⟩=.ok ({ x with jx:=x.jx++[⟨d,j⟩] },fo,go,bd)):=by show globM _ _ _ _ _=_;simp only[globM,hr]
 have d0:=(hmo.b0 0).1;have d1:=(hmo.b0 1).1;have v:=hmo.tail;obtain⟨r0,r1,r2,r3,r4⟩:=(SSt.spr (q:=q) (fo:=fo) (go:=go) (bd:=bd) (ks:=ks) L.o).cells v;have l:w1.ownsRow D 176 2 m.gv (N x.jx) m.gcs:=v.row (r:=⟨176,2,N x.jx,m.gv,m.gcs⟩) (by simp);obtain⟨I,H,p⟩:=Qg l;rw[p]at r4 l;have OW:=Hm l;have ac:=v.le;have M:Hid (∀o,Bw w1.heap.size w1 ((w1.alloc o).drew)):=λo=>⟨rfl,rfl,rfl,by show w1.heap.size<=(w1.alloc o).heap.size;simp,λk hk=>QN w1 o k hk⟩;have HP:Hid (∀V1 W' v',Bw w1.heap.size w1 V1->W'.ownsRow D 176 2 v' (N x.jx+1) (m.gcs++[U O d,G j])->V1.grownBy W' (Tv I (N x.jx) H).ownBlock->(v'.ownBlock=(Tv I (N x.jx) H).ownBlock\/v'.ownBlock=some V1.heap.size)->(W'.cell? ⟨q,4,none⟩=some (S I (N x.jx) H)/\W'.frozen? ⟨q,4,none⟩=false)/\SSt D w0 q { x with jx:=x.jx++[⟨d,j⟩] } fo go bd m.nv ks (W'.setCell ⟨q,4,none⟩ v')):=λV1 W' v' hb ho hg hl=>by have:=SSt.pushG (y:=⟨d,j⟩) v hb ho (by rw[p];exact hg) (by rw[p];exact hl) ⟨L.o.tt,L.o.ft,by rw[gCs_snoc,<- L.o.gt]⟩;rw[p]at this;exact this
 have kd:∀o,(w1.alloc o).cell? ⟨q,4,none⟩=some (S I (N x.jx) H):=λo=>Qf r4;clear hr hmo v p l r0 r1 r2 r3 HL e2;go_upto_region 5 with fail
 go_region_law (first
  | (
   refine Qs rfl (.tmp 23) (.tmp 26) 78 rfl D 176 i0 (Ag #[U O 0,G false]) 2 16 underlying78 hi aa Y X rfl (by decide) (S I (N x.jx) H) (N x.jx) m.gcs (by first|rfl|simp[Tc,Hw]) (World.ownsRow.alloc OW.o _) ⟨w1.heap.size,0,none⟩ 1 1 [U O d,G j] (by first|rfl|simp[Tc,Hw]) (by first|rfl|simp) (Jo w1 [U O d,G j] 176) (one2 rfl rfl) (by unfold maxLen;omega) (by omega) (Kq ac (M.o _).size) ?_
   intro v2 w5 n F z
   have HQ:=Hm (HP.o _ w5 v2 (M.o _) n F z);have a4:=HQ.o.1.1;have a3:=HQ.o.1.2;obtain⟨ar,aq,rfl⟩:=Qg n;clear n F z))
 all_goals
  go_wp2_with fail
  go_ret
  exact .inr ⟨_,_,_,_,A.o,rfl,HQ.o.2⟩
theorem iownFunc_c {D w0}{rs V}(i:Nat)(p:Mo D w0 rs V)(s:SpR D w0 q x fo go bd m rs)(a:Nat)(ae:fo=a)(hj:a+i<N x.jk)(a2:N x.jk<=4194304):Ec Q 44 #[Yp (some ⟨q,0,none⟩),U O (i:Int)] V λe w'=>∃g f d c,e=Z (Ag #[S g (x.jk.getD (a+i) Qc.z).ps.length f,S d (x.jk.getD (a+i) Qc.z).rs.length c])/\Ty D w0 [] (S g (x.jk.getD (a+i) Qc.z).ps.length f) (x.jk.getD (a+i) Qc.z).ps/\Ty D w0 [] (S d (x.jk.getD (a+i) Qc.z).rs.length c) (x.jk.getD (a+i) Qc.z).rs/\Bw V.heap.size V w':=by
 subst ae;obtain⟨r0,r1,r2,r3,r4⟩:=s.cells p;have r5:V.cell? ⟨q,5,none⟩=some (U O (a:Int)):=(p.bx s.bx 5).1;obtain⟨fa,fc,B,C⟩:=Qu p s.fr;rw[B]at r1;obtain⟨gt,ad,l⟩:=C (by omega);subst ad;obtain⟨j,A⟩:∃j,j=a+i:=⟨_,rfl⟩;rw[<- A]at hj⊢;have a1:(j:Int)<(N x.jk:Int):=by omega
 obtain⟨pv,rv,e1,e2,Y,X⟩:=s.ft.get hj [];have d0:=l _ _ e1 (by omega);have d1:=l _ _ e2 (by omega);obtain⟨g,f,ac,_⟩:=(Y.sub (ks':=rs) (λr hr=>by cases hr)).has0 p;obtain⟨d,c,ab,_⟩:=(X.sub (ks':=rs) (λr hr=>by cases hr)).has0 p;subst ac ab;have I:=Hm Y;have H:=Hm X;generalize x.jk.getD j Qc.z=ft at *;obtain⟨M,y⟩:∃n,n=N ft.ps:=⟨_,rfl⟩;obtain⟨L,u⟩:∃n,n=N ft.rs:=⟨_,rfl⟩;rw[<- y]at d0 I⊢;rw[<- u]at d1 H⊢;obtain⟨W,b⟩:∃W,W=V.alloc (Fc #[S none 0 0,S none 0 0] 76):=⟨_,rfl⟩;have k:Bk W V.heap.size [S none 0 0,S none 0 0]:=by have:=Bk.new (w:=V) (cs:=[S none 0 0,S none 0 0]) (t:=76);rw[b];simpa using this
 have F:Bw V.heap.size V W:=by rw[b];exact bFz.alloc lRz _
 have ax:W.cell? ⟨q,1,none⟩=some (S (some ⟨gt,0,none⟩) (N x.jk) fc):=by rw[b];exact Qf r1
 have ar:W.cell? ⟨q,5,none⟩=some (U O (a:Int)):=by rw[b];exact Qf r5
 have a6:W.cell? ⟨gt,j*2,none⟩=some (S g M f):=by rw[b];exact Qf d0
 have a5:W.cell? ⟨gt,j*2+1,none⟩=some (S d L c):=by rw[b];exact Qf d1
 have y0:=k.2.1 0 _ rfl;have y1:=k.2.1 1 _ rfl;have z0:=k.2.2 0;have z1:=k.2.2 1;have HK:=Hm k;have HB:=Hm F;have a0:IntKind.i64.wrap ((a:Int)+(i:Int))=(j:Int):=by rw[Kz];omega
 have az:wrap64 ((a:Int)+(i:Int))=(j:Int):=by unfold wrap64;omega
 clear A;clear p s C l e1 e2 Y X y u B k F r0 r1 r2 r3 r4 r5 d0 d1;go_enter func44,ntmps44;go_upto_region 1 with fail
 rw[<- b];clear b;go_region
 all_goals
  go_wp2
  refine QC (λR=>(R.cell? ⟨V.heap.size,0,none⟩=some (S g M f)/\R.cell? ⟨V.heap.size,1,none⟩=some (S d L c))/\Bw V.heap.size V R) ?_ ?_
  . have E:=(HK.o.set (j:=0) (v:=S g M f)).set (j:=1) (v:=S d L c)
    exact⟨⟨E.2.1 0 _ rfl,E.2.1 1 _ rfl⟩,((HB.o.drew).setCell lRz _).setCell lRz _⟩
  . rintro R ⟨⟨u0,u1⟩,h2⟩
    exact bodyPost_ret (v:=Ag #[S g M f,S d L c]) (by simp[results,results44,go_sem,u0,u1]) rfl ⟨_,_,_,_,rfl,I.o,H.o,h2⟩
theorem ibody_c (h:SSt D w0 q x fo go bd nv ks V)(b b0:Nat)(ad:fo=b)(af:bd=b0)(hj:b+b0<N x.jk)(ae:N x.jk<=4194304)(R:Option Ad)(gc:Nat)(gs:List Grp)(hg:GrL D w0 R gs)(t:(x.jk.getD (b+b0) Qc.z).ps.length<=1048577)(y:N gs<=1048577)(hs:∀k,k<=N gs->0<=QJ (gs.take k)/\QJ (gs.take k)<=4503599627370496*4):Ec Q 255 #[Yp (some ⟨q,0,none⟩),S R (N gs) gc] V λe w'=>∃m,m.nv=nv/\SpF D w0 x m/\BnP D w0 (Yp (some ⟨q,0,none⟩)) (Q5 q x m fo go (bd+1)++ks) (x.jk.getD (b+b0) Qc.z) gs e w':=by
 subst ad af;have HS:=Hm h;obtain⟨m,e,hm,hf⟩:=h;subst e;have d:=SSt.spr (q:=q) (fo:=(b:Int)) (go:=go) (bd:=(b0:Int)) (ks:=ks) hf;have r7:V.cell? ⟨q,7,none⟩=some (U O (b0:Int)):=(hm.bx d.bx 7).1;have a0:q<V.heap.size:=Kk V _ r7;have C:=Hm (iownFunc_c b0 hm d b rfl hj ae);generalize x.jk.getD (b+b0) Qc.z=ft at *;have E:Hid (∀W,SSt D w0 q x b go b0 m.nv ks W->SSt D w0 q x b go ((b0:Int)+1) m.nv ks (W.setCell ⟨q,7,none⟩ (U O ((b0:Int)+1)))):=λW f=>f.num 7 _ rfl rfl rfl (λm=>rfl);have H:Hid (∀pv rv W,Ty D w0 [] pv ft.ps->Ty D w0 [] rv ft.rs->SSt D w0 q x b go ((b0:Int)+1) m.nv ks W->Ec Q 43 #[Yp (some ⟨q,0,none⟩),Ag #[pv,rv],S R (N gs) gc] W λe w'=>∃g,g.nv=m.nv/\SpF D w0 x g/\BnP D w0 (Yp (some ⟨q,0,none⟩)) (Q5 q x g b go ((b0:Int)+1)++ks) ft gs e w'):=λpv rv W L I f=>by obtain⟨g,B,j,a⟩:=f;exact(ibodyNew_c q pv rv ft R gc gs j (L.sub (λr hr=>by cases hr)) (I.sub (λr hr=>by cases hr)) hg t y hs).mono λe w' hx=>⟨g,B,a,hx⟩
 have az:IntKind.i64.wrap ((b0:Int)+1)=(b0:Int)+1:=by rw[Kz];omega
 have F:Hid (∀c:J,Bw V.heap.size V c->c.cell? ⟨q,7,none⟩=some (U O (b0:Int))/\c.frozen? ⟨q,7,none⟩=false):=λc M=>by obtain⟨g,B,j,a⟩:=HS.o.keep M;exact j.bx (SSt.spr (q:=q) (fo:=(b:Int)) (go:=go) (bd:=(b0:Int)) (ks:=ks) a).bx 7
 clear hm hf d hg t hs hj y;go_enter func255,ntmps255;go_upto_region 2 with (go_at_call 44;refine C.o.mono ?_;rintro e c ⟨pa,pc,Y,X,rfl,L,I,M⟩;have ai:=Hm L;have ah:=Hm I;have s:=Hm M;clear L I M)
 obtain⟨W,f⟩:∃W,W=c.alloc (Fc #[S pa (N ft.ps) pc,S Y (N ft.rs) X] 76):=⟨_,rfl⟩;rw[<- f];have u:q≠c.heap.size:=by have:=s.o.size;omega
 have c0:W.cell? ⟨c.heap.size,0,none⟩=some (S pa (N ft.ps) pc):=by rw[f];exact Qe rfl rfl
 have c1:W.cell? ⟨c.heap.size,1,none⟩=some (S Y (N ft.rs) X):=by rw[f];exact Qe rfl rfl
 have n:Bw V.heap.size V W:=by rw[f];exact s.o.alloc s.o.size _
 obtain⟨s7,z7⟩:=F.o W n;have k0:∀v,(W.setCell ⟨q,7,none⟩ v).cell? ⟨c.heap.size,0,none⟩=some (S pa (N ft.ps) pc):=λv=>(Rm _ _ _ _ u).trans c0;have k1:∀v,(W.setCell ⟨q,7,none⟩ v).cell? ⟨c.heap.size,1,none⟩=some (S Y (N ft.rs) X):=λv=>(Rm _ _ _ _ u).trans c1;have HQ:=Hm (H.o _ _ _ ai.o ah.o (E.o W (HS.o.keep n)));clear f n r7 F H E HS C;go_wp2_with (go_at_call 43;refine HQ.o.mono ?_;rintro e w3 ⟨g,B,a,p,l,ns,rfl,hI,A⟩;have ak:=Hm B;have ap:=Hm a;have HI:=Hm hI;have ao:=Hm A;clear B a hI A)
 go_ret;exact⟨g,ak.o,ap.o,p,l,ns,rfl,HI.o,ao.o⟩
def codeM (x:Ctx)(fo go bd:Int)(t:Qc)(gs:List Grp)(xs:List In):Except Er (Ctx × Int × Int × Int):=match QL x frm oty (fn0 t gs) 0 xs with
 |.error (f,k)=>.error (f,some k)
 |.ok _=>.ok (x,fo,go,bd+1)
theorem BoP.val {r:Except (Int × Nat) Fn}{e:Ending}(h:BoP D w0 ks r e w'):∃rv,e=Z rv/\((∃f k,r=.error (f,k)/\rv=atIns k (flt f))\/∃g,r=.ok g/\rv=Nf)/\Mo D w0 ks w':=by
 rcases h with ⟨f,k,a,b,c⟩|⟨g,a,b,c⟩
 . exact⟨_,b,.inl ⟨f,k,a,rfl⟩,c⟩
 exact⟨_,b,.inr ⟨g,a,rfl⟩,c⟩
theorem icode_c (h:SSt D w0 q x fo go bd nv ks V)(f0 b0:Nat)(ak:fo=f0)(ap:bd=b0)(hj:f0+b0<N x.jk)(ao:N x.jk<=4194304)(d:Option Ad)(s:Nat)(gs:List Grp)(hg:GrL D w0 d gs)(t:Qc)(ht:t=x.jk.getD (f0+b0) Qc.z)(X:N t.ps<=1048577)(ab:N gs<=1048577)(hs:∀k,k<=N gs->0<=QJ (gs.take k)/\QJ (gs.take k)<=4503599627370496*4) (a:Option Ad) (c:Nat) (xs:List In) (B:Bd (fn0 t gs)) (C:CxB x) (hL:InL D w0 a xs) (F:∀y∈xs,InB y) (ah:N xs<=1048576) (ad:goM (nst (fn0 t gs)) xs=true):Ec Q 218 #[Yp (some ⟨q,0,none⟩),Ag #[S d (N gs) s,S a (N xs) c]] V (SeP D w0 q ks nv (codeM x fo go bd t gs xs)):=by
 obtain⟨M,hM⟩:∃M,M=codeM x fo go bd t gs xs:=⟨_,rfl⟩;rw[<- hM];have HM:=Hm hM;obtain⟨W,hW⟩:∃W,W=V.alloc (Fc #[S d (N gs) s,S a (N xs) c] 72):=⟨_,rfl⟩;obtain⟨H,A⟩:∃B,B=V.heap.size:=⟨_,rfl⟩;have u:SSt D w0 q x fo go bd nv (box 72 2 H [S d (N gs) s,S a (N xs) c]::ks) W:=by obtain⟨m,e,hm,hf⟩:=h;have aa:=hm.box (cur:=#[S d (N gs) s,S a (N xs) c]) 72 2 rfl;rw[<- hW,<- A]at aa;exact⟨m,e,aa.perm List.perm_middle.symm,hf⟩
 have e0:=(u.mo.b0 0).1;have e1:=(u.mo.b0 1).1;have af:=Hm (ibody_c (u.keep (W:=W.drewN 1) ⟨rfl,rfl,rfl,lRz,λ_ _=>rfl⟩) f0 b0 ak ap hj ao d s gs hg (by rw[<- ht];exact X) ab hs);rw[<- ht]at af
 have aw:Hid (∀m p l j L,SpF D w0 x m->ISt D w0 p (Yp (some ⟨q,0,none⟩)) l (j++(Q5 q x m fo go (bd+1)++(box 72 2 H [S d (N gs) s,S a (N xs) c]::ks))) (fn0 t gs) L->JM D w0 (j++(Q5 q x m fo go (bd+1)++(box 72 2 H [S d (N gs) s,S a (N xs) c]::ks))) l t.ps gs->Ec Q 249 #[S a (N xs) c,.func (.func 105) #[Yp (some ⟨p,0,none⟩)] #[]] L (BoP D w0 (j++(Q5 q x m fo go (bd+1)++(box 72 2 H [S d (N gs) s,S a (N xs) c]::ks))) (QL x frm oty (fn0 t gs) 0 xs))):=λm p l j L hf hi hlo =>
  ilistB_c (fo:=fo) (go:=go) (bd:=bd+1) (m:=m) a c xs hi ((SSt.spr (q:=q) (fo:=fo) (go:=go) (bd:=bd+1) hf).sub (λr R=>mR R)) hlo B C lRz rfl hL F ah ad
 have HE:Hid (∀m j I,m.nv=nv->SpF D w0 x m->Mo D w0 (j++(Q5 q x m fo go (bd+1)++(box 72 2 H [S d (N gs) s,S a (N xs) c]::ks))) I->SSt D w0 q x fo go (bd+1) nv ks I):=λm j I e hf hm=>⟨m,e,((hm.right).perm List.perm_middle).tail,hf⟩;clear h u hg X ab hs B C hL F ad ht hM hj;go_enter func218,ntmps218;go_upto_region 1 with fail
 rw[<- hW,<- A];clear hW A
 go_region_law (first
  | (
   go_simp
   go_at_call 255
   refine af.o.mono ?_
   rintro e L ⟨m',e',v,p,l,j,rfl,F,ae⟩;have g1:=(F.mo.bx (t:=72) (n:=2) (g:=H) (cs:=[S d (N gs) s,S a (N xs) c]) (by simp) 1).1;have av:=Hm (aw.o m' p l j L v F ae);have ay:=Hm (HE.o m' j);have au:=Hm e';have ax:=Hm v;clear e' v F ae)
  | (
   go_simp
   go_at_call 249
   refine av.o.mono ?_
   intro e I hx
   obtain⟨rv,rfl,hy,Y⟩:=hx.val;have HX:=Hm hy;have E:=Hm (ay.o I au.o ax.o Y);clear hx hy Y))
 all_goals
  go_wp2
  go_ret
  rcases HX.o with ⟨f,k,R,rfl⟩|⟨g,R,rfl⟩
  . exact .inl ⟨(f,some k),by rw[HM.o,codeM,R],rfl,E.o.mo.b,E.o.mo.le⟩
  . exact .inr ⟨x,fo,go,bd+1,by rw[HM.o,codeM,R],rfl,E.o⟩
def Sc (w w':J):Prop:=w'.cell?=w.cell?
theorem Sc.ty {v:Vu}{xs:List Int}(e:Sc w w')(h:Ty D w ks v xs):Ty D w' ks v xs:=by
 unfold Ty at *;rw[show w'.cell?=w.cell? from e];exact h
theorem Sc.fts {xs:List Qc}{cs:List Vu}(e:Sc w w')(h:FTs D w xs cs):FTs D w' xs cs :=
 ⟨h.1,fun i x hx=>by
  obtain⟨g,f,a,b,c,d⟩:=h.2 i x hx
  exact⟨g,f,a,b,e.ty c,e.ty d⟩⟩
theorem Sc.spf (e:Sc w w')(h:SpF D w x m):SpF D w' x m:=⟨e.fts h.tt,e.fts h.ft,h.gt⟩
open Go.RowKit Go.Sort Go.WideMaps Go.Maps
section
theorem lawS:Keyed Q 9:=string_keyed underlying9
theorem zeroI (w:J):(zeroValue 2).run Q w=.ok (U O 0) w:=by kernel_rfl
def Gl (b:Nat)(w0:J)(ns:List (List UInt8)):Prop:=∃M:DataW Unit,w0.ownsMap Q 9 (plainElem Q 2) b (N ns) M/\IsMap M/\∀s,has M (.string s)=decide (s∈ns)
theorem Gl.start (w:J):Gl w.heap.size (w.alloc (.map #[] 0)) []:=⟨.map [],World.ownsMap_made _ _ _ _,isMap_empty,λs=>by simp[has]⟩
theorem Gl.blk {ns:List (List UInt8)}(h:Gl b w ns)(e:w'.heap[b]?=w.heap[b]?):Gl b w' ns:=by
 obtain⟨M,⟨g,a,c,r⟩,f,d⟩:=h;exact⟨M,⟨g,a,e.trans c,r⟩,f,d⟩
theorem look_eq {n:Nat}{M:DataW Unit}(f:w.ownsMap Q 9 (plainElem Q 2) b n M){a:Vu}{j:Lit}(g:keyOf Q 9 a=some j):∃c:Int,(Instr.lookup 213 (.map (some b)) a true).run Q w=.ok (.tuple #[U O c,G (Maps.has M j)]) w:=by
 obtain⟨v,m,d,l⟩:=f.look_ok lawS underlying213 (zeroI w) (plainElem_int underlying2 (by decide)) g;obtain⟨c,rfl,o,k⟩:=plainElem_int_inv underlying2 l;exact⟨c,d⟩
theorem Gl.put {ns:List (List UInt8)}{M:DataW Unit}(a:IsMap M)(f:∀s,has M (.string s)=decide (s∈ns)){s:List UInt8}{d:DataW Unit}(c:w'.ownsMap Q 9 (plainElem Q 2) b (N ns+1) (M.put (.string s) d)):Gl b w' (s::ns):=by
 refine⟨_,by simpa using c,a.put _ _,λt=>?_⟩;by_cases e:t=s
 . subst e;rw[has_put_same a (by simp[WideAt.IsKeyLit])];simp
 rw[has_put_other (λx=>e (by injection x)),f];simp[e]
theorem turn0 {j:J}{rs}{n t:Nat}{M A:DataW Unit}(o:b<D)(h:Mo D w0 rs V)(u:V.ownsMap Q 9 (plainElem Q 2) b n M)(l:j.ownsMap Q 9 (plainElem Q 2) b t A)(c:V.grownBy j (some b)):∃w1,Sc w0 w1/\Bw b w0 w1/\Mo D w1 rs j/\w1.heap[b]?=j.heap[b]?:=by
 obtain⟨v,z,y,_⟩:=u;obtain⟨f,g,r,_⟩:=l;have s:w0.heap[b]?=some (.map v z):=(h.b.block b o).symm.trans y;have m:b<w0.heap.size:=(Array.getElem?_eq_some_iff.1 s).1;have d:(w0.putObj b (.map f g)).heap[b]?=some (.map f g):=World.putObj_heap_same m;refine⟨w0.putObj b (.map f g),?_,?_,⟨h.own.grown c λk e hk=>?_,?_,?_⟩,d.trans r.symm⟩
 . (funext a);by_cases q:a.block=b
   . unfold World.cell?;rw[q,d,s]
   exact Kd (My q)
 . exact⟨rfl,rfl,rfl,by simp,λk hk=>My (by omega)⟩
 . cases e;have:=(h.own.lt hk).1;omega
 . refine⟨c.os.trans h.b.os,c.tape.trans h.b.tape,c.output.trans h.b.output,by simp;exact Kq h.b.size c.size,λk hk=>?_⟩;by_cases p:k=b
   . subst p;rw[d,r]
   rw[My p,<- h.b.block k hk];exact c.block k (by have:=h.le;omega) (by simpa using p)
 exact Kq h.le c.size
end
def szK (x:Ctx)(k:Nat):Int:=if k=0 then(N x.jk:Int)else if k=1 then(x.jv:Int)else if k=2 then(x.jz:Int)else (N x.jx:Int)
def expM (x:Ctx)(ns:List (List UInt8))(s:List UInt8)(k:Nat)(idx:Int):Option Int:=if s∈ns then some 7 else if szK x k<=idx then some 2 else none
def ExP (D:Nat)(w0:J)(q:Nat)(x:Ctx)(fo go bd:Int)(b:Nat)(ks:List Qb)(ns:List (List UInt8))(s:List UInt8)(r:Option Int)(e:Ending)(w':J):Prop :=
 (∃f,r=some f/\e=Z (flt f)/\Bw b w0 w') \/
 (r=none/\e=Z Nf/\∃w1,Sc w0 w1/\Bw b w0 w1/\Gl b w1 (s::ns)/\SSt D w1 q x fo go bd (.map (some b)) ks w')
theorem iexp_c (s:ByteArray)(k:Nat)(f:Int)(ns:List (List UInt8))(h:SSt D w0 q x fo go bd (.map (some b)) ks V)(hb:b<D)(hk:k<4)(hs:s.size<=1048576)(hN:Gl b w0 ns)(a3:N ns<=1048576)(ab:(Lit.int O f).wf=true):Ec Q 215 #[Yp (some ⟨q,0,none⟩),Ag #[Xs s,U O k,U O f]] V (ExP D w0 q x fo go bd b ks ns s.data.toList (expM x ns s.data.toList k f)):=by
 obtain⟨W,C⟩:∃W,W=V.alloc (Fc #[Xs s,U O k,U O f] 192):=⟨_,rfl⟩;have ba:Bw V.heap.size V W:=by rw[C];exact bFz.alloc lRz _
 have E:=h.keep ba;have aq:Gl b W ns:=by obtain⟨m,_,y,_⟩:=E;exact hN.blk (y.b.block b hb)
 obtain⟨M,ho,ar,ac⟩:=aq;have v:keyOf Q 9 (Xs s)=some (.string s.data.toList):=keyOf_string_mk underlying9 (by unfold maxLen;omega);have hh:=ac s.data.toList;obtain⟨c,aa⟩:=look_eq ho.drew v;have X:=plainElem_int (H:=Unit) underlying2 ab;obtain⟨u,p⟩:∃B,B=V.heap.size:=⟨_,rfl⟩;have kk:Bk W u [Xs s,U O k,U O f]:=by rw[C,p];exact Bk.new
 have e0:=kk.2.1 0 _ rfl;have e1:=kk.2.1 1 _ rfl;have e2:=kk.2.1 2 _ rfl;have e8:W.cell? ⟨q,8,none⟩=some (.map (some b)):=by obtain⟨m,en,y,_⟩:=E;have:=(y.b0 8).1;rw[en]at this;exact this
 have ax:Hid (Bw b w0 W):=by obtain⟨m,_,y,_⟩:=E;exact y.b.mono (by omega)
 by_cases F:s.data.toList∈ns
 . (have Y:expM x ns s.data.toList k f=some 7:=by rw[expM,if_pos F]);rw[Y];rw[hh,decide_eq_true F]at aa;clear E h ba kk Y F;go_enter func215,ntmps215;(go_upto_region 1 with fail);rw[<- C,<- p];clear C p;go_region
   all_goals
    go_wp2
    go_ret
    exact .inl ⟨7,rfl,rfl,ax.o.trans ⟨rfl,rfl,rfl,lRz,λ_ _=>rfl⟩⟩
 rw[hh,decide_eq_false F]at aa;have Y:expM x ns s.data.toList k f=if szK x k<=f then some 2 else none:=by rw[expM,if_neg F]
 rw[Y];have HX:Hid (∀g d,g.ownsMap Q 9 (plainElem Q 2) b (N ns+1) (M.put (.string s.data.toList) d)->W.grownBy g (some b)->∃j,Sc w0 j/\Bw b w0 j/\Gl b j (s.data.toList::ns)/\SSt D j q x fo go bd (.map (some b)) ks g):=λg d t hg=>by obtain⟨m,en,y,hf⟩:=E;obtain⟨j,L,s2,s3,I⟩:=turn0 hb y ho t hg;exact⟨j,L,s2,(Gl.put ar ac t).blk I,m,en,s3,L.spf hf⟩
 have ag:Hid (∀g,W.grownBy g (some b)->g.cell? ⟨u,0,none⟩=some (.string s)/\g.cell? ⟨u,1,none⟩=some (U O k)/\g.cell? ⟨u,2,none⟩=some (U O f)):=λg hg=>by
  have ak:u<W.heap.size:=Kk W _ e0;have a6:b<u:=by rw[p];have:=h.mo.le;omega
  have eb:=hg.block u ak (by simp;omega);exact⟨(Kd (a:=⟨u,0,none⟩) eb).trans e0,(Kd (a:=⟨u,1,none⟩) eb).trans e1,(Kd (a:=⟨u,2,none⟩) eb).trans e2⟩
 have ae:Hid (∀j g,SSt D j q x fo go bd (.map (some b)) ks g->Ec Q 247 #[Yp (some ⟨q,0,none⟩),U O (k:Int)] g λe w'=>e=Z (U O (szK x k))/\g=w'):=λj g hs2=>isize_c k hk hs2;obtain⟨z,hz⟩:∃z,z=szK x k:=⟨_,rfl⟩;rw[<- hz]at ae⊢;obtain⟨g,a2,t,l⟩:=(ho.drew.drew).update lawS underlying213 (n:=N ns) (by unfold maxLen;omega) v X;have af:Hid (W.grownBy g (some b)):=⟨l.os,l.tape,l.output,l.size,l.block⟩;have aw:=Hm (HX.o g _ t af.o);obtain⟨g0,g1,g2⟩:=ag.o g af.o;clear E h ba kk Y F hz t l ag;obtain⟨R,hR⟩:∃R:Option Int,R=if z<=f then some 2 else none:=⟨_,rfl⟩;rw[<- hR];have HR:=Hm hR;clear hR
 go_enter func215,ntmps215;go_upto_region 1 with fail
 rw[<- C,<- p];clear C p;go_region
 all_goals
  go_upto_region 4 with fail
  go_region
 all_goals
  obtain⟨j,L,s2,s3,I⟩:=aw.o;have ad:=Hm (λn=>(ae.o j (g.drewN n) (I.keep ⟨rfl,rfl,rfl,lRz,λ_ _=>rfl⟩)).mono (R':=λe w'=>e=Z (U O z)/\∃m,w'=g.drewN m) λe w' ⟨a,b⟩=>⟨a,n,b.symm⟩);have r:=Hm (⟨L,s2,s3,I⟩:Sc w0 j/\Bw b w0 j/\Gl b j (s.data.toList::ns)/\SSt D j q x fo go bd (.map (some b)) ks g);clear L s2 s3 I
  go_upto_region 5 with fail
  by_cases c2:z<=f
  . have A:Hid (R=some 2):=by show R=_;rw[HR.o,if_pos c2]
    go_quiet (with_reducible exact ad.o _)
    go_wp2
    go_ret
    exact .inl ⟨2,A.o,rfl,(r.o.2.1.trans (r.o.2.2.2.mo.b.mono (Nat.le_of_lt hb))).trans ⟨rfl,rfl,rfl,lRz,λ_ _=>rfl⟩⟩
  . have A:Hid (R=none):=by show R=_;rw[HR.o,if_neg c2]
    go_quiet (with_reducible exact ad.o _)
    go_wp2
    go_ret
    exact .inr ⟨A.o,rfl,j,r.o.1,r.o.2.1,r.o.2.2.1,r.o.2.2.2.keep ⟨rfl,rfl,rfl,lRz,λ_ _=>rfl⟩⟩
open Go.RowKit Go.Sort
theorem iseg_c (k:Nat)(g:k=1\/k=2)(h:SSt D w0 q x fo go bd nv ks V):Ec Q 253 #[Yp (some ⟨q,0,none⟩),U O (k:Int)] V λe w'=>e=Z (if(if k=1 then x.jv else x.jz)=0 then flt 2 else Nf)/\V=w':=by
 have b:=Hm (isize_c k (by omega) h);clear h;rcases g with rfl|rfl
 . by_cases c:x.jv=0
   . (have f:((x.jv:Int)==0)=true:=by simp[c]);simp only[c,if_true];have a:Hid (Ec Q 247 #[Yp (some ⟨q,0,none⟩),U O 1] V λe w'=>e=Z (U O (x.jv:Int))/\V=w'):=b.o;clear b c;go_enter func253,ntmps253;(go_wp2_with (go_at_call 247;refine a.o.mono ?_;rintro e d ⟨rfl,rfl⟩));go_ret;exact⟨rfl,rfl⟩
   (have f:((x.jv:Int)==0)=false:=by simp;omega);simp only[c,if_true,if_false];have a:Hid (Ec Q 247 #[Yp (some ⟨q,0,none⟩),U O 1] V λe w'=>e=Z (U O (x.jv:Int))/\V=w'):=b.o;clear b c;go_enter func253,ntmps253;(go_wp2_with (go_at_call 247;refine a.o.mono ?_;rintro e d ⟨rfl,rfl⟩));go_ret;exact⟨rfl,rfl⟩
 by_cases c:x.jz=0
 . (have f:((x.jz:Int)==0)=true:=by simp[c]);(have e:(if(2:Nat)=1 then x.jv else x.jz)=0:=by simp[c]);rw[if_pos e];have a:Hid (Ec Q 247 #[Yp (some ⟨q,0,none⟩),U O 2] V λe w'=>e=Z (U O (x.jz:Int))/\V=w'):=b.o;clear b c e;go_enter func253,ntmps253;(go_wp2_with (go_at_call 247;refine a.o.mono ?_;rintro e d ⟨rfl,rfl⟩));go_ret;exact⟨rfl,rfl⟩
 have f:((x.jz:Int)==0)=false:=by simp;omega
 have e:¬(if(2:Nat)=1 then x.jv else x.jz)=0:=by simpa using c
 rw[if_neg e];have a:Hid (Ec Q 247 #[Yp (some ⟨q,0,none⟩),U O 2] V λe w'=>e=Z (U O (x.jz:Int))/\V=w'):=b.o;clear b c e;go_enter func253,ntmps253;go_wp2_with (go_at_call 247;refine a.o.mono ?_;rintro e d ⟨rfl,rfl⟩)
 go_ret;exact⟨rfl,rfl⟩
theorem ioff_c (q:Nat)(V:J):Ec Q 254 #[Yp (some ⟨q,0,none⟩)] V λe w'=>e=Z (Yp (some ⟨V.heap.size,0,none⟩))/\w'=V.alloc (Fc #[Yp (some ⟨q,0,none⟩),U O 127,S none 0 0] 342):=by
 go_enter func254,ntmps254;go_wp2;go_ret;exact⟨rfl,rfl⟩
theorem ClP.val {r:Except (Int × Nat) (List Int)}{e:Ending}(h:ClP D w0 ks r e w'):∃rv,e=Z rv/\((∃f k,r=.error (f,k)/\rv=atIns k (flt f))\/∃g,r=.ok g/\rv=Nf)/\Mo D w0 ks w':=by
 rcases h with ⟨f,k,a,b,c⟩|⟨g,a,b,c⟩
 . exact⟨_,b,.inl ⟨f,k,a,rfl⟩,c⟩
 exact⟨_,b,.inr ⟨g,a,rfl⟩,c⟩
theorem offC {D w0}{rs W}(j:Mo D w0 rs W)(g:SpR D w0 q x fo go bd m rs)(a:Option Ad)(c:Nat)(xs:List In)(f:go<=N x.jx)(k:InL D w0 a xs)(l:∀y∈xs,InB y)(b:N xs<=1048576):Ec Q 249 #[S a (N xs) c,.func (.func 250) #[Yp (some ⟨W.heap.size,0,none⟩)] #[]] (W.alloc (Fc #[Yp (some ⟨q,0,none⟩),U O 127,S none 0 0] 342)) (ClP D w0 rs (QU x go 127 [] 0 xs)):=by
 have d:=j.box (cur:=#[Yp (some ⟨q,0,none⟩),U O 127,S none 0 0]) 342 3 rfl;have n:CSt D w0 W.heap.size (Yp (some ⟨q,0,none⟩)) 127 rs [] (W.alloc (Fc #[Yp (some ⟨q,0,none⟩),U O 127,S none 0 0] 342)):=⟨S none 0 0,(d.new (ns:=[⟨2,1,0,S none 0 0,[]⟩]) bFz (Own.one (Tq _ _ 2 1))).perm (Kf _ _ _)⟩;exact ilistC_c a c xs n g f k l b
def dataM (x:Ctx)(fo go bd:Int)(off:List In):Except Er (Ctx × Int × Int × Int):=if x.jz=0 then .error (2,none)else match QU x go 127 [] 0 off with
 |.error (f,k)=>.error (f,some k)
 |.ok _=>.ok (x,fo,go,bd)
def Gi (x:Ctx):List Int->Bool
 |[]=>true
 |i::is=>decide (i<N x.jk)&&Gi x is
def elemM (x:Ctx)(fo go bd:Int)(off:List In)(fs:List Int):Except Er (Ctx × Int × Int × Int):=if x.jv=0 then .error (2,none)else match QU x go 127 [] 0 off with
 |.error (f,k)=>.error (f,some k)
 |.ok _=>if Gi x fs then .ok (x,fo,go,bd)else .error (2,none)
theorem idata_c (a:Option Ad)(c:Nat)(xs:List In)(l:Option Ad)(H I:Nat)(h:SSt D w0 q x fo go bd nv ks V)(X:go<=N x.jx)(hL:InL D w0 a xs)(hI:∀y∈xs,InB y)(R:N xs<=1048576):Ec Q 219 #[Yp (some ⟨q,0,none⟩),Ag #[S a (N xs) c,S l H I]] V (SeP D w0 q ks nv (dataM x fo go bd xs)):=by
 obtain⟨M,hM⟩:∃M,M=dataM x fo go bd xs:=⟨_,rfl⟩;rw[<- hM];have L:=Hm hM;obtain⟨W,t⟩:∃W,W=V.alloc (Fc #[S a (N xs) c,S l H I] 199):=⟨_,rfl⟩;have ba:Bw V.heap.size V W:=by rw[t];exact bFz.alloc lRz _
 have C:=h.keep ba;have n:=Hm (iseg_c 2 (by omega) C);obtain⟨m,e,hm,Y⟩:=h;subst e;have d:=hm.box (cur:=#[S a (N xs) c,S l H I]) 199 2 rfl;obtain⟨B3,j⟩:∃B,B=V.heap.size:=⟨_,rfl⟩;rw[<- t,<- j]at d;have e0:=(d.b0 0).1;have kd:∀o,((W.drewN 1).alloc o).cell? ⟨B3,0,none⟩=some (S a (N xs) c):=λo=>Qf ((d.drewN 1).b0 0).1;have p:SpR D w0 q x fo go bd m (box 199 2 B3 [S a (N xs) c,S l H I]::(Q5 q x m fo go bd++ks)):=(SSt.spr (q:=q) (fo:=fo) (go:=go) (bd:=bd) (ks:=ks) Y).sub (λr z=>mC z);have HL:=Hm (offC (d.drewN 1) p a c xs X hL hI R);have HO:=Hm (ioff_c q (W.drewN 1));have HF:=Hm Y;have E:=Hm d;clear hm d p hL hI Y C ba hM;by_cases u:x.jz=0
 . (have ab:Hid (M=.error (2,none)):=by show M=_;rw[L.o];simp[dataM,u]);(have v:(if(if(2:Nat)=1 then x.jv else x.jz)=0 then flt 2 else Rv)=flt 2:=by simp[u]);rw[v]at n;clear v u L HL HO;go_enter func219,ntmps219;(go_upto_region 1 with fail);rw[<- t,<- j];clear t j;(go_wp2_with (go_at_call 253;refine n.o.mono ?_;rintro e w1 ⟨rfl,rfl⟩));go_ret;exact .inl ⟨(2,none),ab.o,rfl,E.o.b,E.o.le⟩
 have v:(if(if(2:Nat)=1 then x.jv else x.jz)=0 then flt 2 else Rv)=Nf:=by simp[u]
 rw[v]at n;have F:=Hm u;clear v u;go_enter func219,ntmps219;go_upto_region 1 with fail
 rw[<- t,<- j];clear t j;go_upto_region 4 with (go_at_call 253;refine n.o.mono ?_;rintro e w1 ⟨rfl,rfl⟩)
 go_region_law (first
  | (
   go_simp
   go_at_call 254
   refine HO.o.mono ?_
   rintro e w2 ⟨rfl,rfl⟩)
  | (
   go_simp
   go_at_call 249
   refine HL.o.mono ?_
   intro e w3 hx
   obtain⟨rv,rfl,hy,A⟩:=hx.val;have HX:=Hm hy;have s:=Hm A;clear hx hy A))
 all_goals
  go_wp2
  go_ret
  rcases HX.o with ⟨f,k,z,rfl⟩|⟨g,z,rfl⟩
  . exact .inl ⟨(f,some k),by rw[L.o,dataM,if_neg F.o,z],rfl,s.o.b,s.o.le⟩
  . exact .inr ⟨x,fo,go,bd,by rw[L.o,dataM,if_neg F.o,z],rfl,SSt.of rfl s.o.tail HF.o⟩
theorem ielem_c (a:Option Ad)(c:Nat)(xs:List In)(R:Option Ad)(L:Nat)(d:List Int)(tF:Ty D w0 [] (S R (N d) L) d)(ab:∀i∈d,0<=i)(bb:N d<=1048576)(h:SSt D w0 q x fo go bd nv ks V)(ak:go<=N x.jx)(hL:InL D w0 a xs)(hI:∀y∈xs,InB y)(aj:N xs<=1048576):Ec Q 217 #[Yp (some ⟨q,0,none⟩),Ag #[S a (N xs) c,S R (N d) L]] V (SeP D w0 q ks nv (elemM x fo go bd xs d)):=by
 obtain⟨M,hM⟩:∃M,M=elemM x fo go bd xs d:=⟨_,rfl⟩;rw[<- hM];have HM:=Hm hM;obtain⟨W,I⟩:∃W,W=V.alloc (Fc #[S a (N xs) c,S R (N d) L] 195):=⟨_,rfl⟩;have ba:Bw V.heap.size V W:=by rw[I];exact bFz.alloc lRz _
 have ad:=h.keep ba;have v:=Hm (iseg_c 1 (by omega) ad);obtain⟨m,e,hm,hf⟩:=h;subst e;have p:=hm.box (cur:=#[S a (N xs) c,S R (N d) L]) 195 2 rfl;obtain⟨B3,t⟩:∃B,B=V.heap.size:=⟨_,rfl⟩;rw[<- I,<- t]at p;have e0:=(p.b0 0).1;have kd:∀o,((W.drewN 1).alloc o).cell? ⟨B3,0,none⟩=some (S a (N xs) c):=λo=>Qf ((p.drewN 1).b0 0).1;have E:SpR D w0 q x fo go bd m (box 195 2 B3 [S a (N xs) c,S R (N d) L]::(Q5 q x m fo go bd++ks)):=(SSt.spr (q:=q) (fo:=fo) (go:=go) (bd:=bd) (ks:=ks) hf).sub (λr u=>mC u);have HL:=Hm (offC (p.drewN 1) E a c xs ak hL hI aj);have HO:=Hm (ioff_c q (W.drewN 1));have HF:=Hm hf;have H:=Hm p;clear hm p E hL hI hf ad ba hM;by_cases X:x.jv=0
 . (have n:Hid (M=.error (2,none)):=by show M=_;rw[HM.o];simp[elemM,X]);(have Y:(if(if(1:Nat)=1 then x.jv else x.jz)=0 then flt 2 else Rv)=flt 2:=by simp[X]);rw[Y]at v;clear Y X HM HL HO;go_enter func217,ntmps217;(go_upto_region 1 with fail);rw[<- I,<- t];clear I t;(go_wp2_with (go_at_call 253;refine v.o.mono ?_;rintro e w1 ⟨rfl,rfl⟩));go_ret;exact .inl ⟨(2,none),n.o,rfl,H.o.b,H.o.le⟩
 have Y:(if(if(1:Nat)=1 then x.jv else x.jz)=0 then flt 2 else Rv)=Nf:=by simp[X]
 rw[Y]at v;have ag:=Hm X;clear Y X;go_enter func217,ntmps217;go_upto_region 1 with fail
 rw[<- I,<- t];clear I t;go_upto_region 4 with (go_at_call 253;refine v.o.mono ?_;rintro e w1 ⟨rfl,rfl⟩)
 go_region_law (first
  | (
   go_simp
   go_at_call 254
   refine HO.o.mono ?_
   rintro e w2 ⟨rfl,rfl⟩)
  | (
   go_simp
   go_at_call 249
   refine HL.o.mono ?_
   intro e w3 hx
   obtain⟨rv,rfl,C,aa⟩:=hx.val;have HX:=Hm C;have l:=Hm aa;clear hx C aa))
 all_goals
  rcases HX.o with ⟨f,k,u,rfl⟩|⟨g,u,rfl⟩
  . have n:Hid (M=.error (f,some k)):=by show M=_;rw[HM.o,elemM,if_neg ag.o,u]
    clear u HX
    go_wp2
    go_ret
    exact .inl ⟨(f,some k),n.o,rfl,l.o.b,l.o.le⟩
  . have ac:M=if Gi x d then .ok (x,fo,go,bd)else .error (2,none):=by rw[HM.o,elemM,if_neg ag.o,u]
    have d1:=(l.o.b0 1).1;obtain⟨bf,bc,ee,hh⟩:=(tF.sub (ks':=box 195 2 B3 [S a (N xs) c,S R (N d) L]::(Q5 q x m fo go bd++ks)) (λr u=>by cases u)).has0 l.o
    cases ee
    have HH:=Hm hh;have ae:Hid (SSt D w0 q x fo go bd m.nv ks w3):=SSt.of rfl l.o.tail HF.o;have A:=Hm ac;have av:=Hm ab;clear u HX hh ac ab HM H
    go_wp2
    go_loop [27] (λi=>∃k:Nat,k<=N d/\i=U O k/\Gi x d=Gi x (d.drop k)) (λi=>N d-(intOf i).toNat)
    case atStart=>exact⟨0,Kw _,rfl,rfl⟩
    case round =>
     obtain⟨k,hk,rfl,j⟩:=hrel
     by_cases s:k<N d
     . have a9:(k:Int)<(N d:Int):=by omega
       rcases HH.o with hx|⟨b1,o1,ea,hc⟩
       . subst hx;simp at s
       have dd:=hc k s;subst ea;have F:d.drop k=d.getD k 0::d.drop (k+1):=by rw[List.drop_eq_getElem_cons s];simp[Kx,s]
       rw[F,Gi]at j;have z:=Hm (inamed_c (d.getD k 0) ae.o (av.o _ (by simp[Kx,s])));generalize d.getD k 0=y at *
       by_cases C:y<N x.jk
       . rw[if_pos C]at z;have aw:Hid (Gi x d=Gi x (d.drop (k+1))):=by show Gi x d=_;rw[j];simp[C]
         clear j hc F C HH
         go_wp2_with (go_at_call 251;refine z.o.mono ?_;rintro e w4 ⟨rfl,rfl⟩)
         go_round
         case rel=>exact⟨k+1,by omega,by go_num,aw.o⟩
         case measure=>simp[intOf];omega
       . rw[if_neg C]at z
         have n:Hid (M=.error (2,none)):=by
          show M=_
          have e1:Gi x d=false:=by rw[j];simp;intro h;omega
          rw[A.o,e1];rfl
         clear j hc F C HH A
         go_wp2_with (go_at_call 251;refine z.o.mono ?_;rintro e w4 ⟨rfl,rfl⟩)
         go_ret
         exact .inl ⟨(2,none),n.o,rfl,l.o.b,l.o.le⟩
     . have e:k=N d:=by omega
       subst e
       have n:Hid (M=.ok (x,fo,go,bd)):=by
        show M=_
        have e1:Gi x d=true:=by rw[j,Hz lRz];rfl
        rw[A.o,e1];rfl
       clear j HH A
       go_wp2
       go_ret
       exact .inr ⟨x,fo,go,bd,n.o,rfl,ae.o⟩
theorem iteq0_c (pa ra)(p g:Nat)(a rs:List Int)(V)(hp:N a<=1099511627776)(hr:N rs<=1099511627776)(t:Has V pa a)(s:Has V ra rs):Ec Q 252 #[Ag #[S pa (N a) p,S ra (N rs) g],Ag #[S none 0 0,S none 0 0]] V λe w'=>e=Z (G (decide (a=[]/\rs=[])))/\Bw V.heap.size V w':=by
 obtain⟨W,c⟩:∃W,W=(V.alloc (Fc #[S pa (N a) p,S ra (N rs) g] 76)).alloc (Fc #[S none 0 0,S none 0 0] 76):=⟨_,rfl⟩;have D:W.cell? ⟨V.heap.size,0,none⟩=some (S pa (N a) p):=by rw[c];exact Qf (Qe rfl rfl)
 have y:W.cell? ⟨V.heap.size,1,none⟩=some (S ra (N rs) g):=by rw[c];exact Qf (Qe rfl rfl)
 have c2:W.cell? ⟨V.heap.size+1,0,none⟩=some (S none 0 0):=by rw[c];exact Qe (by simp) rfl
 have v:W.cell? ⟨V.heap.size+1,1,none⟩=some (S none 0 0):=by rw[c];exact Qe (by simp) rfl
 have f:Bw V.heap.size V W:=by rw[c];exact(bFz.alloc lRz _).alloc (by simp) _
 have r:Hid (∀n,Bw V.heap.size V (W.drewN n)):=λn=>f.trans ⟨rfl,rfl,rfl,lRz,λ_ _=>rfl⟩;have b:=Hm (ieq_c pa none p 0 a [] W hp (by simp) (t.keep f) (.inl rfl));have d:=Hm (λn=>(ieq_c ra none g 0 rs [] (W.drewN n) hr (by simp) (s.keep (r.o n)) (.inl rfl)).mono (R':=λe w'=>e=Z (G (decide (rs=[])))/\∃m,w'=W.drewN m) λe w' ⟨h1,m,h2⟩=>⟨h1,n+m,by rw[h2];exact Xz _ _ _⟩);have q:([]:List Int).length=0:=rfl;rw[q]at b d;clear t s f;by_cases k:a=[]
 . (have j:decide (a=[]/\rs=[])=decide (rs=[]):=by simp[k]);(have l:decide (a=[])=true:=by simp[k]);rw[l]at b;rw[j];generalize decide (rs=[])=bb at d⊢;clear j l k q;go_enter func252,ntmps252;(go_upto_region 1 with fail);rw[<- c];clear c;(go_wp2_with fail);(go_at_call 269);refine b.o.mono ?_;rintro e u ⟨rfl,m,rfl⟩;have C:(W.drewN m).cell? ⟨V.heap.size,1,none⟩=some (S ra (N rs) g):=y;have B:(W.drewN m).cell? ⟨V.heap.size+1,1,none⟩=some (S none 0 0):=v;(go_wp2_with fail);(go_at_call 269);refine(d.o m).mono ?_;rintro e z ⟨rfl,A,rfl⟩;(go_wp2_with fail);go_ret;exact⟨rfl,r.o _⟩
 have j:decide (a=[]/\rs=[])=false:=by simp[k]
 have l:decide (a=[])=false:=by simp[k]
 rw[l]at b;rw[j];clear j l k q d;go_enter func252,ntmps252;go_upto_region 1 with fail
 rw[<- c];clear c;go_wp2_with (go_at_call 269;refine b.o.mono ?_;rintro e u ⟨rfl,m,rfl⟩)
 go_ret;exact⟨rfl,r.o _⟩
def X5 (x:Ctx)(fo go bd:Int)(i:Int):R (Ctx × Int × Int × Int):=if i<N x.jk then(if(x.jk.getD i.toNat Qc.z).ps=[]/\(x.jk.getD i.toNat Qc.z).rs=[]then .ok (x,fo,go,bd)else .error 6)else .error 2
theorem istart_c (i:Int)(h:SSt D w0 q x fo go bd nv ks V)(h0:0<=i)(L:∀t∈x.jk,N t.ps<=1099511627776/\N t.rs<=1099511627776):Ec Q 216 #[Yp (some ⟨q,0,none⟩),U O i] V (SsP D w0 q ks nv (X5 x fo go bd i)):=by
 have c:=Hm (inamed_c i h h0);have HS:=Hm h;obtain⟨m,e,g,C⟩:=h;subst e;obtain⟨r0,r1,r2,r3,r4⟩:=(SSt.spr (q:=q) (fo:=fo) (go:=go) (bd:=bd) (ks:=ks) C).cells g;obtain⟨fa,fc,l,p⟩:=Qu g (e:=76) (sz:=2) (n:=N x.jk) (v:=m.fv) (cs:=m.fcs) (by simp);rw[l]at r1;have B:=Hm (⟨g.b,g.le⟩:Bw D w0 V/\D<=V.heap.size);by_cases k:i<N x.jk
 . obtain⟨j,rfl⟩:∃j:Nat,i=j:=⟨i.toNat,by omega⟩;(have H:j<N x.jk:=by omega);have au:(j:Int)<(N x.jk:Int):=k;rw[if_pos k]at c;obtain⟨gt,I,s⟩:=p (by omega);subst I;obtain⟨pv,rv,e1,e2,Y,X⟩:=C.ft.get H [];have d0:=s _ _ e1 (by omega);have d1:=s _ _ e2 (by omega);have u:=L (x.jk.getD j Qc.z) (by simp[Kx,H]);(have hM:X5 x fo go bd (j:Int)=if(x.jk.getD j Qc.z).ps=[]/\(x.jk.getD j Qc.z).rs=[]then .ok (x,fo,go,bd)else .error 6:=by rw[X5,if_pos k];rfl);rw[hM];generalize x.jk.getD j Qc.z=ft at *;obtain⟨pa,pc,F,hp⟩:=(Y.sub (ks':=Q5 q x m fo go bd++ks) (λr A=>by cases A)).has0 g;obtain⟨ra,rc,E,A⟩:=(X.sub (ks':=Q5 q x m fo go bd++ks) (λr A=>by cases A)).has0 g;subst F E;have d:=Hm (iteq0_c pa ra pc rc ft.ps ft.rs V u.1 u.2 hp A);have y:Hid (∀W,Bw V.heap.size V W->SSt D w0 q x fo go bd m.nv ks W):=λW hb=>HS.o.keep hb;generalize ft.ps=ps at *;generalize ft.rs=rs at *;clear g C p s e1 e2 Y X u hM hp A l r0 r2 r3 r4 L HS k H;by_cases kk:ps=[]/\rs=[]
   . (have hd:decide (ps=[]/\rs=[])=true:=by simp[kk]);rw[hd]at d;rw[if_pos kk];clear hd kk;go_enter func216,ntmps216;(go_wp2_with (first|(go_at_call 251;refine c.o.mono ?_;rintro e R ⟨rfl,rfl⟩)|(go_at_call 252;refine d.o.mono ?_;rintro e w2 ⟨rfl,a⟩;have f:=Hm a;clear a)));go_ret;exact .inr ⟨_,_,_,_,rfl,rfl,y.o _ f.o⟩
   (have hd:decide (ps=[]/\rs=[])=false:=by simp[kk]);rw[hd]at d;rw[if_neg kk];clear hd kk;go_enter func216,ntmps216;(go_wp2_with (first|(go_at_call 251;refine c.o.mono ?_;rintro e R ⟨rfl,rfl⟩)|(go_at_call 252;refine d.o.mono ?_;rintro e w2 ⟨rfl,a⟩;have f:=Hm a;clear a)));go_ret;exact .inl ⟨6,rfl,rfl,((y.o _ f.o).mo).b,((y.o _ f.o).mo).le⟩
 rw[if_neg k]at c;have M:Hid (X5 x fo go bd i=.error 2):=by show X5 x fo go bd i=_;rw[X5,if_neg k]
 clear g C l p r0 r1 r2 r3 r4 k L;go_enter func216,ntmps216;go_wp2_with (go_at_call 251;refine c.o.mono ?_;rintro e R ⟨rfl,rfl⟩)
 go_ret;exact .inl ⟨2,M.o,rfl,B.o.1,B.o.2⟩
