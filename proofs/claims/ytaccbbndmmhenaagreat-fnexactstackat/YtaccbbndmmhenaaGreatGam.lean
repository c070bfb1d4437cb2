import Derived.Test.YtaccbbndmmhenaaGreatGal
import Derived.Test.YtaccbbndmmhenaaGreatGad
set_option linter.all false
set_option maxHeartbeats 400000000
set_option maxRecDepth 100000
namespace Go.Proofs
open Value renaming int->U,slice->S,bool->G,string->Xs,agg->Ag
open IntKind renaming i64->O,u64->Ou
open Ending renaming returned->Z
open Obj renaming cells->Fc
open Go renaming World->J,Calls->Ec,Value->Vu,Addr->Ad
open Tryz renaming prog->Q
open Tryz
open Nat renaming zero_le->Kw,lt_or_ge->Lc,zero_add->Tx,le_trans->Kq,mul_le_mul_right->Mz,lt_succ_self->Mg,le_succ->Hx
open Bool renaming true_and->Tk
open Act renaming eval->Tc,put->Hw
open List renaming getD->Kx,drop_eq_getElem_cons->Tw,map_append->Tf,map_cons->Hp,append_assoc->Kv,cons_append->Lz,nil_append->Hh,set_append_right->Lv,getElem?_eq_getElem->Kj,drop_of_length_le->Hz,append_nil->Lg,replicate->Td,ext_getElem?->Em,take_length->Kh,length->N
open World renaming frozen?_setCell->Kb,frozen?->Pz,ownsRow_lit->Hk,block_lt_of_cell?->Kk
open _root_.Array renaming getElem?_eq_none->Lp
open List.Perm renaming swap->Kf
namespace YtaccbbndmmhenaaGreat
open Go.RowKit Go.Sort
variable {w:J}{B:Nat}{v:Vu}
def gpB (x:Mod):Bool:=x.types.all ftB&&(x.cj.all QP&&((x.cw++x.jz).all Jn&&(x.ck.all QY&&(x.cv.all Jr))))
theorem infoLim:(Q.info? 175).map (λi=>(i.zero,i.size,i.bytes))=some (some (Ag #[U O 0,U O 0,G false]),3,24):=by kernel_rfl
theorem underLimS:Q.underlying 40=some (.slice 175):=by kernel_rfl
theorem own_zeroL (W:J):((W.alloc (Fc #[] 175)).drew).ownsRow W.heap.size 175 3 (S (some ⟨W.heap.size,0,none⟩) 0 0) 0 []:=by
 refine⟨rfl,.inr ⟨W.heap.size,0,#[],rfl,lRz,?_,lRz,by decide,rfl,rfl⟩⟩;exact Array.getElem?_push_size
theorem own_twoL {b rs:List Qd}(h:w.ownsRow B 175 3 v (0+N b+N rs) (([]++LCs b)++LCs rs)):∃a c,v=S a (b++rs).length c/\Qd.Ls 0 w a (b++rs):=by
 have e:([]++LCs b)++LCs rs=LCs (b++rs):=by rw[LCs_app];rfl
 have d:0+N b+N rs=(b++rs).length:=by simp
 rw[e,d]at h;exact own_lims h
theorem sgp_c (x:Mod)(a1:Option Ad)(c1:Nat)(a2:Option Ad)(c2:Nat)(a3:Option Ad)(c3:Nat)(a4:Option Ad)(c4:Nat)(a5:Option Ad)(c5:Nat)(a6:Option Ad)(c6:Nat)(a7:Option Ad)(c7:Nat)(a8:Option Ad)(c8:Nat)(a9:Option Ad)(c9:Nat)(M:Option Ad)(Y:Nat)(L:Option Ad)(X:Nat)(w:J)(hI:Mod.Is 0 w x a1 a2 a3 a4 a5 a6 a7 a8 a9 M L)(hl:Mod.LB 1048576 x)(hp:x.Pos):Ec Q 124 #[Ag #[S a1 (N x.types) c1,S a2 (N x.cj) c2,S a3 (N x.jk) c3,S a4 (N x.cw) c4,S a5 (N x.jz) c5,S a6 (N x.ck) c6,S a7 (N x.cv) c7,G x.gz,U O x.start,S a8 (N x.fq) c8,S a9 (N x.fj) c9,S M (N x.fx) Y,S L (N x.fw) X]] w λe w'=>e=Z (G (gpB x))/\Below w.heap.size w w':=by
 have ⟨l1,l2,l3,l4,l5,l6,l7,l8,l9,l10,l11⟩:=Gd hl;obtain⟨r1,r2,r3,r4,r5,r6,r7,r8,r9,cf,ce⟩:=hI;have R1:=Hm r1;have R2:=Hm r2;have R4:=Hm r4;have R5:=Hm r5;have R6:=Hm r6;have R7:=Hm r7;clear r1 r2 r3 r4 r5 r6 r7 r8 r9 cf ce;have LL:=Hm hl;have PP:=Hm hp;have A:Hid (gpB x=(x.types.all ftB&&(x.cj.all QP&&((x.cw++x.jz).all Jn&&(x.ck.all QY&&(x.cv.all Jr)))))):=rfl;clear hl hp;go_enter func124,ntmps124;go_upto_region 1 with fail
 refine Qj (λW=>Bk W w.heap.size [S a1 (N x.types) c1,S a2 (N x.cj) c2,S a3 (N x.jk) c3,S a4 (N x.cw) c4,S a5 (N x.jz) c5,S a6 (N x.ck) c6,S a7 (N x.cv) c7,G x.gz,U O x.start,S a8 (N x.fq) c8,S a9 (N x.fj) c9,S M (N x.fx) Y,S L (N x.fw) X]/\Below w.heap.size w W) ⟨Bk.new,bFz.alloc lRz _⟩ ?_;rintro W0 ⟨m,r⟩;have q0:=m.2.1 0 _ rfl;have q1:=m.2.1 1 _ rfl;have q3:=m.2.1 3 _ rfl;have q4:=m.2.1 4 _ rfl;have q5:=m.2.1 5 _ rfl;have q6:=m.2.1 6 _ rfl;go_wp2_with fail
 go_loopw [3] (λi wr=>∃k:Nat,k<=N x.types/\i=U O k/\(∀j,j<k->ftB (x.types.getD j Qc.z)=true)/\Bk wr w.heap.size [S a1 (N x.types) c1,S a2 (N x.cj) c2,S a3 (N x.jk) c3,S a4 (N x.cw) c4,S a5 (N x.jz) c5,S a6 (N x.ck) c6,S a7 (N x.cv) c7,G x.gz,U O x.start,S a8 (N x.fq) c8,S a9 (N x.fj) c9,S M (N x.fx) Y,S L (N x.fw) X]/\Below w.heap.size w wr) (λi _=>N x.types-(intOf i).toNat)
 case atStart=>exact⟨0,Kw _,rfl,λj h=>by omega,m,r⟩
 clear m r q0 q1 q3 q4 q5 q6;obtain⟨k,hk,rfl,d,m,r⟩:=hrel;have q0:=m.2.1 0 _ rfl;have q1:=m.2.1 1 _ rfl;have q3:=m.2.1 3 _ rfl;have q4:=m.2.1 4 _ rfl;have q5:=m.2.1 5 _ rfl;have q6:=m.2.1 6 _ rfl;by_cases g:k<N x.types
 . (have aw:(k:Int)<(N x.types:Int):=by omega);rcases R1.o.up (up_below r)with hx|⟨b,o,ea,_,F⟩
   . rw[hx]at g;simp at g
   have u:=F k g;have E:=(LL.o.1).2 k g;subst ea;obtain⟨y,B⟩:∃y,y=x.types.getD k Qc.z:=⟨_,rfl⟩;rw[<- B]at u E;obtain⟨e1,d1,e2,d2,⟨g0,g1⟩,C⟩:=u;have HC:=Hm (sft_c y e1 d1 e2 d2 wr C E);generalize hg:ftB y=gy at HC;(have q:Hid (ftB (x.types.getD k Qc.z)=gy):=by show _=_;rw[<- B];exact hg);have t:=Hm r;have BB:=Hm m;cases gy
   . (have p:Hid (gpB x=false):=by show _=_;rw[A.o,Jd ftB x.types Qc.z k g q.o];rfl);clear d F r m C B hg A q;(go_wp2_with fail);refine HC.o.mono ?_;rintro e w2 ⟨rfl,f⟩;have n:=t.o.trans (f.mono t.o.size);clear f;go_wp2;go_ret;exact⟨by rw[p.o];rfl,n⟩
   have R:Hid (∀j,j<k+1->ftB (x.types.getD j Qc.z)=true):=λj hj=>by
    rcases(by omega:j<k\/j=k)with h|h
    . exact d j h
    subst h;exact q.o
   clear d F r m C B hg q;(go_wp2_with fail);refine HC.o.mono ?_;rintro e w2 ⟨rfl,f⟩;have n:=t.o.trans (f.mono t.o.size);have v:=BB.o.keep f;clear f;go_wp2;(go_roundw);(case rel=>exact⟨k+1,by omega,by go_num,R.o,v,n⟩);case measure=>simp[intOf];omega
 have e:k=N x.types:=by omega
 subst e;have D:Hid (gpB x=(x.cj.all QP&&((x.cw++x.jz).all Jn&&(x.ck.all QY&&(x.cv.all Jr))))):=by show _=_;rw[A.o,JB ftB x.types Qc.z d,Tk]
 clear d A hk g;have A:=D;clear D;go_wp2_with fail
 go_loopw [4] (λi wr=>∃k:Nat,k<=N x.cj/\i=U O k/\(∀j,j<k->QP (x.cj.getD j Imp.z)=true)/\Bk wr w.heap.size [S a1 (N x.types) c1,S a2 (N x.cj) c2,S a3 (N x.jk) c3,S a4 (N x.cw) c4,S a5 (N x.jz) c5,S a6 (N x.ck) c6,S a7 (N x.cv) c7,G x.gz,U O x.start,S a8 (N x.fq) c8,S a9 (N x.fj) c9,S M (N x.fx) Y,S L (N x.fw) X]/\Below w.heap.size w wr) (λi _=>N x.cj-(intOf i).toNat)
 case atStart=>exact⟨0,Kw _,rfl,λj h=>by omega,m,r⟩
 clear m r q0 q1 q3 q4 q5 q6;obtain⟨k,hk,rfl,d,m,r⟩:=hrel;have q0:=m.2.1 0 _ rfl;have q1:=m.2.1 1 _ rfl;have q3:=m.2.1 3 _ rfl;have q4:=m.2.1 4 _ rfl;have q5:=m.2.1 5 _ rfl;have q6:=m.2.1 6 _ rfl;by_cases g:k<N x.cj
 . (have aw:(k:Int)<(N x.cj:Int):=by omega);rcases R2.o.up (up_below r)with hx|⟨b,o,ea,_,F⟩
   . rw[hx]at g;simp at g
   have u:=F k g;have E:=(LL.o.2.1).2 k g;subst ea;obtain⟨y,B⟩:∃y,y=x.cj.getD k Imp.z:=⟨_,rfl⟩;rw[<- B]at u E;obtain⟨⟨g0,g1,g2,g3,g4,g5,g6,g7,g8⟩,C⟩:=u;have HC:=Hm (simp_c y  wr C E);generalize hg:QP y=gy at HC;(have q:Hid (QP (x.cj.getD k Imp.z)=gy):=by show _=_;rw[<- B];exact hg);have t:=Hm r;have BB:=Hm m;cases gy
   . (have p:Hid (gpB x=false):=by show _=_;rw[A.o,Jd QP x.cj Imp.z k g q.o];rfl);clear d F r m C B hg A q;(go_wp2_with fail);refine HC.o.mono ?_;rintro e w2 ⟨rfl,f⟩;have n:=t.o.trans (f.mono t.o.size);clear f;go_wp2;go_ret;exact⟨by rw[p.o];rfl,n⟩
   have R:Hid (∀j,j<k+1->QP (x.cj.getD j Imp.z)=true):=λj hj=>by
    rcases(by omega:j<k\/j=k)with h|h
    . exact d j h
    subst h;exact q.o
   clear d F r m C B hg q;(go_wp2_with fail);refine HC.o.mono ?_;rintro e w2 ⟨rfl,f⟩;have n:=t.o.trans (f.mono t.o.size);have v:=BB.o.keep f;clear f;go_wp2;(go_roundw);(case rel=>exact⟨k+1,by omega,by go_num,R.o,v,n⟩);case measure=>simp[intOf];omega
 have e:k=N x.cj:=by omega
 subst e;have D:Hid (gpB x=((x.cw++x.jz).all Jn&&(x.ck.all QY&&(x.cv.all Jr)))):=by show _=_;rw[A.o,JB QP x.cj Imp.z d,Tk]
 clear d A hk g;have A:=D;clear D;go_upto_region 11 with fail
 obtain⟨i0,C,bs,br,bq⟩:=info_parts infoLim;have b7:=Hm (own_zeroL wr);have bd:Bk (wr.alloc (Fc #[] 175)) w.heap.size [S a1 (N x.types) c1,S a2 (N x.cj) c2,S a3 (N x.jk) c3,S a4 (N x.cw) c4,S a5 (N x.jz) c5,S a6 (N x.ck) c6,S a7 (N x.cv) c7,G x.gz,U O x.start,S a8 (N x.fq) c8,S a9 (N x.fj) c9,S M (N x.fx) Y,S L (N x.fw) X]:=m.past;have s3:=bd.2.1 3 _ rfl;have s4:=bd.2.1 4 _ rfl;clear bd;have b0:Below wr.heap.size wr ((wr.alloc (Fc #[] 175)).drew):=((Below.refl _ wr).alloc lRz _).drew;have N1:=Hm ((R4.o.up (up_below r)).src.on b0);have N2:=Hm ((R5.o.up (up_below r)).src);have B0:=Hm b0;have BB:=Hm m;have t:=Hm r;clear b0 m r;go_cut [5]from 37 (λs V=>∃a c,s=S a (x.cw++x.jz).length c/\Qd.Ls 0 V a (x.cw++x.jz)/\Bk V w.heap.size [S a1 (N x.types) c1,S a2 (N x.cj) c2,S a3 (N x.jk) c3,S a4 (N x.cw) c4,S a5 (N x.jz) c5,S a6 (N x.ck) c6,S a7 (N x.cv) c7,G x.gz,U O x.start,S a8 (N x.fq) c8,S a9 (N x.fj) c9,S M (N x.fx) Y,S L (N x.fw) X]/\Below w.heap.size w V)
 case first=>
  go_region_law (first
   | (
    refine JU rfl (.tmp 37) (.tmp 39) 40 rfl wr.heap.size 175 i0 (Ag #[U O 0,U O 0,G false]) 3 24 underLimS C bs br bq rfl (by decide) (S (some ⟨wr.heap.size,0,none⟩) 0 0) 0 [] (by simp[Tc,Hw]) b7.o a4 (N x.cw) c4 (LCs x.cw) (by simp[Tc,Hw]) (LCs_len _) N1.o (LCs_one _) (by simp[maxLen];omega) (by omega) (by simp) ?_
    intro v1 w1 bl b5
    have b1:=Hm (B0.o.grown b5 (by simp) (fun k hk=>by simp[Value.ownBlock]at hk;omega));have t1:w1.cell? ⟨w.heap.size,4,none⟩=some (S a5 (N x.jz) c5):=(BB.o.keep b1.o).2.1 4 _ rfl;have O1:=Hm bl;clear bl b5)
   | (
    refine JU rfl (.tmp 40) (.tmp 42) 40 rfl wr.heap.size 175 i0 (Ag #[U O 0,U O 0,G false]) 3 24 underLimS C bs br bq rfl (by decide) v1 (0+N x.cw) ([]++LCs x.cw) (by simp[Tc,Hw]) O1.o a5 (N x.jz) c5 (LCs x.jz) (by simp[Tc,Hw]) (LCs_len _) (N2.o.on b1.o) (LCs_one _) (by simp[maxLen];omega) (by omega) b1.o.size ?_
    intro v2 w2 bj b4
    have b2:=Hm (b1.o.grown b4 b1.o.size (own_ge O1.o));have O2:=Hm bj;clear bj b4))
  all_goals
   go_wp2_with fail
   go_meet
   obtain⟨a,c,e,hh⟩:=own_twoL O2.o
   exact⟨a,c,e,hh,BB.o.keep b2.o,t.o.trans (b2.o.mono t.o.size)⟩
 obtain⟨a,c,rfl,hh,m,r⟩:=hcut;clear b7 N1 N2 B0 BB t s3 s4 C bs br bq q0 q1 q3 q4 q5 q6;have dj:(x.cw++x.jz).length<=2097152:=by simp;omega
 generalize cg:x.cw++x.jz=l at *;have HH:=Hm hh;have BB:=Hm m;have t:=Hm r;clear hh m r cg;go_wp2_with fail
 go_loopw [6] (λi wr=>∃k:Nat,k<=N l/\i=U O k/\(∀j,j<k->Jn (l.getD j Qd.z)=true)/\Below wc.heap.size wc wr) (λi _=>N l-(intOf i).toNat)
 case atStart=>exact⟨0,Kw _,rfl,λj h=>by omega,bFz⟩
 obtain⟨k,hk,rfl,d,ac⟩:=hrel;by_cases g:k<N l
 . (have aw:(k:Int)<(N l:Int):=by omega);rcases HH.o.up (up_below ac)with hx|⟨b,o,ea,_,F⟩
   . rw[hx]at g;simp at g
   have u:=F k g;subst ea;obtain⟨y,B⟩:∃y,y=l.getD k Qd.z:=⟨_,rfl⟩;rw[<- B]at u;obtain⟨⟨g0,g1,g2⟩,C⟩:=u;have HC:=Hm (slim_c y wr);generalize hg:Jn y=gy at HC;(have q:Hid (Jn (l.getD k Qd.z)=gy):=by show _=_;rw[<- B];exact hg);have bh:=Hm ac;cases gy
   . (have p:Hid (gpB x=false):=by show _=_;rw[A.o,Jd Jn l Qd.z k g q.o];rfl);clear d F ac C B hg A q;(go_wp2_with fail);refine HC.o.mono ?_;rintro e w2 ⟨rfl,f⟩;have n:=t.o.trans ((bh.o.trans (f.mono bh.o.size)).mono t.o.size);clear f;go_wp2;go_ret;exact⟨by rw[p.o];rfl,n⟩
   have R:Hid (∀j,j<k+1->Jn (l.getD j Qd.z)=true):=λj hj=>by
    rcases(by omega:j<k\/j=k)with h|h
    . exact d j h
    subst h;exact q.o
   clear d F ac C B hg q;(go_wp2_with fail);refine HC.o.mono ?_;rintro e w2 ⟨rfl,f⟩;have n:=bh.o.trans (f.mono bh.o.size);clear f;go_wp2;(go_roundw);(case rel=>exact⟨k+1,by omega,by go_num,R.o,n⟩);case measure=>simp[intOf];omega
 have e:k=N l:=by omega
 subst e;have D:Hid (gpB x=(x.ck.all QY&&(x.cv.all Jr))):=by show _=_;rw[A.o,JB Jn l Qd.z d,Tk]
 have m:=BB.o.keep ac;have r:=t.o.trans (ac.mono t.o.size);clear d A hk g HH BB t ac;have A:=D;clear D;have q0:=m.2.1 0 _ rfl;have q1:=m.2.1 1 _ rfl;have q3:=m.2.1 3 _ rfl;have q4:=m.2.1 4 _ rfl;have q5:=m.2.1 5 _ rfl;have q6:=m.2.1 6 _ rfl;go_wp2_with fail
 go_loopw [7] (λi wr=>∃k:Nat,k<=N x.ck/\i=U O k/\(∀j,j<k->QY (x.ck.getD j Qm.z)=true)/\Bk wr w.heap.size [S a1 (N x.types) c1,S a2 (N x.cj) c2,S a3 (N x.jk) c3,S a4 (N x.cw) c4,S a5 (N x.jz) c5,S a6 (N x.ck) c6,S a7 (N x.cv) c7,G x.gz,U O x.start,S a8 (N x.fq) c8,S a9 (N x.fj) c9,S M (N x.fx) Y,S L (N x.fw) X]/\Below w.heap.size w wr) (λi _=>N x.ck-(intOf i).toNat)
 case atStart=>exact⟨0,Kw _,rfl,λj h=>by omega,m,r⟩
 clear m r q0 q1 q3 q4 q5 q6;obtain⟨k,hk,rfl,d,m,r⟩:=hrel;have q0:=m.2.1 0 _ rfl;have q1:=m.2.1 1 _ rfl;have q3:=m.2.1 3 _ rfl;have q4:=m.2.1 4 _ rfl;have q5:=m.2.1 5 _ rfl;have q6:=m.2.1 6 _ rfl;by_cases g:k<N x.ck
 . (have aw:(k:Int)<(N x.ck:Int):=by omega);rcases R6.o.up (up_below r)with hx|⟨b,o,ea,_,F⟩
   . rw[hx]at g;simp at g
   have u:=F k g;have E:=(LL.o.2.2.2.2.2.1).2 k g;have b3:=PP.o.1 k g;subst ea;obtain⟨y,B⟩:∃y,y=x.ck.getD k Qm.z:=⟨_,rfl⟩;rw[<- B]at u E b3;have t:=Hm r;have BB:=Hm m;obtain⟨e1,d1,⟨g0,g1,g2⟩,C⟩:=u;have HT:=Hm (ty_c y.ty.ty wr);have HC:=Hm (sclo e1 d1 y.ini wr E b3 C);generalize I:tyB y.ty.ty=t1 at HT;generalize H:QF y.ini=t2 at HC;(have q:Hid (QY (x.ck.getD k Qm.z)=(t1&&t2)):=by show _=_;rw[<- B];simp[QY,I,H]);cases t1
   . have q:Hid (QY (x.ck.getD k Qm.z)=false):=q.o;(have p:Hid (gpB x=false):=by show _=_;rw[A.o,Jd QY x.ck Qm.z k g q.o];rfl);clear d F r m C B I H A q HC;(go_wp2_with (go_at_call 186;with_reducible refine HT.o.mono ?_;rintro e w1 ⟨rfl,rfl⟩));go_ret;exact⟨by rw[p.o];rfl,t.o⟩
   cases t2
   . have q:Hid (QY (x.ck.getD k Qm.z)=false):=q.o;(have p:Hid (gpB x=false):=by show _=_;rw[A.o,Jd QY x.ck Qm.z k g q.o];rfl);clear d F r m C B I H A q;(go_wp2_with (go_at_call 186;with_reducible refine HT.o.mono ?_;rintro e w1 ⟨rfl,rfl⟩));refine HC.o.mono ?_;rintro e w2 ⟨rfl,f⟩;have n:=t.o.trans (f.mono t.o.size);clear f;go_wp2;go_ret;exact⟨by rw[p.o];rfl,n⟩
   have q:Hid (QY (x.ck.getD k Qm.z)=true):=q.o;have R:Hid (∀j,j<k+1->QY (x.ck.getD j Qm.z)=true):=λj hj=>by
    rcases(by omega:j<k\/j=k)with h|h
    . exact d j h
    subst h;exact q.o
   clear d F r m C B I H q;(go_wp2_with (go_at_call 186;with_reducible refine HT.o.mono ?_;rintro e w1 ⟨rfl,rfl⟩));refine HC.o.mono ?_;rintro e w2 ⟨rfl,f⟩;have n:=t.o.trans (f.mono t.o.size);have v:=BB.o.keep f;clear f;go_wp2;(go_roundw);(case rel=>exact⟨k+1,by omega,by go_num,R.o,v,n⟩);case measure=>simp[intOf];omega
 have e:k=N x.ck:=by omega
 subst e;have D:Hid (gpB x=(x.cv.all Jr)):=by show _=_;rw[A.o,JB QY x.ck Qm.z d,Tk]
 clear d A hk g;have A:=D;clear D;go_wp2_with fail
 go_loopw [8] (λi wr=>∃k:Nat,k<=N x.cv/\i=U O k/\(∀j,j<k->Jr (x.cv.getD j Exp.z)=true)/\Bk wr w.heap.size [S a1 (N x.types) c1,S a2 (N x.cj) c2,S a3 (N x.jk) c3,S a4 (N x.cw) c4,S a5 (N x.jz) c5,S a6 (N x.ck) c6,S a7 (N x.cv) c7,G x.gz,U O x.start,S a8 (N x.fq) c8,S a9 (N x.fj) c9,S M (N x.fx) Y,S L (N x.fw) X]/\Below w.heap.size w wr) (λi _=>N x.cv-(intOf i).toNat)
 case atStart=>exact⟨0,Kw _,rfl,λj h=>by omega,m,r⟩
 clear m r q0 q1 q3 q4 q5 q6;obtain⟨k,hk,rfl,d,m,r⟩:=hrel;have q0:=m.2.1 0 _ rfl;have q1:=m.2.1 1 _ rfl;have q3:=m.2.1 3 _ rfl;have q4:=m.2.1 4 _ rfl;have q5:=m.2.1 5 _ rfl;have q6:=m.2.1 6 _ rfl;by_cases g:k<N x.cv
 . (have aw:(k:Int)<(N x.cv:Int):=by omega);rcases R7.o.up (up_below r)with hx|⟨b,o,ea,_,F⟩
   . rw[hx]at g;simp at g
   have u:=F k g;have E:=(LL.o.2.2.2.2.2.2.1).2 k g;(skip);subst ea;obtain⟨y,B⟩:∃y,y=x.cv.getD k Exp.z:=⟨_,rfl⟩;rw[<- B]at u E;have t:=Hm r;have BB:=Hm m;have HX:=Hm u;obtain⟨⟨g0,g1,g2⟩,C⟩:=u;have HN:=Hm (sname_ok y.nm wr E);have HK:=Hm (l1In_c y.kind 0 3);have HU:=Hm (Ga y.ix);generalize I:Q3 y.nm=t1 at HN;generalize H:decide (0<=y.kind/\y.kind<=3)=t2 at HK;generalize ag:Qz y.ix=t3 at HU;(have q:Hid (Jr (x.cv.getD k Exp.z)=(t1&&t2&&t3)):=by show _=_;rw[<- B,Jr,kindB,I,H,ag]);cases t1
   . have q:Hid (Jr (x.cv.getD k Exp.z)=false):=q.o;(have p:Hid (gpB x=false):=by show _=_;rw[A.o,Jd Jr x.cv Exp.z k g q.o]);clear d F r m C B I H ag A q HK HU HX;(go_wp2_with fail);refine HN.o.mono ?_;rintro e w2 ⟨rfl,f⟩;have n:=t.o.trans (f.mono t.o.size);clear f;go_wp2;go_ret;exact⟨by rw[p.o];rfl,n⟩
   cases t2
   . have q:Hid (Jr (x.cv.getD k Exp.z)=false):=q.o;(have p:Hid (gpB x=false):=by show _=_;rw[A.o,Jd Jr x.cv Exp.z k g q.o]);clear d F r m C B I H ag A q HU;(go_wp2_with fail);refine HN.o.mono ?_;rintro e w2 ⟨rfl,f⟩;have n:=t.o.trans (f.mono t.o.size);have v:=BB.o.keep f;obtain⟨⟨g0,g1,g2⟩,C⟩:=HX.o.up (up_below f) (Kw _);have q6:=v.2.1 6 _ rfl;clear f v HX;(go_wp2_with (go_at_call 24;with_reducible refine(HK.o _).mono ?_;rintro e w1 ⟨rfl,rfl⟩));go_ret;exact⟨by rw[p.o];rfl,n⟩
   cases t3
   . have q:Hid (Jr (x.cv.getD k Exp.z)=false):=q.o;(have p:Hid (gpB x=false):=by show _=_;rw[A.o,Jd Jr x.cv Exp.z k g q.o]);clear d F r m C B I H ag A q;(go_wp2_with fail);refine HN.o.mono ?_;rintro e w2 ⟨rfl,f⟩;have n:=t.o.trans (f.mono t.o.size);have v:=BB.o.keep f;obtain⟨⟨g0,g1,g2⟩,C⟩:=HX.o.up (up_below f) (Kw _);have q6:=v.2.1 6 _ rfl;clear f v HX;(go_wp2_with (first|(go_at_call 24;with_reducible refine(HK.o _).mono ?_;rintro e w1 ⟨rfl,rfl⟩)|(go_at_call 126;with_reducible refine(HU.o _).mono ?_;rintro e w1 ⟨rfl,rfl⟩)));go_ret;exact⟨by rw[p.o];rfl,n⟩
   have q:Hid (Jr (x.cv.getD k Exp.z)=true):=q.o;have R:Hid (∀j,j<k+1->Jr (x.cv.getD j Exp.z)=true):=λj hj=>by
    rcases(by omega:j<k\/j=k)with h|h
    . exact d j h
    subst h;exact q.o
   clear d F r m C B I H ag q;(go_wp2_with fail);refine HN.o.mono ?_;rintro e w2 ⟨rfl,f⟩;have n:=t.o.trans (f.mono t.o.size);have v:=BB.o.keep f;obtain⟨⟨g0,g1,g2⟩,C⟩:=HX.o.up (up_below f) (Kw _);have q6:=v.2.1 6 _ rfl;have cn:=Hm v;clear f v HX;(go_wp2_with (first|(go_at_call 24;with_reducible refine(HK.o _).mono ?_;rintro e w1 ⟨rfl,rfl⟩)|(go_at_call 126;with_reducible refine(HU.o _).mono ?_;rintro e w1 ⟨rfl,rfl⟩)));(go_roundw);(case rel=>exact⟨k+1,by omega,by go_num,R.o,cn.o,n⟩);case measure=>simp[intOf];omega
 have e:k=N x.cv:=by omega
 subst e;have D:Hid (gpB x=true):=by show _=_;rw[A.o,JB Jr x.cv Exp.z d]
 clear d A hk g;go_wp2;go_ret;exact⟨by rw[D.o];rfl,r⟩
def Ju (k n:Nat):List Int:=(List.range n).map λi=>((k+i:Nat):Int)
theorem marks_len (k n:Nat):(Ju k n).length=n:=by simp[Ju]
theorem marks_at (k n i:Nat)(h:i<n):(Ju k n).getD i 0=(k:Int)+i:=by
 simp[Ju,Kx,h]
theorem held_any (a)(c n s:Nat)(w)(u:s<=1000000)(m:n<=1099511627776)(j:Has w a (Ju s n)):Ec Q 67 #[S a n c,U O s] w λe w'=>e=Z (U O ((s:Int)+n))/\w=w':=by
 by_cases f:n=0
 . subst f;clear j m;go_enter func67,ntmps67;go_wp2;refine wp_loop_rounds 1 ?_;rw[rounds_succ];go_wp2;go_ret;exact⟨by simp,rfl⟩
 have g:0<n:=by omega
 rcases j with h|⟨r,l,rfl,b⟩
 . have:=marks_len s n;rw[h]at this;simp at this;omega
 rw[marks_len]at b;have t:=Hm b;clear f b;go_enter func67,ntmps67;go_wp2;go_loop [1,5] (λq i=>∃k:Nat,k<=n/\i=U O k/\q=U O ((s:Int)+k)) (λ_ i=>n-(intOf i).toNat)
 case atStart=>exact⟨0,Kw _,rfl,by simp⟩
 obtain⟨k,v,rfl,rfl⟩:=hrel;by_cases d:k<n
 . (have y:w.cell? ⟨r,l+k,none⟩=some (U O ((s:Int)+k)):=by rw[t.o k d,marks_at s n k d]);(have p:(k:Int)<(n:Int):=by omega);go_wp2;(go_round);(case rel=>exact⟨k+1,by omega,by go_num,by go_num⟩);case measure=>simp[intOf];omega
 have e:k=n:=by omega
 subst e;go_wp2;go_ret;exact⟨rfl,rfl⟩
theorem own_split {n:Nat}{L:List Vu}(h:w.ownsRow B 2 1 v n L)(hn:1<=n):∃g cap,v=S (some ⟨g,0,none⟩) n cap/\B<=g/\g<w.heap.size:=by
 rcases h.2 with ⟨_,f⟩|⟨g,cap,d,a,c,b,_⟩
 . omega
 exact⟨g,cap,a,c,(Array.getElem?_eq_some_iff.1 b).1⟩
theorem marks_step (s k:Nat)(xs:List Int)(h:k<N xs):(I (Ju s k++xs.drop k)).set k (U O ((s:Int)+k))=I (Ju s (k+1)++xs.drop (k+1)):=by
 have e:Ju s (k+1)=Ju s k++[((s+k:Nat):Int)]:=by simp[Ju,List.range_succ]
 rw[e,Tw h];simp only[I,Tf,Hp,Kv,Lz,Hh];rw[Lv _ _ (by simp[Ju])];simp[Ju]
theorem own_len {n:Nat}{L:List Int}(h:w.ownsRow B 2 1 v n (I L)):N L=n:=by
 have:=h.1;simpa using this
theorem mark_any (B g n cap s:Nat)(xs:List Int)(w:J)(t:s<=1000000)(v:n<=1099511627776)(a:w.ownsRow B 2 1 (S (some ⟨g,0,none⟩) n cap) n (I xs)):Ec Q 59 #[S (some ⟨g,0,none⟩) n cap,U O s] w λe w'=>e=Z (U O ((s:Int)+n))/\w'.ownsRow B 2 1 (S (some ⟨g,0,none⟩) n cap) n (I (Ju s n))/\w.grownBy w' (some g):=by
 have d:=own_len a;go_enter func59,ntmps59;go_wp2;go_loopw [1,5] (λq i wr=>∃k:Nat,k<=n/\i=U O k/\q=U O ((s:Int)+k)/\wr.ownsRow B 2 1 (S (some ⟨g,0,none⟩) n cap) n (I (Ju s k++xs.drop k))/\w.grownBy wr (some g)) (λ_ i _=>n-(intOf i).toNat)
 case atStart=>exact⟨0,Kw _,rfl,by simp,by simpa[Ju]using a,World.grownBy.refl _ _⟩
 obtain⟨k,y,rfl,rfl,c,j⟩:=hrel;clear a;by_cases m:k<n
 . (have o:(k:Int)<(n:Int):=by omega);(have b:∃u,wr.cell? ⟨g,k,none⟩=some u:=by rw[c.cellAt k (by omega)];exact⟨_,Kj (by simp[Ju];omega)⟩);obtain⟨u,r⟩:=b;have p:=c.frozenAt k;obtain⟨f,l⟩:=c.stored k (U O ((s:Int)+k));rw[marks_step s k xs (by omega)]at f;have R:=And.intro f (XH j l);clear f l c j d;go_wp2;(go_roundw);(case rel=>exact⟨k+1,by omega,by go_num,by go_num,R.1,R.2⟩);case measure=>simp[intOf];omega
 have e:k=n:=by omega
 subst e;rw[Hz (by omega),Lg]at c;clear d;go_wp2;go_ret;exact⟨rfl,c,j⟩
theorem mark_nil (a:Option Ad)(cap s:Nat)(w:J):Ec Q 59 #[S a 0 cap,U O s] w λe w'=>e=Z (U O s)/\w=w':=by
 go_enter func59,ntmps59;go_wp2;refine wp_loop_rounds 1 ?_;rw[rounds_succ];go_wp2;go_ret;exact⟨rfl,rfl⟩
end YtaccbbndmmhenaaGreat
namespace YtaccbbndmmhenaaGreat.NF
open Go.RowKit Go.Sort
def unfro:Obj->Bool
 |Fc _ _ (lo,hi)=>lo==0&&hi==0
 |_=>false
structure Below (B:Nat)(w w':J):Prop where
 to:Go.RowKit.Below B w w'
 nz:∀a,w'.frozen? a=true->w.frozen? a=true
theorem Below.size {B w w'}(h:Below B w w'):w.heap.size<=w'.heap.size:=h.to.size
theorem Below.block {B w w'}(h:Below B w w'):∀k,k<B->w'.heap[k]?=w.heap[k]?:=h.to.block
theorem Below.cell {B w w'}(h:Below B w w'){p:Ad}(hp:p.block<B):w'.cell? p=w.cell? p:=h.to.cell hp
theorem Below.frozen {B w w'}(h:Below B w w'){p:Ad}(hp:p.block<B):w'.frozen? p=w.frozen? p:=h.to.frozen hp
theorem Below.refl (B:Nat)(w:J):Below B w w:=⟨Go.RowKit.Below.refl _ _,λ_ h=>h⟩
theorem Below.trans {B a b c}(h:Below B a b)(k:Below B b c):Below B a c:=⟨h.to.trans k.to,λp hp=>h.nz p (k.nz p hp)⟩
theorem Below.mono {B a:Nat}{w w'}(h:Below B w w')(b:a<=B):Below a w w':=⟨h.to.mono b,h.nz⟩
theorem Below.setCell {B w w'}(h:Below B w w'){p:Ad}(hp:B<=p.block)(v:Vu):Below B w (w'.setCell p v):=⟨h.to.setCell hp v,λa ha=>h.nz a (by rwa [Kb]at ha)⟩
theorem Below.alloc {B w w'}(h:Below B w w')(g:B<=w'.heap.size)(o:Obj)(d:unfro o=true:=by rfl):Below B w (w'.alloc o):=by
 refine⟨h.to.alloc g o,λa ha=>h.nz a ?_⟩;by_cases e:a.block=w'.heap.size
 . exfalso;(have f:(w'.alloc o).heap[a.block]?=some o:=by rw[e];exact heap_new w' o);unfold Pz at ha;rw[f]at ha;cases o with
   |cells c t r =>
    obtain⟨j,k⟩:=r
    simp only[unfro,Bool.and_eq_true,beq_iff_eq]at d
    obtain⟨rfl,rfl⟩:=d
    simp at ha
   |_=>simp[unfro]at d
 have f:(w'.alloc o).heap[a.block]?=w'.heap[a.block]?:=by
  show(w'.heap.push o)[a.block]?=_;rcases Lc a.block w'.heap.size with b|b
  . rw[Array.getElem?_push_lt b,Array.getElem?_eq_getElem b]
  rw[Lp (by simp;omega),Lp b]
 unfold Pz at ha⊢;rwa [f]at ha
theorem Below.heap_setCell (w:J)(p:Ad)(v:Vu)(k:Nat)(h:k≠p.block):(w.setCell p v).heap[k]?=w.heap[k]?:=Go.RowKit.Below.heap_setCell w p v k h
theorem up_below {B:Nat}{w w'}(h:Below w.heap.size w w'):Up B w w':=Go.Proofs.YtaccbbndmmhenaaGreat.up_below h.to
theorem toI_c (a)(c:Nat)(xs:List Int)(w)(hn:N xs<=1048576)(v:Has w a xs):Ec Q 32 #[S a (N xs) c] w λe w'=>e=Z (S (some ⟨w.heap.size,0,none⟩) (N xs) (N xs))/\w'.ownsRow w.heap.size 2 1 (S (some ⟨w.heap.size,0,none⟩) (N xs) (N xs)) (N xs) (I xs)/\Below w.heap.size w w':=by
 have r:=run_make_row' (P:=Q) 24 2 (U O 0) 8 underlying24 info2 rfl O O (N xs) (by omega) (by omega);have z:=Hm v;clear v;have m:(w.alloc (Fc (madeCells #[U O 0] (N xs)) 2)).ownsRow w.heap.size 2 1 (S (some ⟨w.heap.size,0,none⟩) (N xs) (N xs)) (N xs) (I (xs.take 0++(Td (N xs) 0).drop 0)):=by
  have:=Hk (base:=w.heap.size) (e:=2) (size:=1) w (madeCells #[U O 0] (N xs)) (N xs) lRz (by unfold maxLen;omega) (by simp[madeCells]);have e:(madeCells #[U O 0] (N xs)).toList=I (xs.take 0++(Td (N xs) 0).drop 0):=by
   apply Em;intro i;by_cases t:i<N xs
   . simp[madeCells,t,Nat.mod_one]
   simp[madeCells,t]
  rw[e]at this;exact this
 have y:=Hm m;clear m;go_enter func32,ntmps32;go_wp2;go_loopw [4] (λi wr=>∃k:Nat,k<=N xs/\i=U O k/\wr.ownsRow w.heap.size 2 1 (S (some ⟨w.heap.size,0,none⟩) (N xs) (N xs)) (N xs) (I (xs.take k++(Td (N xs) 0).drop k))/\Below w.heap.size w wr) (λi _=>N xs-(intOf i).toNat)
 case atStart=>exact⟨0,Kw _,rfl,y.o,(Below.refl _ _).alloc lRz _⟩
 obtain⟨k,F,rfl,l,n⟩:=hrel;clear y r;by_cases f:k<N xs
 . (have B:(k:Int)<(N xs:Int):=by omega);rcases z.o with j|⟨b,o,D,s⟩
   . subst j;simp at f
   have d:wr.cell? ⟨b,o+k,none⟩=some (U O (xs.getD k 0)):=(n.cell (p:=⟨b,o+k,none⟩) (Kk w _ (s k f))).trans (s k f);subst D;(have g:∃u,wr.cell? ⟨w.heap.size,k,none⟩=some u:=by rw[l.cellAt k (by omega)];exact⟨_,Kj (by simp;omega)⟩);obtain⟨u,E⟩:=g;have C:=l.frozenAt k;obtain⟨x,j⟩:∃x,x=xs.getD k 0:=⟨_,rfl⟩;obtain⟨q,A⟩:=l.stored k (U O x);rw[j,copy_step k xs f,<- j]at q;rw[<- j]at d;have R:=And.intro q (n.setCell (p:=⟨w.heap.size,k,none⟩) lRz (U O x));clear q A l n s j z;go_wp2;(go_roundw);(case rel=>exact⟨k+1,by omega,by go_num,R.1,R.2⟩);case measure=>simp[intOf];omega
 have e:k=N xs:=by omega
 subst e;rw[Kh,Hz (by simp),Lg]at l;go_wp2;go_ret;exact⟨rfl,l,n⟩
abbrev U8 (xs:List Int):List Vu:=xs.map λx=>Value.int .u8 x
theorem info5:(Q.info? 5).map (λi=>(i.zero,i.size,i.bytes))=some (some (U .u8 0),1,1):=by kernel_rfl
theorem copyB_step (k:Nat)(xs:List Int)(h:k<N xs):(U8 (xs.take k++(Td (N xs) 0).drop k)).set k (U .u8 (xs.getD k 0))=U8 (xs.take (k+1)++(Td (N xs) 0).drop (k+1)):=by
 have hd:(Td (N xs) (0:Int)).drop k=0::(Td (N xs) (0:Int)).drop (k+1):=by rw[Tw (by simpa using h)];simp
 have a:xs.take (k+1)=xs.take k++[xs.getD k 0]:=by rw[List.take_succ_eq_append_getElem h];simp[Kx,h]
 rw[hd,a];simp only[U8,Tf,Hp,Kv,Lz,Hh,List.map_nil];rw[Lv _ _ (by simp;omega)];simp[Nat.min_eq_left (Nat.le_of_lt h)]
theorem toB_c (a)(c:Nat)(xs:List Int)(w)(hn:N xs<=1048576)(v:HI .u8 0 w a xs):Ec Q 150 #[S a (N xs) c] w λe w'=>e=Z (S (some ⟨w.heap.size,0,none⟩) (N xs) (N xs))/\w'.ownsRow w.heap.size 5 1 (S (some ⟨w.heap.size,0,none⟩) (N xs) (N xs)) (N xs) (U8 xs)/\Below w.heap.size w w':=by
 have r:=run_make_row' (P:=Q) 160 5 (U .u8 0) 1 underlying160 info5 rfl O O (N xs) (by omega) (by omega);have z:=Hm v;clear v;have m:(w.alloc (Fc (madeCells #[U .u8 0] (N xs)) 5)).ownsRow w.heap.size 5 1 (S (some ⟨w.heap.size,0,none⟩) (N xs) (N xs)) (N xs) (U8 (xs.take 0++(Td (N xs) 0).drop 0)):=by
  have:=Hk (base:=w.heap.size) (e:=5) (size:=1) w (madeCells #[U .u8 0] (N xs)) (N xs) lRz (by unfold maxLen;omega) (by simp[madeCells]);have e:(madeCells #[U .u8 0] (N xs)).toList=U8 (xs.take 0++(Td (N xs) 0).drop 0):=by
   apply Em;intro i;by_cases t:i<N xs
   . simp[madeCells,t,Nat.mod_one]
   simp[madeCells,t]
  rw[e]at this;exact this
 have y:=Hm m;clear m;go_enter func150,ntmps150;go_wp2;go_loopw [4] (λi wr=>∃k:Nat,k<=N xs/\i=U O k/\wr.ownsRow w.heap.size 5 1 (S (some ⟨w.heap.size,0,none⟩) (N xs) (N xs)) (N xs) (U8 (xs.take k++(Td (N xs) 0).drop k))/\Below w.heap.size w wr) (λi _=>N xs-(intOf i).toNat)
 case atStart=>exact⟨0,Kw _,rfl,y.o,(Below.refl _ _).alloc lRz _⟩
 obtain⟨k,F,rfl,l,n⟩:=hrel;clear y r;by_cases f:k<N xs
 . (have B:(k:Int)<(N xs:Int):=by omega);rcases z.o with j|⟨b,o,D,_,s⟩
   . subst j;simp at f
   have d:wr.cell? ⟨b,o+k,none⟩=some (U .u8 (xs.getD k 0)):=(n.cell (p:=⟨b,o+k,none⟩) (Kk w _ (s k f))).trans (s k f);subst D;(have g:∃u,wr.cell? ⟨w.heap.size,k,none⟩=some u:=by rw[l.cellAt k (by omega)];exact⟨_,Kj (by simp;omega)⟩);obtain⟨u,E⟩:=g;have C:=l.frozenAt k;obtain⟨x,j⟩:∃x,x=xs.getD k 0:=⟨_,rfl⟩;obtain⟨q,A⟩:=l.stored k (U .u8 x);rw[j,copyB_step k xs f,<- j]at q;rw[<- j]at d;have R:=And.intro q (n.setCell (p:=⟨w.heap.size,k,none⟩) lRz (U .u8 x));clear q A l n s j z;go_wp2;(go_roundw);(case rel=>exact⟨k+1,by omega,by go_num,R.1,R.2⟩);case measure=>simp[intOf];omega
 have e:k=N xs:=by omega
 subst e;rw[Kh,Hz (by simp),Lg]at l;go_wp2;go_ret;exact⟨rfl,l,n⟩
theorem rtInts_c (a)(c:Nat)(xs:List Int)(w)(hn:N xs<=1048576)(b:HI O 0 w a xs) :
    Ec Q 32 #[S a (N xs) c] w λe w'=>e=Z (S (some ⟨w.heap.size,0,none⟩) (N xs) (N xs))/\HI O w.heap.size w' (some ⟨w.heap.size,0,none⟩) xs/\Below w.heap.size w w' :=
 (toI_c a c xs w hn b.has).mono λe w' ⟨h1,h2,h3⟩=>⟨h1,.inr ⟨_,_,rfl,lRz,λi hi=>by rw[Tx,h2.cellAt i (by omega)];simp[Kx,hi]⟩,h3⟩
theorem rtBytes_c (a)(c:Nat)(xs:List Int)(w)(hn:N xs<=1048576)(b:HI .u8 0 w a xs) :
    Ec Q 150 #[S a (N xs) c] w λe w'=>e=Z (S (some ⟨w.heap.size,0,none⟩) (N xs) (N xs))/\HI .u8 w.heap.size w' (some ⟨w.heap.size,0,none⟩) xs/\Below w.heap.size w w' :=
 (toB_c a c xs w hn b).mono λe w' ⟨h1,h2,h3⟩=>⟨h1,.inr ⟨_,_,rfl,lRz,λi hi=>by rw[Tx,h2.cellAt i (by omega)];simp[Kx,hi]⟩,h3⟩
def Bk (W:J)(g:Nat)(cs:List Vu):Prop:=g<W.heap.size/\(∀j v,cs[j]?=some v->W.cell? ⟨g,j,none⟩=some v)/\∀j,W.frozen? ⟨g,j,none⟩=false
theorem Bk.keep {W W' g cs}(h:Bk W g cs)(a:Below W.heap.size W W'):Bk W' g cs :=
 ⟨Nat.lt_of_lt_of_le h.1 a.size,λj v hj=>(a.cell (p:=⟨g,j,none⟩) h.1).trans (h.2.1 j v hj),λj=>(a.frozen (p:=⟨g,j,none⟩) h.1).trans (h.2.2 j)⟩
theorem Bk.set {W}{g j:Nat}{v:Vu}{cs}(h:Bk W g cs):Bk (W.setCell ⟨g,j,none⟩ v) g (cs.set j v):=by
 refine⟨by simpa using h.1,λi u hi=>?_,λi=>by rw[Kb];exact h.2.2 i⟩;by_cases e:j=i
 . subst e;have b:j<N cs:=by
    rcases Lc j (N cs)with a|a
    . exact a
    rw[List.getElem?_eq_none (by simpa using a)]at hi;cases hi
   rw[List.getElem?_set_self b]at hi;cases hi;exact QS (h.2.1 j _ (Kj b))
 rw[List.getElem?_set_ne e]at hi;exact QE (h.2.1 i u hi) e
end YtaccbbndmmhenaaGreat.NF
namespace YtaccbbndmmhenaaGreat.NF.Va
open Go.Proofs.YtaccbbndmmhenaaGreat.Va Go.RowKit Go.Sort
variable {w W:J}{xs:List Cod}{cs:List Vu}{n g t B:Nat}{u:Vu}
structure Mo (D:Nat)(w0:J)(rs:List Qb)(V:J):Prop where
 own:Own D V rs
 b:Below D w0 V
 le:D<=V.heap.size
section
variable {D:Nat}{w0 V W:J}{rs rs':List Qb}
theorem Mo.va (h:Mo D w0 rs V):Go.Proofs.YtaccbbndmmhenaaGreat.Va.Mo D w0 rs V:=⟨h.own,h.b.to,h.le⟩
theorem Mo.perm (h:Mo D w0 rs V)(p:rs.Perm rs'):Mo D w0 rs' V:=⟨h.own.perm p,h.b,h.le⟩
theorem Mo.keep (h:Mo D w0 rs V)(a:Below V.heap.size V W):Mo D w0 rs W:=⟨h.own.keep a.to,h.b.trans (a.mono h.le),Kq h.le a.size⟩
theorem Mo.tail {r:Qb}(h:Mo D w0 (r::rs) V):Mo D w0 rs V:=⟨h.own.tail,h.b,h.le⟩
theorem Mo.set {T sz c:Nat}(h:Mo D w0 (⟨T,sz,n,S (some ⟨g,0,none⟩) n c,cs⟩::rs) V)(j:Nat)(u:Vu):Mo D w0 (⟨T,sz,n,S (some ⟨g,0,none⟩) n c,cs.set j u⟩::rs) (V.setCell ⟨g,j,none⟩ u) :=
 ⟨(h.va.set j u).own,h.b.setCell (World.ownsRow.lt (show V.ownsRow D T sz (S (some ⟨g,0,none⟩) n c) n cs from h.own.head) g rfl).1 u,(h.va.set j u).le⟩
theorem Mo.bx (h:Mo D w0 rs V)(a:Go.Proofs.YtaccbbndmmhenaaGreat.Va.box t n g cs∈rs)(j:Nat)(b:j<n:=by omega)(hu:cs[j]?=some u:=by exact rfl):V.cell? ⟨g,j,none⟩=some u/\V.frozen? ⟨g,j,none⟩=false:=h.va.bx a j b hu
theorem Mo.b0 (h:Mo D w0 (Go.Proofs.YtaccbbndmmhenaaGreat.Va.box t n g cs::rs) V)(j:Nat)(a:j<n:=by omega)(hu:cs[j]?=some u:=by exact rfl):V.cell? ⟨g,j,none⟩=some u/\V.frozen? ⟨g,j,none⟩=false:=h.va.b0 j a hu
theorem Mo.box {cur:Array Vu}(h:Mo D w0 rs V)(e n:Nat)(hn:cur.size=n):Mo D w0 (Go.Proofs.YtaccbbndmmhenaaGreat.Va.box e n V.heap.size cur.toList::rs) (V.alloc (Fc cur e)):=⟨(h.va.box e n hn).own,h.b.alloc h.le _,(h.va.box e n hn).le⟩
end
def Cl (W:J)(g o:Nat)(cs:List Vu):Prop:=∀j u,cs[j]?=some u->W.cell? ⟨g,o+j,none⟩=some u
def setL (W:J)(g o:Nat):List Vu->J
 |[]=>W
 |u::us=>setL (W.setCell ⟨g,o,none⟩ u) g (o+1) us
theorem XA (a:g<B):∀(cs:List Vu) (W:J) (o:Nat),Up B W (setL W g o cs)
 |[],W,o=>λ_ _ _=>rfl
 |u::us,W,o=>(Q8 a).size_trans (XA a us _ (o+1)) (by simp)
theorem setL_below {D:Nat}(a:D<=g):∀(cs:List Vu) {W:J} (o:Nat),Below D w W->Below D w (setL W g o cs)
 |[],W,o,h=>h
 |u::us,W,o,h=>setL_below a us (o+1) (h.setCell a _)
theorem setL_off {i:Nat}{x:Vu}:∀(cs:List Vu) {W:J} (o:Nat),(i<o\/o+N cs<=i)->W.cell? ⟨g,i,none⟩=some x->(setL W g o cs).cell? ⟨g,i,none⟩=some x
 |[],W,o,_,h=>h
 |u::us,W,o,hi,h=>setL_off us (o+1) (by simp at hi;omega) (QE h (by simp at hi;omega))
theorem setL_same:∀(cs:List Vu) {W:J} (o:Nat),(∀j,j<N cs->∃u,W.cell? ⟨g,o+j,none⟩=some u)->Cl (setL W g o cs) g o cs
 |[],W,o,_,j,u,h=>by simp at h
 |u::us,W,o,he,j,v,h=>by
  obtain⟨d,c⟩:=he 0 (by simp)
  cases j with
  |zero=>cases h;exact setL_off us (o+1) (.inl (by omega)) (QS c)
  |succ j =>
   have:=setL_same us (W:=W.setCell ⟨g,o,none⟩ u) (o+1) (fun i hi=>by
    obtain⟨a,b⟩:=he (i+1) (by simpa using hi)
    exact⟨a,QE (by rw[show o+1+i=o+(i+1) by omega];exact b) (by omega)⟩) j v (by simpa using h)
   rw[show o+(j+1)=o+1+j by omega]
   exact this
theorem setL_blk:∀(cs:List Vu) {W:J} (o:Nat),(∃cur,W.heap[g]?=some (Fc cur t (0,0))/\cur.size=n)->∃cur,(setL W g o cs).heap[g]?=some (Fc cur t (0,0))/\cur.size=n
 |[],W,o,h=>h
 | u::us,W,o,⟨cur,e,hc⟩=>setL_blk us (o+1) ⟨cur.setIfInBounds o u,by
     simp only[World.setCell,Array.getElem?_modify,if_true,e,Option.map_some];rfl,by simpa using hc⟩
structure Cp {R:Type}(P:Nat->J->R->List Vu->Prop)(z:R)(sz t:Nat)(w:J)(g n k:Nat)(xs:List R)(W:J):Prop where
 blk:∃cur,W.heap[g]?=some (Fc cur t (0,0))/\cur.size=n*sz
 done:∀i,i<k->∃cs,N cs=sz/\Cl W g (i*sz) cs/\P (g+1) W (xs.getD i z) cs
 bel:Below w.heap.size w W
 ge:w.heap.size<=g
section
variable {R:Type}{P:Nat->J->R->List Vu->Prop}{z:R}{sz t:Nat}{w W W1:J}{g n k:Nat}{xs:List R}
theorem Cp.start {a:Array Vu}(b:(madeCells a (n*sz)).size=n*sz):Cp P z sz t w w.heap.size n 0 xs (w.alloc (Fc (madeCells a (n*sz)) t)):=⟨⟨_,heap_new _ _,b⟩,λi hi=>by omega,(Below.refl _ _).alloc lRz _,lRz⟩
theorem Cp.cells (h:Cp P z sz t w g n k xs W):g<W.heap.size/\(∀j,j<n*sz->∃u,W.cell? ⟨g,j,none⟩=some u)/\∀j,W.frozen? ⟨g,j,none⟩=false:=by
 obtain⟨a,e,d⟩:=h.blk;have c:g<W.heap.size:=by
  rcases Lc g W.heap.size with b|b
  . exact b
  rw[Lp b]at e;cases e
 refine⟨c,λj hj=>?_,λj=>?_⟩
 . simp only[World.cell?,e];exact⟨a[j]'(by omega),by simp[show j<a.size by omega]⟩
 simp only[Pz,e];simp
theorem Cp.keep (f:∀B w w' x cs,P B w x cs->Up B w w'->P B w' x cs)(h:Cp P z sz t w g n k xs W)(a:Below W.heap.size W W1):Cp P z sz t w g n k xs W1:=by
 obtain⟨b,e,d⟩:=h.blk;have c:=h.cells.1;refine⟨⟨b,(a.block g c).trans e,d⟩,λi hi=>?_,h.bel.trans (a.mono h.bel.size),h.ge⟩;obtain⟨cs,o,m,l⟩:=h.done i hi;exact⟨cs,o,λj u hu=>(a.cell (p:=⟨g,i*sz+j,none⟩) c).trans (m j u hu),f _ _ _ _ _ l (up_below a)⟩
theorem Cp.step (c:∀B w w' x cs,P B w x cs->Up B w w'->P B w' x cs)(h:Cp P z sz t w g n k xs W)(m:k<n)(cs:List Vu)(p:N cs=sz)(f:P (g+1) W (xs.getD k z) cs):Cp P z sz t w g n (k+1) xs (setL W g (k*sz) cs):=by
 obtain⟨v,b,_⟩:=h.cells;have l:k*sz+sz<=n*sz:=by rw[<- Nat.succ_mul];exact Mz _ m
 refine⟨setL_blk cs _ h.blk,λi hi=>?_,setL_below h.ge cs _ h.bel,h.ge⟩;by_cases a:i=k
 . subst a;exact⟨cs,p,setL_same cs _ (λj o=>b _ (by omega)),c _ _ _ _ _ f (XA (Mg g) cs _ _)⟩
 obtain⟨s,d,r,q⟩:=h.done i (by omega);refine⟨s,d,λj u hu=>setL_off cs _ (.inl ?_) (r j u hu),c _ _ _ _ _ q (XA (Mg g) cs _ _)⟩;have o:j<sz:=by rw[<- d];exact(List.getElem?_eq_some_iff.1 hu).1
 have:i*sz+sz<=k*sz:=by rw[<- Nat.succ_mul];exact Mz _ (by omega)
 omega
theorem XT {P:Program}{d e a:Nat}{j:Array Vu}(l:P.underlying d=some (.slice e))(q:(P.info? e).map (λi=>(i.zero,i.size,i.bytes))=some (some (Ag j),sz,a))(g:a<=1024)(n:Nat)(hn:n<=1048576)(w:J):(Instr.makeSlice d (U O (n:Int)) (U O (n:Int))).run P w=.ok (S (some ⟨w.heap.size,0,none⟩) n n) (w.alloc (Fc (madeCells j (n*sz)) e)):=by
 obtain⟨i,o,b⟩:=Option.map_eq_some_iff.1 q;simp only[Prod.mk.injEq]at b;obtain⟨k,m,p⟩:=b;have r:n*a<=1048576*1024:=Nat.mul_le_mul hn g;have c:((n*a:Nat):Int)<=1073741824:=by omega
 rw[Int.natCast_mul]at c;have f:=c;rw[Int.mul_comm]at f;have:=run_make (P:=P) w d e i _ l o k O O n n (by omega) (by omega) (by rw[p];omega) (by omega);rw[m]at this;simpa[Value.cells]using this
end
theorem bgen {P:Program}{b:Func}{d:Ending->J->Prop}{c:Exit}{a:Act}{w0:J}(R:J->Prop)(f:R w0)(h:∀W,R W->bodyPost P b d c a W):bodyPost P b d c a w0:=h w0 f
theorem upS {j:Nat}{V W}(a:Below V.heap.size V W)(b:g<B):Up B V (W.setCell ⟨g,j,none⟩ u):=(up_below a).size_trans (Q8 b) a.size
theorem upT {B V W X}(h:Up B V W)(a:V.heap.size<=W.heap.size)(k:Up B W X):Up B V X:=h.size_trans k a
theorem toLimits_c (x:Qd)(w:J)(t:Qd.Is 0 w x )(s:Qd.LB 1048576 x):Ec Q 93 #[Ag #[U O x.min,U O x.max,G x.has]] w λe w'=>e=Z (Ag #[U O x.min,U O x.max,G x.has])/\Qd.Is w.heap.size w' x /\Below w.heap.size w w':=by
 obtain⟨q,k⟩:∃q,q=w.heap.size:=⟨_,rfl⟩;obtain⟨m,f⟩:∃V,V=((w.alloc (Fc #[U O x.min,U O x.max,G x.has] 140)).alloc (Fc #[U O 0,U O 0,G false] 175)).alloc (Fc #[U O 0,U O 0,G false] 175):=⟨_,rfl⟩;have c:Mo w.heap.size w [box 175 3 (q+2) [U O 0,U O 0,G false],box 175 3 (q+1) [U O 0,U O 0,G false],box 140 3 q [U O x.min,U O x.max,G x.has]] m:=by have u:Mo w.heap.size w [] w:=⟨Own.nil _ _,Below.refl _ _,lRz⟩;have:=((u.box (cur:=#[U O x.min,U O x.max,G x.has]) 140 3 rfl).box (cur:=#[U O 0,U O 0,G false]) 175 3 rfl).box (cur:=#[U O 0,U O 0,G false]) 175 3 rfl;rw[f,k];simpa using this
 clear t s;go_enter func93,ntmps93;go_upto_region 2 with fail
 rw[<- f,<- k];clear f k;have d:=(c.tail.tail.b0 0).1;obtain⟨z,y⟩:=c.b0 0;obtain⟨B,f⟩:∃V,V=m.setCell ⟨q+2,0,none⟩ (U O x.min):=⟨_,rfl⟩;have a:=c.set 0 (U O x.min);rw[<- f]at a;go_upto_region 3 with fail
 rw[<- f];clear f c d z y;have c:=a;clear a;have d:=(c.tail.tail.b0 1).1;obtain⟨z,y⟩:=c.b0 1;obtain⟨A,f⟩:∃V,V=B.setCell ⟨q+2,1,none⟩ (U O x.max):=⟨_,rfl⟩;have a:=c.set 1 (U O x.max);rw[<- f]at a;go_upto_region 4 with fail
 rw[<- f];clear f c d z y;have c:=a;clear a;have d:=(c.tail.tail.b0 2).1;obtain⟨z,y⟩:=c.b0 2;obtain⟨Y,f⟩:∃V,V=A.setCell ⟨q+2,2,none⟩ (G x.has):=⟨_,rfl⟩;have a:=c.set 2 (G x.has);rw[<- f]at a;go_upto_region 5 with fail
 rw[<- f];clear f c d z y;have c:=a;clear a;have g:=c.perm (Kf _ _ _);have X:=(c.b0 0).1;obtain⟨F,L⟩:=g.b0 0;have R:=(c.b0 1).1;obtain⟨E,I⟩:=g.b0 1;have M:=(c.b0 2).1;obtain⟨D,H⟩:=g.b0 2;have C:=Hm (((g.set 0 (U O x.min)).set 1 (U O x.max)).set 2 (G x.has));clear g c;go_wp2;refine bgen (λl=>Mo w.heap.size w [box 175 3 (q+1) [U O x.min,U O x.max,G x.has],box 175 3 (q+2) [U O x.min,U O x.max,G x.has],box 140 3 q [U O x.min,U O x.max,G x.has]] l) C.o ?_;intro l j;have r:=(j.b0 0).1;have p:=(j.b0 1).1;have n:=(j.b0 2).1;exact bodyPost_ret (v:=Ag #[U O x.min,U O x.max,G x.has]) (by simp[results,results93,go_sem,r,p,n]) rfl ⟨rfl,trivial,j.b⟩
theorem toGType_c (x:Qx)(w:J)(s:Qx.Is 0 w x )(r:Qx.LB 1048576 x):Ec Q 147 #[Ag #[U O x.ty,G x.mu]] w λe w'=>e=Z (Ag #[U O x.ty,G x.mu])/\Qx.Is w.heap.size w' x /\Below w.heap.size w w':=by
 obtain⟨q,k⟩:∃q,q=w.heap.size:=⟨_,rfl⟩;obtain⟨m,f⟩:∃V,V=((w.alloc (Fc #[U O x.ty,G x.mu] 142)).alloc (Fc #[U O 0,G false] 176)).alloc (Fc #[U O 0,G false] 176):=⟨_,rfl⟩;have c:Mo w.heap.size w [box 176 2 (q+2) [U O 0,G false],box 176 2 (q+1) [U O 0,G false],box 142 2 q [U O x.ty,G x.mu]] m:=by have t:Mo w.heap.size w [] w:=⟨Own.nil _ _,Below.refl _ _,lRz⟩;have:=((t.box (cur:=#[U O x.ty,G x.mu]) 142 2 rfl).box (cur:=#[U O 0,G false]) 176 2 rfl).box (cur:=#[U O 0,G false]) 176 2 rfl;rw[f,k];simpa using this
 clear s r;go_enter func147,ntmps147;go_upto_region 2 with fail
 rw[<- f,<- k];clear f k;have d:=(c.tail.tail.b0 0).1;obtain⟨z,y⟩:=c.b0 0;obtain⟨u,f⟩:∃V,V=m.setCell ⟨q+2,0,none⟩ (U O x.ty):=⟨_,rfl⟩;have a:=c.set 0 (U O x.ty);rw[<- f]at a;go_upto_region 3 with fail
 rw[<- f];clear f c d z y;have c:=a;clear a;have d:=(c.tail.tail.b0 1).1;obtain⟨z,y⟩:=c.b0 1;obtain⟨I,f⟩:∃V,V=u.setCell ⟨q+2,1,none⟩ (G x.mu):=⟨_,rfl⟩;have a:=c.set 1 (G x.mu);rw[<- f]at a;go_upto_region 4 with fail
 rw[<- f];clear f c d z y;have c:=a;clear a;have g:=c.perm (Kf _ _ _);have H:=(c.b0 0).1;obtain⟨C,E⟩:=g.b0 0;have F:=(c.b0 1).1;obtain⟨B,D⟩:=g.b0 1;have A:=Hm ((g.set 0 (U O x.ty)).set 1 (G x.mu));clear g c;go_wp2;refine bgen (λl=>Mo w.heap.size w [box 176 2 (q+1) [U O x.ty,G x.mu],box 176 2 (q+2) [U O x.ty,G x.mu],box 142 2 q [U O x.ty,G x.mu]] l) A.o ?_;intro l j;have p:=(j.b0 0).1;have n:=(j.b0 1).1;exact bodyPost_ret (v:=Ag #[U O x.ty,G x.mu]) (by simp[results,results147,go_sem,p,n]) rfl ⟨rfl,trivial,j.b⟩
theorem toGrp_c (x:Grp)(w:J)(t:Grp.Is 0 w x )(s:Grp.LB 1048576 x):Ec Q 201 #[Ag #[U O x.n,U O x.ty]] w λe w'=>e=Z (Ag #[U O x.n,U O x.ty])/\Grp.Is w.heap.size w' x /\Below w.heap.size w w':=by
 obtain⟨q,k⟩:∃q,q=w.heap.size:=⟨_,rfl⟩;obtain⟨m,f⟩:∃V,V=((w.alloc (Fc #[U O x.n,U O x.ty] 301)).alloc (Fc #[U O 0,U O 0] 172)).alloc (Fc #[U O 0,U O 0] 172):=⟨_,rfl⟩;have c:Mo w.heap.size w [box 172 2 (q+2) [U O 0,U O 0],box 172 2 (q+1) [U O 0,U O 0],box 301 2 q [U O x.n,U O x.ty]] m:=by have u:Mo w.heap.size w [] w:=⟨Own.nil _ _,Below.refl _ _,lRz⟩;have:=((u.box (cur:=#[U O x.n,U O x.ty]) 301 2 rfl).box (cur:=#[U O 0,U O 0]) 172 2 rfl).box (cur:=#[U O 0,U O 0]) 172 2 rfl;rw[f,k];simpa using this
 clear t s;go_enter func201,ntmps201;go_upto_region 2 with fail
 rw[<- f,<- k];clear f k;have d:=(c.tail.tail.b0 0).1;obtain⟨z,y⟩:=c.b0 0;obtain⟨A,f⟩:∃V,V=m.setCell ⟨q+2,0,none⟩ (U O x.n):=⟨_,rfl⟩;have a:=c.set 0 (U O x.n);rw[<- f]at a;go_upto_region 3 with fail
 rw[<- f];clear f c d z y;have c:=a;clear a;have d:=(c.tail.tail.b0 1).1;obtain⟨z,y⟩:=c.b0 1;obtain⟨L,f⟩:∃V,V=A.setCell ⟨q+2,1,none⟩ (U O x.ty):=⟨_,rfl⟩;have a:=c.set 1 (U O x.ty);rw[<- f]at a;go_upto_region 4 with fail
 rw[<- f];clear f c d z y;have c:=a;clear a;have g:=c.perm (Kf _ _ _);have I:=(c.b0 0).1;obtain⟨D,F⟩:=g.b0 0;have H:=(c.b0 1).1;obtain⟨C,E⟩:=g.b0 1;have B:=Hm ((g.set 0 (U O x.n)).set 1 (U O x.ty));clear g c;go_wp2;refine bgen (λl=>Mo w.heap.size w [box 172 2 (q+1) [U O x.n,U O x.ty],box 172 2 (q+2) [U O x.n,U O x.ty],box 301 2 q [U O x.n,U O x.ty]] l) B.o ?_;intro l j;have r:=(j.b0 0).1;have p:=(j.b0 1).1;exact bodyPost_ret (v:=Ag #[U O x.n,U O x.ty]) (by simp[results,results201,go_sem,r,p]) rfl ⟨rfl,trivial,j.b⟩
theorem toIn_c (x:In)(n:Option Ad)(c1:Nat)(w:J)(Y:In.Is 0 w x n)(X:In.LB 1048576 x):Ec Q 200 #[Ag #[U O x.op,U O x.a,U O x.b,U Ou x.v,S n (N x.l) c1]] w λe w'=>∃j,e=Z (Ag #[U O x.op,U O x.a,U O x.b,U Ou x.v,S (some ⟨j,0,none⟩) (N x.l) (N x.l)])/\In.Is w.heap.size w' x (some ⟨j,0,none⟩)/\Below w.heap.size w w':=by
 obtain⟨q,s⟩:∃q,q=w.heap.size:=⟨_,rfl⟩;obtain⟨t,g⟩:∃V,V=((w.alloc (Fc #[U O x.op,U O x.a,U O x.b,U Ou x.v,S n (N x.l) c1] 289)).alloc (Fc #[U O 0,U O 0,U O 0,U Ou 0,S none 0 0] 85)).alloc (Fc #[U O 0,U O 0,U O 0,U Ou 0,S none 0 0] 85):=⟨_,rfl⟩;have f:Mo w.heap.size w [box 85 5 (q+2) [U O 0,U O 0,U O 0,U Ou 0,S none 0 0],box 85 5 (q+1) [U O 0,U O 0,U O 0,U Ou 0,S none 0 0],box 289 5 q [U O x.op,U O x.a,U O x.b,U Ou x.v,S n (N x.l) c1]] t:=by have h0:Mo w.heap.size w [] w:=⟨Own.nil _ _,Below.refl _ _,lRz⟩;have:=((h0.box (cur:=#[U O x.op,U O x.a,U O x.b,U Ou x.v,S n (N x.l) c1]) 289 5 rfl).box (cur:=#[U O 0,U O 0,U O 0,U Ou 0,S none 0 0]) 85 5 rfl).box (cur:=#[U O 0,U O 0,U O 0,U Ou 0,S none 0 0]) 85 5 rfl;rw[g,s];simpa using this
 have ap:q+3<=t.heap.size:=by rw[g,s];simp
 have u:w.heap.size<=q+3:=by omega
 have HI:=Hm Y;have HL:=Hm X;clear Y X;go_enter func200,ntmps200;go_upto_region 2 with fail
 rw[<- g,<- s];clear g s;have d:=(f.tail.tail.b0 0).1;obtain⟨z,y⟩:=f.b0 0;obtain⟨L,g⟩:∃V,V=t.setCell ⟨q+2,0,none⟩ (U O x.op):=⟨_,rfl⟩;have c:=f.set 0 (U O x.op);rw[<- g]at c;have ao:t.heap.size<=L.heap.size:=by rw[g];simp
 go_upto_region 3 with fail
 rw[<- g];clear g f d z y;have f:=c;clear c;have d:=(f.tail.tail.b0 1).1;obtain⟨z,y⟩:=f.b0 1;obtain⟨I,g⟩:∃V,V=L.setCell ⟨q+2,1,none⟩ (U O x.a):=⟨_,rfl⟩;have c:=f.set 1 (U O x.a);rw[<- g]at c;have ak:L.heap.size<=I.heap.size:=by rw[g];simp
 go_upto_region 4 with fail
 rw[<- g];clear g f d z y;have f:=c;clear c;have d:=(f.tail.tail.b0 2).1;obtain⟨z,y⟩:=f.b0 2;obtain⟨H,g⟩:∃V,V=I.setCell ⟨q+2,2,none⟩ (U O x.b):=⟨_,rfl⟩;have c:=f.set 2 (U O x.b);rw[<- g]at c;have aj:I.heap.size<=H.heap.size:=by rw[g];simp
 go_upto_region 5 with fail
 rw[<- g];clear g f d z y;have f:=c;clear c;have d:=(f.tail.tail.b0 3).1;obtain⟨z,y⟩:=f.b0 3;obtain⟨F,g⟩:∃V,V=H.setCell ⟨q+2,3,none⟩ (U Ou x.v):=⟨_,rfl⟩;have c:=f.set 3 (U Ou x.v);rw[<- g]at c;have ai:H.heap.size<=F.heap.size:=by rw[g];simp
 go_upto_region 6 with fail
 rw[<- g];clear g f d z y;have f:=c;clear c;have d:=(f.tail.tail.b0 4).1;have M:=Hm (rtInts_c n c1 x.l F HL.o ((HI.o).up (up_below f.b)));obtain⟨j,D⟩:∃B,B=F.heap.size:=⟨_,rfl⟩;rw[<- D]at M;have C:q+3<=j:=by omega
 have HB:=Hm D;clear D;go_wp2_with fail
 refine M.o.mono ?_;rintro e W ⟨rfl,R,A⟩;rw[HB.o]at A;have m:=f.keep A;obtain⟨z,y⟩:=m.b0 4;obtain⟨r,g⟩:∃V,V=W.setCell ⟨q+2,4,none⟩ (S (some ⟨j,0,none⟩) (N x.l) (N x.l)):=⟨_,rfl⟩;have c:=m.set 4 (S (some ⟨j,0,none⟩) (N x.l) (N x.l));rw[<- g]at c;have N1:=Hm ((R.mono C).up (show Up (q+3) W r by rw[g];exact Q8 (by omega)));clear f m A d R M HB;go_upto_region 7 with fail
 rw[<- g];clear g z y;have f:=c;clear c;have k:=f.perm (Kf _ _ _);have k0:=(f.b0 0).1;obtain⟨z0,y0⟩:=k.b0 0;have k1:=(f.b0 1).1;obtain⟨z1,y1⟩:=k.b0 1;have k2:=(f.b0 2).1;obtain⟨z2,y2⟩:=k.b0 2;have k3:=(f.b0 3).1;obtain⟨z3,y3⟩:=k.b0 3;have k4:=(f.b0 4).1;obtain⟨z4,y4⟩:=k.b0 4;have HF:=Hm (((((k.set 0 (U O x.op)).set 1 (U O x.a)).set 2 (U O x.b)).set 3 (U Ou x.v)).set 4 (S (some ⟨j,0,none⟩) (N x.l) (N x.l)));have F5:Up (q+3) r r:=λ_ _ _=>rfl;have M1:=Hm (N1.o.up F5);clear F5;clear k f;go_wp2;refine bgen (λE=>Mo w.heap.size w [box 85 5 (q+1) [U O x.op,U O x.a,U O x.b,U Ou x.v,S (some ⟨j,0,none⟩) (N x.l) (N x.l)],box 85 5 (q+2) [U O x.op,U O x.a,U O x.b,U Ou x.v,S (some ⟨j,0,none⟩) (N x.l) (N x.l)],box 289 5 q [U O x.op,U O x.a,U O x.b,U Ou x.v,S n (N x.l) c1]] E/\Up (q+3) r E) ⟨HF.o,XA (by omega) [U O x.op,U O x.a,U O x.b,U Ou x.v,S (some ⟨j,0,none⟩) (N x.l) (N x.l)] r 0⟩ ?_;rintro E ⟨p,hu⟩;have u0:=(p.b0 0).1;have u1:=(p.b0 1).1;have u2:=(p.b0 2).1;have u3:=(p.b0 3).1;have u4:=(p.b0 4).1;exact bodyPost_ret (v:=Ag #[U O x.op,U O x.a,U O x.b,U Ou x.v,S (some ⟨j,0,none⟩) (N x.l) (N x.l)]) (by simp[results,results200,go_sem,u0,u1,u2,u3,u4]) rfl ⟨j,rfl,(M1.o.up hu).mono u,p.b⟩
theorem toFType_c (x:Qc)(p:Option Ad)(c1:Nat)(n:Option Ad)(c2:Nat)(w:J)(hI:Qc.Is 0 w x p n)(hl:Qc.LB 1048576 x):Ec Q 91 #[Ag #[S p (N x.ps) c1,S n (N x.rs) c2]] w λe w'=>∃k j,e=Z (Ag #[S (some ⟨k,0,none⟩) (N x.ps) (N x.ps),S (some ⟨j,0,none⟩) (N x.rs) (N x.rs)])/\Qc.Is w.heap.size w' x (some ⟨k,0,none⟩) (some ⟨j,0,none⟩)/\Below w.heap.size w w':=by
 obtain⟨q,E⟩:∃q,q=w.heap.size:=⟨_,rfl⟩;obtain⟨A,a⟩:∃V,V=((w.alloc (Fc #[S p (N x.ps) c1,S n (N x.rs) c2] 137)).alloc (Fc #[S none 0 0,S none 0 0] 76)).alloc (Fc #[S none 0 0,S none 0 0] 76):=⟨_,rfl⟩;have g:Mo w.heap.size w [box 76 2 (q+2) [S none 0 0,S none 0 0],box 76 2 (q+1) [S none 0 0,S none 0 0],box 137 2 q [S p (N x.ps) c1,S n (N x.rs) c2]] A:=by have h0:Mo w.heap.size w [] w:=⟨Own.nil _ _,Below.refl _ _,lRz⟩;have:=((h0.box (cur:=#[S p (N x.ps) c1,S n (N x.rs) c2]) 137 2 rfl).box (cur:=#[S none 0 0,S none 0 0]) 76 2 rfl).box (cur:=#[S none 0 0,S none 0 0]) 76 2 rfl;rw[a,E];simpa using this
 have ai:q+3<=A.heap.size:=by rw[a,E];simp
 have u:w.heap.size<=q+3:=by omega
 have HI:=Hm hI;have HL:=Hm hl;clear hI hl;go_enter func91,ntmps91;go_upto_region 2 with fail
 rw[<- a,<- E];clear a E;have d:=(g.tail.tail.b0 0).1;have s:=Hm (rtInts_c p c1 x.ps A HL.o.1 ((HI.o.1).up (up_below g.b)));obtain⟨k,m⟩:∃B,B=A.heap.size:=⟨_,rfl⟩;rw[<- m]at s;have L:q+3<=k:=by omega
 have C:=Hm m;clear m;go_wp2_with fail
 refine s.o.mono ?_;rintro e W ⟨rfl,Y,l⟩;rw[C.o]at l;have c:=g.keep l;obtain⟨z,y⟩:=c.b0 0;obtain⟨t,a⟩:∃V,V=W.setCell ⟨q+2,0,none⟩ (S (some ⟨k,0,none⟩) (N x.ps) (N x.ps)):=⟨_,rfl⟩;have f:=c.set 0 (S (some ⟨k,0,none⟩) (N x.ps) (N x.ps));rw[<- a]at f;have ah:A.heap.size<=t.heap.size:=by rw[a];simpa using l.size
 have N1:=Hm ((Y.mono L).up (show Up (q+3) W t by rw[a];exact Q8 (by omega)));clear g c l d Y s C;go_upto_region 3 with fail
 rw[<- a];clear a z y;have g:=f;clear f;have d:=(g.tail.tail.b0 1).1;have s:=Hm (rtInts_c n c2 x.rs t HL.o.2 ((HI.o.2).up (up_below g.b)));obtain⟨j,m⟩:∃B,B=t.heap.size:=⟨_,rfl⟩;rw[<- m]at s;have I:q+3<=j:=by omega
 have C:=Hm m;clear m;go_wp2_with fail
 refine s.o.mono ?_;rintro e W ⟨rfl,X,l⟩;rw[C.o]at l;have c:=g.keep l;obtain⟨z,y⟩:=c.b0 1;obtain⟨r,a⟩:∃V,V=W.setCell ⟨q+2,1,none⟩ (S (some ⟨j,0,none⟩) (N x.rs) (N x.rs)):=⟨_,rfl⟩;have f:=c.set 1 (S (some ⟨j,0,none⟩) (N x.rs) (N x.rs));rw[<- a]at f;have U1:Hid (Up (q+3) t r):=by rw[a];exact upS l (by omega)
 have H:t.heap.size<=r.heap.size:=by rw[a];simpa using l.size
 have N2:=Hm ((X.mono I).up (show Up (q+3) W r by rw[a];exact Q8 (by omega)));clear g c l d X s C;go_upto_region 4 with fail
 rw[<- a];clear a z y;have g:=f;clear f;have D:=g.perm (Kf _ _ _);have k0:=(g.b0 0).1;obtain⟨z0,y0⟩:=D.b0 0;have k1:=(g.b0 1).1;obtain⟨z1,y1⟩:=D.b0 1;have HF:=Hm ((D.set 0 (S (some ⟨k,0,none⟩) (N x.ps) (N x.ps))).set 1 (S (some ⟨j,0,none⟩) (N x.rs) (N x.rs)));have R:Up (q+3) r r:=λ_ _ _=>rfl;have F1:=upT U1.o H R;have M1:=Hm (N1.o.up F1);have M2:=Hm (N2.o.up R);clear F1 R;clear D g;go_wp2;refine bgen (λM=>Mo w.heap.size w [box 76 2 (q+1) [S (some ⟨k,0,none⟩) (N x.ps) (N x.ps),S (some ⟨j,0,none⟩) (N x.rs) (N x.rs)],box 76 2 (q+2) [S (some ⟨k,0,none⟩) (N x.ps) (N x.ps),S (some ⟨j,0,none⟩) (N x.rs) (N x.rs)],box 137 2 q [S p (N x.ps) c1,S n (N x.rs) c2]] M/\Up (q+3) r M) ⟨HF.o,XA (by omega) [S (some ⟨k,0,none⟩) (N x.ps) (N x.ps),S (some ⟨j,0,none⟩) (N x.rs) (N x.rs)] r 0⟩ ?_;rintro M ⟨F,hu⟩;have u0:=(F.b0 0).1;have u1:=(F.b0 1).1;exact bodyPost_ret (v:=Ag #[S (some ⟨k,0,none⟩) (N x.ps) (N x.ps),S (some ⟨j,0,none⟩) (N x.rs) (N x.rs)]) (by simp[results,results91,go_sem,u0,u1]) rfl ⟨k,j,rfl,⟨(M1.o.up hu).mono u,(M2.o.up hu).mono u⟩,F.b⟩
def PIn (B:Nat)(w:J)(x:In)(cs:List Vu):Prop:=∃a1 c1,cs=[U O x.op,U O x.a,U O x.b,U Ou x.v,S a1 (N x.l) c1]/\In.Is B w x a1
theorem PIn.up (B:Nat)(w a:J)(x:In)(cs:List Vu):PIn B w x cs->Up B w a->PIn B a x cs:=λ⟨a1,c1,e,h⟩ u=>⟨a1,c1,e,h.up u⟩
theorem PIn.ls {xs:List In}(h:Cp PIn I0 5 85 w g (N xs) (N xs) xs W):In.Ls g W (some ⟨g,0,none⟩) xs:=by
 refine .inr ⟨g,0,rfl,lRz,λi hi=>?_⟩;obtain⟨cs,_,a,d,c,rfl,b⟩:=h.done i hi;rw[Tx];exact In.At.mono (show In.At (g+1) W g (i*5) (xs.getD i I0)from⟨d,c,⟨a 0 _ rfl,a 1 _ rfl,a 2 _ rfl,a 3 _ rfl,a 4 _ rfl⟩,b⟩) (Hx g)
theorem nfIn:(Q.info? 85).map (λi=>(i.zero,i.size,i.bytes))=some (some (Ag #[U O 0,U O 0,U O 0,U Ou 0,S none 0 0]),5,56):=by kernel_rfl
theorem toIns_c (a:Option Ad)(c:Nat)(xs:List In)(w:J)(X:N xs<=1048576/\∀i,i<N xs->In.LB 1048576 (xs.getD i I0))(B:In.Ls 0 w a xs):Ec Q 148 #[S a (N xs) c] w λe w'=>e=Z (S (some ⟨w.heap.size,0,none⟩) (N xs) (N xs))/\In.Ls w.heap.size w' (some ⟨w.heap.size,0,none⟩) xs/\Below w.heap.size w w':=by
 obtain⟨R,q⟩:=X;have r:=XT underlying70 nfIn (by omega) (N xs) R;have E:=Hm B;have Hl:=Hm q;have D:Hid (Cp PIn I0 5 85 w w.heap.size (N xs) 0 xs (w.alloc (Fc (madeCells #[U O 0,U O 0,U O 0,U Ou 0,S none 0 0] (N xs*5)) 85))):=Cp.start (by simp[madeCells]);clear B q;go_enter func148,ntmps148;go_wp2;go_loopw [4] (λi wr=>∃k:Nat,k<=N xs/\i=U O k/\Cp PIn I0 5 85 w w.heap.size (N xs) k xs wr) (λi _=>N xs-(intOf i).toNat)
 case atStart=>exact⟨0,Kw _,rfl,D.o⟩
 obtain⟨k,hk,rfl,g⟩:=hrel;clear D r;by_cases j:k<N xs
 . (have Y:(k:Int)<(N xs:Int):=by omega);rcases E.o.up (up_below g.bel)with p|⟨b,o,ea,_,z⟩
   . subst p;simp at j
   have n:=z k j;have m:=Hl.o k j;subst ea;obtain⟨x,p⟩:∃x,x=xs.getD k I0:=⟨_,rfl⟩;rw[<- p]at n m;obtain⟨a1,c1,⟨M,L,I,H,F⟩,y⟩:=n;have C:=Hm (toIn_c x a1 c1 wr y m);have HX:=Hm p;have t:=Hm g;clear p z g y E;(go_wp2_with fail);refine C.o.mono ?_;rintro e w1 ⟨b1,rfl,u,A⟩;have f:=t.o.keep PIn.up A;obtain⟨V,d,aa⟩:=f.cells;obtain⟨u0,e0⟩:=d (k*5) (by omega);obtain⟨u1,e1⟩:=d (k*5+1) (by omega);obtain⟨u2,e2⟩:=d (k*5+2) (by omega);obtain⟨u3,e3⟩:=d (k*5+3) (by omega);obtain⟨u4,e4⟩:=d (k*5+4) (by omega);have s:=Hm (f.step PIn.up j [U O x.op,U O x.a,U O x.b,U Ou x.v,S (some ⟨b1,0,none⟩) (N x.l) (N x.l)] rfl (by rw[<- HX.o];exact⟨_,_,rfl,u.mono (by have:=t.o.cells.1;omega)⟩));clear u A f d C t M L I H F;go_wp2;(go_roundw);(case rel=>exact⟨k+1,by omega,by go_num,s.o⟩);case measure=>simp[intOf];omega
 have e:k=N xs:=by omega
 subst e;go_wp2;go_ret;exact⟨rfl,PIn.ls g,g.bel⟩
def XC (B:Nat)(w:J)(x:Qd)(cs:List Vu):Prop:=cs=[U O x.min,U O x.max,G x.has]/\Qd.Is B w x 
theorem XC.up (B:Nat)(w a:J)(x:Qd)(cs:List Vu):XC B w x cs->Up B w a->XC B a x cs:=λ⟨e,h⟩ u=>⟨e,h.up u⟩
theorem XC.ls {xs:List Qd}(h:Cp XC Qd.z 3 175 w g (N xs) (N xs) xs W):Qd.Ls g W (some ⟨g,0,none⟩) xs:=by
 refine .inr ⟨g,0,rfl,lRz,λi hi=>?_⟩;obtain⟨cs,_,b,rfl,a⟩:=h.done i hi;rw[Tx];exact Qd.At.mono (show Qd.At (g+1) W g (i*3) (xs.getD i Qd.z)from⟨⟨b 0 _ rfl,b 1 _ rfl,b 2 _ rfl⟩,a⟩) (Hx g)
theorem nfLimits:(Q.info? 175).map (λi=>(i.zero,i.size,i.bytes))=some (some (Ag #[U O 0,U O 0,G false]),3,24):=by kernel_rfl
theorem toLimitss_c (a:Option Ad)(c:Nat)(xs:List Qd)(w:J)(M:N xs<=1048576/\∀i,i<N xs->Qd.LB 1048576 (xs.getD i Qd.z))(A:Qd.Ls 0 w a xs):Ec Q 33 #[S a (N xs) c] w λe w'=>e=Z (S (some ⟨w.heap.size,0,none⟩) (N xs) (N xs))/\Qd.Ls w.heap.size w' (some ⟨w.heap.size,0,none⟩) xs/\Below w.heap.size w w':=by
 obtain⟨I,p⟩:=M;have q:=XT underlying40 nfLimits (by omega) (N xs) I;have D:=Hm A;have Y:=Hm p;have C:Hid (Cp XC Qd.z 3 175 w w.heap.size (N xs) 0 xs (w.alloc (Fc (madeCells #[U O 0,U O 0,G false] (N xs*3)) 175))):=Cp.start (by simp[madeCells]);clear A p;go_enter func33,ntmps33;go_wp2;go_loopw [4] (λi wr=>∃k:Nat,k<=N xs/\i=U O k/\Cp XC Qd.z 3 175 w w.heap.size (N xs) k xs wr) (λi _=>N xs-(intOf i).toNat)
 case atStart=>exact⟨0,Kw _,rfl,C.o⟩
 obtain⟨k,hk,rfl,f⟩:=hrel;clear C q;by_cases g:k<N xs
 . (have R:(k:Int)<(N xs:Int):=by omega);rcases D.o.up (up_below f.bel)with n|⟨b,o,X,_,v⟩
   . subst n;simp at g
   have m:=v k g;have l:=Y.o k g;subst X;obtain⟨x,n⟩:∃x,x=xs.getD k Qd.z:=⟨_,rfl⟩;rw[<- n]at m l;obtain⟨⟨H,F,E⟩,u⟩:=m;have B:=Hm (toLimits_c x  wr u l);have HX:=Hm n;have s:=Hm f;clear n v f u D;(go_wp2_with fail);refine B.o.mono ?_;rintro e w1 ⟨rfl,t,y⟩;have d:=s.o.keep XC.up y;obtain⟨L,j,V⟩:=d.cells;obtain⟨u0,e0⟩:=j (k*3) (by omega);obtain⟨u1,e1⟩:=j (k*3+1) (by omega);obtain⟨u2,e2⟩:=j (k*3+2) (by omega);have r:=Hm (d.step XC.up g [U O x.min,U O x.max,G x.has] rfl (by rw[<- HX.o];exact⟨rfl,t.mono (by have:=s.o.cells.1;omega)⟩));clear t y d j B s H F E;go_wp2;(go_roundw);(case rel=>exact⟨k+1,by omega,by go_num,r.o⟩);case measure=>simp[intOf];omega
 have e:k=N xs:=by omega
 subst e;go_wp2;go_ret;exact⟨rfl,XC.ls f,f.bel⟩
def PGrp (B:Nat)(w:J)(x:Grp)(cs:List Vu):Prop:=cs=[U O x.n,U O x.ty]/\Grp.Is B w x 
theorem PGrp.up (B:Nat)(w a:J)(x:Grp)(cs:List Vu):PGrp B w x cs->Up B w a->PGrp B a x cs:=λ⟨e,h⟩ u=>⟨e,h.up u⟩
theorem PGrp.ls {xs:List Grp}(h:Cp PGrp Grp.z 2 172 w g (N xs) (N xs) xs W):Grp.Ls g W (some ⟨g,0,none⟩) xs:=by
 refine .inr ⟨g,0,rfl,lRz,λi hi=>?_⟩;obtain⟨cs,_,b,rfl,a⟩:=h.done i hi;rw[Tx];exact Grp.At.mono (show Grp.At (g+1) W g (i*2) (xs.getD i Grp.z)from⟨⟨b 0 _ rfl,b 1 _ rfl⟩,a⟩) (Hx g)
theorem nfGrp:(Q.info? 172).map (λi=>(i.zero,i.size,i.bytes))=some (some (Ag #[U O 0,U O 0]),2,16):=by kernel_rfl
theorem toGrps_c (a:Option Ad)(c:Nat)(xs:List Grp)(w:J)(M:N xs<=1048576/\∀i,i<N xs->Grp.LB 1048576 (xs.getD i Grp.z))(B:Grp.Ls 0 w a xs):Ec Q 149 #[S a (N xs) c] w λe w'=>e=Z (S (some ⟨w.heap.size,0,none⟩) (N xs) (N xs))/\Grp.Ls w.heap.size w' (some ⟨w.heap.size,0,none⟩) xs/\Below w.heap.size w w':=by
 obtain⟨I,q⟩:=M;have r:=XT underlying69 nfGrp (by omega) (N xs) I;have E:=Hm B;have Y:=Hm q;have D:Hid (Cp PGrp Grp.z 2 172 w w.heap.size (N xs) 0 xs (w.alloc (Fc (madeCells #[U O 0,U O 0] (N xs*2)) 172))):=Cp.start (by simp[madeCells]);clear B q;go_enter func149,ntmps149;go_wp2;go_loopw [4] (λi wr=>∃k:Nat,k<=N xs/\i=U O k/\Cp PGrp Grp.z 2 172 w w.heap.size (N xs) k xs wr) (λi _=>N xs-(intOf i).toNat)
 case atStart=>exact⟨0,Kw _,rfl,D.o⟩
 obtain⟨k,hk,rfl,f⟩:=hrel;clear D r;by_cases g:k<N xs
 . (have R:(k:Int)<(N xs:Int):=by omega);rcases E.o.up (up_below f.bel)with p|⟨b,o,X,_,y⟩
   . subst p;simp at g
   have m:=y k g;have l:=Y.o k g;subst X;obtain⟨x,p⟩:∃x,x=xs.getD k Grp.z:=⟨_,rfl⟩;rw[<- p]at m l;obtain⟨⟨H,F⟩,v⟩:=m;have C:=Hm (toGrp_c x  wr v l);have HX:=Hm p;have t:=Hm f;clear p y f v E;(go_wp2_with fail);refine C.o.mono ?_;rintro e w1 ⟨rfl,u,A⟩;have d:=t.o.keep PGrp.up A;obtain⟨L,j,V⟩:=d.cells;obtain⟨u0,e0⟩:=j (k*2) (by omega);obtain⟨u1,e1⟩:=j (k*2+1) (by omega);have s:=Hm (d.step PGrp.up g [U O x.n,U O x.ty] rfl (by rw[<- HX.o];exact⟨rfl,u.mono (by have:=t.o.cells.1;omega)⟩));clear u A d j C t H F;go_wp2;(go_roundw);(case rel=>exact⟨k+1,by omega,by go_num,s.o⟩);case measure=>simp[intOf];omega
 have e:k=N xs:=by omega
 subst e;go_wp2;go_ret;exact⟨rfl,PGrp.ls f,f.bel⟩
def X8 (B:Nat)(w:J)(x:Qc)(cs:List Vu):Prop:=∃a1 c1 a2 c2,cs=[S a1 (N x.ps) c1,S a2 (N x.rs) c2]/\Qc.Is B w x a1 a2
theorem X8.up (B:Nat)(w a:J)(x:Qc)(cs:List Vu):X8 B w x cs->Up B w a->X8 B a x cs:=λ⟨a1,c1,a2,c2,e,h⟩ u=>⟨a1,c1,a2,c2,e,h.up u⟩
theorem X8.ls {xs:List Qc}(h:Cp X8 Qc.z 2 76 w g (N xs) (N xs) xs W):Qc.Ls g W (some ⟨g,0,none⟩) xs:=by
 refine .inr ⟨g,0,rfl,lRz,λi hi=>?_⟩;obtain⟨cs,_,b,j,d,f,c,rfl,a⟩:=h.done i hi;rw[Tx];exact Qc.At.mono (show Qc.At (g+1) W g (i*2) (xs.getD i Qc.z)from⟨j,d,f,c,⟨b 0 _ rfl,b 1 _ rfl⟩,a⟩) (Hx g)
theorem nfFType:(Q.info? 76).map (λi=>(i.zero,i.size,i.bytes))=some (some (Ag #[S none 0 0,S none 0 0]),2,48):=by kernel_rfl
theorem toFTypes_c (a:Option Ad)(c:Nat)(xs:List Qc)(w:J)(L:N xs<=1048576/\∀i,i<N xs->Qc.LB 1048576 (xs.getD i Qc.z))(A:Qc.Ls 0 w a xs):Ec Q 30 #[S a (N xs) c] w λe w'=>e=Z (S (some ⟨w.heap.size,0,none⟩) (N xs) (N xs))/\Qc.Ls w.heap.size w' (some ⟨w.heap.size,0,none⟩) xs/\Below w.heap.size w w':=by
 obtain⟨H,p⟩:=L;have q:=XT underlying38 nfFType (by omega) (N xs) H;have D:=Hm A;have Hl:=Hm p;have C:Hid (Cp X8 Qc.z 2 76 w w.heap.size (N xs) 0 xs (w.alloc (Fc (madeCells #[S none 0 0,S none 0 0] (N xs*2)) 76))):=Cp.start (by simp[madeCells]);clear A p;go_enter func30,ntmps30;go_wp2;go_loopw [4] (λi wr=>∃k:Nat,k<=N xs/\i=U O k/\Cp X8 Qc.z 2 76 w w.heap.size (N xs) k xs wr) (λi _=>N xs-(intOf i).toNat)
 case atStart=>exact⟨0,Kw _,rfl,C.o⟩
 obtain⟨k,hk,rfl,f⟩:=hrel;clear C q;by_cases g:k<N xs
 . (have M:(k:Int)<(N xs:Int):=by omega);rcases D.o.up (up_below f.bel)with n|⟨b,o,V,_,v⟩
   . subst n;simp at g
   have m:=v k g;have l:=Hl.o k g;subst V;obtain⟨x,n⟩:∃x,x=xs.getD k Qc.z:=⟨_,rfl⟩;rw[<- n]at m l;obtain⟨a1,Y,a2,X,⟨F,E⟩,u⟩:=m;have B:=Hm (toFType_c x a1 Y a2 X wr u l);have HX:=Hm n;have s:=Hm f;clear n v f u D;(go_wp2_with fail);refine B.o.mono ?_;rintro e w1 ⟨b1,b2,rfl,t,y⟩;have d:=s.o.keep X8.up y;obtain⟨I,j,R⟩:=d.cells;obtain⟨u0,e0⟩:=j (k*2) (by omega);obtain⟨u1,e1⟩:=j (k*2+1) (by omega);have r:=Hm (d.step X8.up g [S (some ⟨b1,0,none⟩) (N x.ps) (N x.ps),S (some ⟨b2,0,none⟩) (N x.rs) (N x.rs)] rfl (by rw[<- HX.o];exact⟨_,_,_,_,rfl,t.mono (by have:=s.o.cells.1;omega)⟩));clear t y d j B s F E;go_wp2;(go_roundw);(case rel=>exact⟨k+1,by omega,by go_num,r.o⟩);case measure=>simp[intOf];omega
 have e:k=N xs:=by omega
 subst e;go_wp2;go_ret;exact⟨rfl,X8.ls f,f.bel⟩
theorem toImp_c (x:Imp)(w:J)(hI:Imp.Is 0 w x )(hl:Imp.LB 1048576 x):Ec Q 92 #[Ag #[Xs x.mod,Xs x.nm,U O x.kind,U O x.ty,U O x.lim.min,U O x.lim.max,G x.lim.has,U O x.gl.ty,G x.gl.mu]] w λe w'=>e=Z (Ag #[Xs x.mod,Xs x.nm,U O x.kind,U O x.ty,U O x.lim.min,U O x.lim.max,G x.lim.has,U O x.gl.ty,G x.gl.mu])/\Imp.Is w.heap.size w' x /\Below w.heap.size w w':=by
 obtain⟨q,t⟩:∃q,q=w.heap.size:=⟨_,rfl⟩;obtain⟨E,f⟩:∃V,V=((w.alloc (Fc #[Xs x.mod,Xs x.nm,U O x.kind,U O x.ty,U O x.lim.min,U O x.lim.max,G x.lim.has,U O x.gl.ty,G x.gl.mu] 144)).alloc (Fc #[Xs ⟨#[]⟩,Xs ⟨#[]⟩,U O 0,U O 0,U O 0,U O 0,G false,U O 0,G false] 178)).alloc (Fc #[Xs ⟨#[]⟩,Xs ⟨#[]⟩,U O 0,U O 0,U O 0,U O 0,G false,U O 0,G false] 178):=⟨_,rfl⟩;have c:Mo w.heap.size w [box 178 9 (q+2) [Xs ⟨#[]⟩,Xs ⟨#[]⟩,U O 0,U O 0,U O 0,U O 0,G false,U O 0,G false],box 178 9 (q+1) [Xs ⟨#[]⟩,Xs ⟨#[]⟩,U O 0,U O 0,U O 0,U O 0,G false,U O 0,G false],box 144 9 q [Xs x.mod,Xs x.nm,U O x.kind,U O x.ty,U O x.lim.min,U O x.lim.max,G x.lim.has,U O x.gl.ty,G x.gl.mu]] E:=by have h0:Mo w.heap.size w [] w:=⟨Own.nil _ _,Below.refl _ _,lRz⟩;have:=((h0.box (cur:=#[Xs x.mod,Xs x.nm,U O x.kind,U O x.ty,U O x.lim.min,U O x.lim.max,G x.lim.has,U O x.gl.ty,G x.gl.mu]) 144 9 rfl).box (cur:=#[Xs ⟨#[]⟩,Xs ⟨#[]⟩,U O 0,U O 0,U O 0,U O 0,G false,U O 0,G false]) 178 9 rfl).box (cur:=#[Xs ⟨#[]⟩,Xs ⟨#[]⟩,U O 0,U O 0,U O 0,U O 0,G false,U O 0,G false]) 178 9 rfl;rw[f,t];simpa using this
 clear hI hl;go_enter func92,ntmps92;go_upto_region 2 with fail
 rw[<- f,<- t];clear f t;have d:=(c.tail.tail.b0 0).1;obtain⟨z,y⟩:=c.b0 0;obtain⟨V1,f⟩:∃V,V=E.setCell ⟨q+2,0,none⟩ (Xs x.mod):=⟨_,rfl⟩;have a:=c.set 0 (Xs x.mod);rw[<- f]at a;go_upto_region 3 with fail
 rw[<- f];clear f c d z y;have c:=a;clear a;have d:=(c.tail.tail.b0 1).1;obtain⟨z,y⟩:=c.b0 1;obtain⟨V2,f⟩:∃V,V=V1.setCell ⟨q+2,1,none⟩ (Xs x.nm):=⟨_,rfl⟩;have a:=c.set 1 (Xs x.nm);rw[<- f]at a;go_upto_region 4 with fail
 rw[<- f];clear f c d z y;have c:=a;clear a;have d:=(c.tail.tail.b0 2).1;obtain⟨z,y⟩:=c.b0 2;obtain⟨V3,f⟩:∃V,V=V2.setCell ⟨q+2,2,none⟩ (U O x.kind):=⟨_,rfl⟩;have a:=c.set 2 (U O x.kind);rw[<- f]at a;go_upto_region 5 with fail
 rw[<- f];clear f c d z y;have c:=a;clear a;have d:=(c.tail.tail.b0 3).1;obtain⟨z,y⟩:=c.b0 3;obtain⟨V4,f⟩:∃V,V=V3.setCell ⟨q+2,3,none⟩ (U O x.ty):=⟨_,rfl⟩;have a:=c.set 3 (U O x.ty);rw[<- f]at a;go_upto_region 6 with fail
 rw[<- f];clear f c d z y;have c:=a;clear a;have A:=(c.tail.tail.b0 4).1;have u:=(c.tail.tail.b0 5).1;have d2:=(c.tail.tail.b0 6).1;have m:=Hm (toLimits_c x.lim V4 trivial trivial);go_wp2_with fail
 refine m.o.mono ?_;rintro e W ⟨rfl,_,l⟩;have g:=c.keep l;obtain⟨p,s⟩:=g.b0 4;obtain⟨n,r⟩:=g.b0 5;obtain⟨B,C⟩:=g.b0 6;obtain⟨V5,f⟩:∃V,V=(((W.setCell ⟨q+2,4,none⟩ (U O x.lim.min)).setCell ⟨q+2,5,none⟩ (U O x.lim.max)).setCell ⟨q+2,6,none⟩ (G x.lim.has)):=⟨_,rfl⟩;have a:=(((g.set 4 (U O x.lim.min)).set 5 (U O x.lim.max)).set 6 (G x.lim.has));rw[<- f]at a;clear c g l m A u d2;go_upto_region 7 with fail
 rw[<- f];clear f p s n r B C;have c:=a;clear a;have A:=(c.tail.tail.b0 7).1;have u:=(c.tail.tail.b0 8).1;have m:=Hm (toGType_c x.gl V5 trivial trivial);go_wp2_with fail
 refine m.o.mono ?_;rintro e W ⟨rfl,_,l⟩;have g:=c.keep l;obtain⟨p,s⟩:=g.b0 7;obtain⟨n,r⟩:=g.b0 8;obtain⟨V6,f⟩:∃V,V=((W.setCell ⟨q+2,7,none⟩ (U O x.gl.ty)).setCell ⟨q+2,8,none⟩ (G x.gl.mu)):=⟨_,rfl⟩;have a:=((g.set 7 (U O x.gl.ty)).set 8 (G x.gl.mu));rw[<- f]at a;clear c g l m A u;go_upto_region 8 with fail
 rw[<- f];clear f p s n r;have c:=a;clear a;have j:=c.perm (Kf _ _ _);have k0:=(c.b0 0).1;obtain⟨p,s⟩:=j.b0 0;have k1:=(c.b0 1).1;obtain⟨n,r⟩:=j.b0 1;have k2:=(c.b0 2).1;obtain⟨B,C⟩:=j.b0 2;have k3:=(c.b0 3).1;obtain⟨z3,y3⟩:=j.b0 3;have k4:=(c.b0 4).1;obtain⟨z4,y4⟩:=j.b0 4;have k5:=(c.b0 5).1;obtain⟨z5,y5⟩:=j.b0 5;have k6:=(c.b0 6).1;obtain⟨z6,y6⟩:=j.b0 6;have k7:=(c.b0 7).1;obtain⟨z7,y7⟩:=j.b0 7;have k8:=(c.b0 8).1;obtain⟨z8,y8⟩:=j.b0 8;have HF:=Hm (((((((((j.set 0 (Xs x.mod)).set 1 (Xs x.nm)).set 2 (U O x.kind)).set 3 (U O x.ty)).set 4 (U O x.lim.min)).set 5 (U O x.lim.max)).set 6 (G x.lim.has)).set 7 (U O x.gl.ty)).set 8 (G x.gl.mu));clear j c;go_wp2;refine bgen (λD=>Mo w.heap.size w [box 178 9 (q+1) [Xs x.mod,Xs x.nm,U O x.kind,U O x.ty,U O x.lim.min,U O x.lim.max,G x.lim.has,U O x.gl.ty,G x.gl.mu],box 178 9 (q+2) [Xs x.mod,Xs x.nm,U O x.kind,U O x.ty,U O x.lim.min,U O x.lim.max,G x.lim.has,U O x.gl.ty,G x.gl.mu],box 144 9 q [Xs x.mod,Xs x.nm,U O x.kind,U O x.ty,U O x.lim.min,U O x.lim.max,G x.lim.has,U O x.gl.ty,G x.gl.mu]] D) HF.o ?_;intro D k;have u0:=(k.b0 0).1;have Y:=(k.b0 1).1;have X:=(k.b0 2).1;have R:=(k.b0 3).1;have M:=(k.b0 4).1;have L:=(k.b0 5).1;have I:=(k.b0 6).1;have H:=(k.b0 7).1;have F:=(k.b0 8).1;exact bodyPost_ret (v:=Ag #[Xs x.mod,Xs x.nm,U O x.kind,U O x.ty,U O x.lim.min,U O x.lim.max,G x.lim.has,U O x.gl.ty,G x.gl.mu]) (by simp[results,results92,go_sem,u0,Y,X,R,M,L,I,H,F]) rfl ⟨rfl,trivial,k.b⟩
def PImp (B:Nat)(w:J)(x:Imp)(cs:List Vu):Prop:=cs=[Xs x.mod,Xs x.nm,U O x.kind,U O x.ty,U O x.lim.min,U O x.lim.max,G x.lim.has,U O x.gl.ty,G x.gl.mu]/\Imp.Is B w x 
theorem PImp.up (B:Nat)(w a:J)(x:Imp)(cs:List Vu):PImp B w x cs->Up B w a->PImp B a x cs:=λ⟨e,h⟩ u=>⟨e,h.up u⟩
theorem PImp.ls {xs:List Imp}(h:Cp PImp Imp.z 9 178 w g (N xs) (N xs) xs W):Imp.Ls g W (some ⟨g,0,none⟩) xs:=by
 refine .inr ⟨g,0,rfl,lRz,λi hi=>?_⟩;obtain⟨cs,_,a,rfl,b⟩:=h.done i hi;rw[Tx];exact Imp.At.mono (show Imp.At (g+1) W g (i*9) (xs.getD i Imp.z)from⟨⟨a 0 _ rfl,a 1 _ rfl,a 2 _ rfl,a 3 _ rfl,a 4 _ rfl,a 5 _ rfl,a 6 _ rfl,a 7 _ rfl,a 8 _ rfl⟩,b⟩) (Hx g)
theorem nfImp:(Q.info? 178).map (λi=>(i.zero,i.size,i.bytes))=some (some (Ag #[Xs ⟨#[]⟩,Xs ⟨#[]⟩,U O 0,U O 0,U O 0,U O 0,G false,U O 0,G false]),9,88):=by kernel_rfl
theorem toImps_c (a:Option Ad)(c:Nat)(xs:List Imp)(w:J)(hl:N xs<=1048576/\∀i,i<N xs->Imp.LB 1048576 (xs.getD i Imp.z))(A:Imp.Ls 0 w a xs):Ec Q 31 #[S a (N xs) c] w λe w'=>e=Z (S (some ⟨w.heap.size,0,none⟩) (N xs) (N xs))/\Imp.Ls w.heap.size w' (some ⟨w.heap.size,0,none⟩) xs/\Below w.heap.size w w':=by
 obtain⟨Y,p⟩:=hl;have q:=XT underlying39 nfImp (by omega) (N xs) Y;have D:=Hm A;have Hl:=Hm p;have C:Hid (Cp PImp Imp.z 9 178 w w.heap.size (N xs) 0 xs (w.alloc (Fc (madeCells #[Xs ⟨#[]⟩,Xs ⟨#[]⟩,U O 0,U O 0,U O 0,U O 0,G false,U O 0,G false] (N xs*9)) 178))):=Cp.start (by simp[madeCells]);clear A p;go_enter func31,ntmps31;go_wp2;go_loopw [4] (λi wr=>∃k:Nat,k<=N xs/\i=U O k/\Cp PImp Imp.z 9 178 w w.heap.size (N xs) k xs wr) (λi _=>N xs-(intOf i).toNat)
 case atStart=>exact⟨0,Kw _,rfl,C.o⟩
 obtain⟨k,hk,rfl,g⟩:=hrel;clear C q;by_cases j:k<N xs
 . (have ac:(k:Int)<(N xs:Int):=by omega);rcases D.o.up (up_below g.bel)with n|⟨b,o,ea,_,v⟩
   . subst n;simp at j
   have m:=v k j;have l:=Hl.o k j;subst ea;obtain⟨x,n⟩:∃x,x=xs.getD k Imp.z:=⟨_,rfl⟩;rw[<- n]at m l;obtain⟨⟨X,V,R,M,L,I,H,F,E⟩,u⟩:=m;have B:=Hm (toImp_c x  wr u l);have HX:=Hm n;have s:=Hm g;clear n v g u D;(go_wp2_with fail);refine B.o.mono ?_;rintro e w1 ⟨rfl,t,y⟩;have f:=s.o.keep PImp.up y;obtain⟨aa,d,ad⟩:=f.cells;obtain⟨u0,e0⟩:=d (k*9) (by omega);obtain⟨u1,e1⟩:=d (k*9+1) (by omega);obtain⟨u2,e2⟩:=d (k*9+2) (by omega);obtain⟨u3,e3⟩:=d (k*9+3) (by omega);obtain⟨u4,e4⟩:=d (k*9+4) (by omega);obtain⟨u5,e5⟩:=d (k*9+5) (by omega);obtain⟨u6,e6⟩:=d (k*9+6) (by omega);obtain⟨u7,e7⟩:=d (k*9+7) (by omega);obtain⟨u8,e8⟩:=d (k*9+8) (by omega);have r:=Hm (f.step PImp.up j [Xs x.mod,Xs x.nm,U O x.kind,U O x.ty,U O x.lim.min,U O x.lim.max,G x.lim.has,U O x.gl.ty,G x.gl.mu] rfl (by rw[<- HX.o];exact⟨rfl,t.mono (by have:=s.o.cells.1;omega)⟩));clear t y f d B s X V R M L I H F E;go_wp2;(go_roundw);(case rel=>exact⟨k+1,by omega,by go_num,r.o⟩);case measure=>simp[intOf];omega
 have e:k=N xs:=by omega
 subst e;go_wp2;go_ret;exact⟨rfl,PImp.ls g,g.bel⟩
theorem toExp_c (x:Exp)(w:J)(t:Exp.Is 0 w x )(s:Exp.LB 1048576 x):Ec Q 95 #[Ag #[Xs x.nm,U O x.kind,U O x.ix]] w λe w'=>e=Z (Ag #[Xs x.nm,U O x.kind,U O x.ix])/\Exp.Is w.heap.size w' x /\Below w.heap.size w w':=by
 obtain⟨q,k⟩:∃q,q=w.heap.size:=⟨_,rfl⟩;obtain⟨m,f⟩:∃V,V=((w.alloc (Fc #[Xs x.nm,U O x.kind,U O x.ix] 151)).alloc (Fc #[Xs ⟨#[]⟩,U O 0,U O 0] 192)).alloc (Fc #[Xs ⟨#[]⟩,U O 0,U O 0] 192):=⟨_,rfl⟩;have c:Mo w.heap.size w [box 192 3 (q+2) [Xs ⟨#[]⟩,U O 0,U O 0],box 192 3 (q+1) [Xs ⟨#[]⟩,U O 0,U O 0],box 151 3 q [Xs x.nm,U O x.kind,U O x.ix]] m:=by have u:Mo w.heap.size w [] w:=⟨Own.nil _ _,Below.refl _ _,lRz⟩;have:=((u.box (cur:=#[Xs x.nm,U O x.kind,U O x.ix]) 151 3 rfl).box (cur:=#[Xs ⟨#[]⟩,U O 0,U O 0]) 192 3 rfl).box (cur:=#[Xs ⟨#[]⟩,U O 0,U O 0]) 192 3 rfl;rw[f,k];simpa using this
 clear t s;go_enter func95,ntmps95;go_upto_region 2 with fail
 rw[<- f,<- k];clear f k;have d:=(c.tail.tail.b0 0).1;obtain⟨z,y⟩:=c.b0 0;obtain⟨B,f⟩:∃V,V=m.setCell ⟨q+2,0,none⟩ (Xs x.nm):=⟨_,rfl⟩;have a:=c.set 0 (Xs x.nm);rw[<- f]at a;go_upto_region 3 with fail
 rw[<- f];clear f c d z y;have c:=a;clear a;have d:=(c.tail.tail.b0 1).1;obtain⟨z,y⟩:=c.b0 1;obtain⟨A,f⟩:∃V,V=B.setCell ⟨q+2,1,none⟩ (U O x.kind):=⟨_,rfl⟩;have a:=c.set 1 (U O x.kind);rw[<- f]at a;go_upto_region 4 with fail
 rw[<- f];clear f c d z y;have c:=a;clear a;have d:=(c.tail.tail.b0 2).1;obtain⟨z,y⟩:=c.b0 2;obtain⟨Y,f⟩:∃V,V=A.setCell ⟨q+2,2,none⟩ (U O x.ix):=⟨_,rfl⟩;have a:=c.set 2 (U O x.ix);rw[<- f]at a;go_upto_region 5 with fail
 rw[<- f];clear f c d z y;have c:=a;clear a;have g:=c.perm (Kf _ _ _);have X:=(c.b0 0).1;obtain⟨F,L⟩:=g.b0 0;have R:=(c.b0 1).1;obtain⟨E,I⟩:=g.b0 1;have M:=(c.b0 2).1;obtain⟨D,H⟩:=g.b0 2;have C:=Hm (((g.set 0 (Xs x.nm)).set 1 (U O x.kind)).set 2 (U O x.ix));clear g c;go_wp2;refine bgen (λl=>Mo w.heap.size w [box 192 3 (q+1) [Xs x.nm,U O x.kind,U O x.ix],box 192 3 (q+2) [Xs x.nm,U O x.kind,U O x.ix],box 151 3 q [Xs x.nm,U O x.kind,U O x.ix]] l) C.o ?_;intro l j;have r:=(j.b0 0).1;have p:=(j.b0 1).1;have n:=(j.b0 2).1;exact bodyPost_ret (v:=Ag #[Xs x.nm,U O x.kind,U O x.ix]) (by simp[results,results95,go_sem,r,p,n]) rfl ⟨rfl,trivial,j.b⟩
def PExp (B:Nat)(w:J)(x:Exp)(cs:List Vu):Prop:=cs=[Xs x.nm,U O x.kind,U O x.ix]/\Exp.Is B w x 
theorem PExp.up (B:Nat)(w a:J)(x:Exp)(cs:List Vu):PExp B w x cs->Up B w a->PExp B a x cs:=λ⟨e,h⟩ u=>⟨e,h.up u⟩
theorem PExp.ls {xs:List Exp}(h:Cp PExp Exp.z 3 192 w g (N xs) (N xs) xs W):Exp.Ls g W (some ⟨g,0,none⟩) xs:=by
 refine .inr ⟨g,0,rfl,lRz,λi hi=>?_⟩;obtain⟨cs,_,b,rfl,a⟩:=h.done i hi;rw[Tx];exact Exp.At.mono (show Exp.At (g+1) W g (i*3) (xs.getD i Exp.z)from⟨⟨b 0 _ rfl,b 1 _ rfl,b 2 _ rfl⟩,a⟩) (Hx g)
theorem nfExp:(Q.info? 192).map (λi=>(i.zero,i.size,i.bytes))=some (some (Ag #[Xs ⟨#[]⟩,U O 0,U O 0]),3,32):=by kernel_rfl
theorem toExps_c (a:Option Ad)(c:Nat)(xs:List Exp)(w:J)(M:N xs<=1048576/\∀i,i<N xs->Exp.LB 1048576 (xs.getD i Exp.z))(A:Exp.Ls 0 w a xs):Ec Q 35 #[S a (N xs) c] w λe w'=>e=Z (S (some ⟨w.heap.size,0,none⟩) (N xs) (N xs))/\Exp.Ls w.heap.size w' (some ⟨w.heap.size,0,none⟩) xs/\Below w.heap.size w w':=by
 obtain⟨I,p⟩:=M;have q:=XT underlying42 nfExp (by omega) (N xs) I;have D:=Hm A;have Y:=Hm p;have C:Hid (Cp PExp Exp.z 3 192 w w.heap.size (N xs) 0 xs (w.alloc (Fc (madeCells #[Xs ⟨#[]⟩,U O 0,U O 0] (N xs*3)) 192))):=Cp.start (by simp[madeCells]);clear A p;go_enter func35,ntmps35;go_wp2;go_loopw [4] (λi wr=>∃k:Nat,k<=N xs/\i=U O k/\Cp PExp Exp.z 3 192 w w.heap.size (N xs) k xs wr) (λi _=>N xs-(intOf i).toNat)
 case atStart=>exact⟨0,Kw _,rfl,C.o⟩
 obtain⟨k,hk,rfl,f⟩:=hrel;clear C q;by_cases g:k<N xs
 . (have R:(k:Int)<(N xs:Int):=by omega);rcases D.o.up (up_below f.bel)with n|⟨b,o,X,_,v⟩
   . subst n;simp at g
   have m:=v k g;have l:=Y.o k g;subst X;obtain⟨x,n⟩:∃x,x=xs.getD k Exp.z:=⟨_,rfl⟩;rw[<- n]at m l;obtain⟨⟨H,F,E⟩,u⟩:=m;have B:=Hm (toExp_c x  wr u l);have HX:=Hm n;have s:=Hm f;clear n v f u D;(go_wp2_with fail);refine B.o.mono ?_;rintro e w1 ⟨rfl,t,y⟩;have d:=s.o.keep PExp.up y;obtain⟨L,j,V⟩:=d.cells;obtain⟨u0,e0⟩:=j (k*3) (by omega);obtain⟨u1,e1⟩:=j (k*3+1) (by omega);obtain⟨u2,e2⟩:=j (k*3+2) (by omega);have r:=Hm (d.step PExp.up g [Xs x.nm,U O x.kind,U O x.ix] rfl (by rw[<- HX.o];exact⟨rfl,t.mono (by have:=s.o.cells.1;omega)⟩));clear t y d j B s H F E;go_wp2;(go_roundw);(case rel=>exact⟨k+1,by omega,by go_num,r.o⟩);case measure=>simp[intOf];omega
 have e:k=N xs:=by omega
 subst e;go_wp2;go_ret;exact⟨rfl,PExp.ls f,f.bel⟩
theorem toGlob_c (x:Qm)(l:Option Ad)(c1:Nat)(w:J)(X:Qm.Is 0 w x l)(R:Qm.LB 1048576 x):Ec Q 94 #[Ag #[U O x.ty.ty,G x.ty.mu,S l (N x.ini) c1]] w λe w'=>∃j,e=Z (Ag #[U O x.ty.ty,G x.ty.mu,S (some ⟨j,0,none⟩) (N x.ini) (N x.ini)])/\Qm.Is w.heap.size w' x (some ⟨j,0,none⟩)/\Below w.heap.size w w':=by
 obtain⟨q,s⟩:∃q,q=w.heap.size:=⟨_,rfl⟩;obtain⟨t,g⟩:∃V,V=((w.alloc (Fc #[U O x.ty.ty,G x.ty.mu,S l (N x.ini) c1] 148)).alloc (Fc #[U O 0,G false,S none 0 0] 180)).alloc (Fc #[U O 0,G false,S none 0 0] 180):=⟨_,rfl⟩;have f:Mo w.heap.size w [box 180 3 (q+2) [U O 0,G false,S none 0 0],box 180 3 (q+1) [U O 0,G false,S none 0 0],box 148 3 q [U O x.ty.ty,G x.ty.mu,S l (N x.ini) c1]] t:=by have h0:Mo w.heap.size w [] w:=⟨Own.nil _ _,Below.refl _ _,lRz⟩;have:=((h0.box (cur:=#[U O x.ty.ty,G x.ty.mu,S l (N x.ini) c1]) 148 3 rfl).box (cur:=#[U O 0,G false,S none 0 0]) 180 3 rfl).box (cur:=#[U O 0,G false,S none 0 0]) 180 3 rfl;rw[g,s];simpa using this
 have ag:q+3<=t.heap.size:=by rw[g,s];simp
 have u:w.heap.size<=q+3:=by omega
 have HI:=Hm X;have HL:=Hm R;clear X R;go_enter func94,ntmps94;go_upto_region 2 with fail
 rw[<- g,<- s];clear g s;have d0:=(f.tail.tail.b0 0).1;have d1:=(f.tail.tail.b0 1).1;have m:=Hm (toGType_c x.ty t trivial trivial);go_wp2_with fail
 refine m.o.mono ?_;rintro e W ⟨rfl,_,k⟩;have a:=f.keep k;obtain⟨H,L⟩:=a.b0 0;obtain⟨F,I⟩:=a.b0 1;obtain⟨E,g⟩:∃V,V=((W.setCell ⟨q+2,0,none⟩ (U O x.ty.ty)).setCell ⟨q+2,1,none⟩ (G x.ty.mu)):=⟨_,rfl⟩;have c:=((a.set 0 (U O x.ty.ty)).set 1 (G x.ty.mu));rw[<- g]at c;have af:t.heap.size<=E.heap.size:=by rw[g];simpa using k.size
 clear f a k m d0 d1;go_upto_region 3 with fail
 rw[<- g];clear g H L F I;have f:=c;clear c;have d:=(f.tail.tail.b0 2).1;have m:=Hm (toIns_c l c1 x.ini E HL.o ((HI.o).up (up_below f.b)));obtain⟨j,C⟩:∃B,B=E.heap.size:=⟨_,rfl⟩;rw[<- C]at m;have A:q+3<=j:=by omega
 have Y:=Hm C;clear C;go_wp2_with fail
 refine m.o.mono ?_;rintro e W ⟨rfl,M,k⟩;rw[Y.o]at k;have a:=f.keep k;obtain⟨z,y⟩:=a.b0 2;obtain⟨p,g⟩:∃V,V=W.setCell ⟨q+2,2,none⟩ (S (some ⟨j,0,none⟩) (N x.ini) (N x.ini)):=⟨_,rfl⟩;have c:=a.set 2 (S (some ⟨j,0,none⟩) (N x.ini) (N x.ini));rw[<- g]at c;have N1:=Hm ((M.mono A).up (show Up (q+3) W p by rw[g];exact Q8 (by omega)));clear f a k d M m Y;go_upto_region 4 with fail
 rw[<- g];clear g z y;have f:=c;clear c;have n:=f.perm (Kf _ _ _);have k0:=(f.b0 0).1;obtain⟨H,L⟩:=n.b0 0;have k1:=(f.b0 1).1;obtain⟨F,I⟩:=n.b0 1;have k2:=(f.b0 2).1;obtain⟨z2,y2⟩:=n.b0 2;have HF:=Hm (((n.set 0 (U O x.ty.ty)).set 1 (G x.ty.mu)).set 2 (S (some ⟨j,0,none⟩) (N x.ini) (N x.ini)));have F2:Up (q+3) p p:=λ_ _ _=>rfl;have M1:=Hm (N1.o.up F2);clear F2;clear n f;go_wp2;refine bgen (λD=>Mo w.heap.size w [box 180 3 (q+1) [U O x.ty.ty,G x.ty.mu,S (some ⟨j,0,none⟩) (N x.ini) (N x.ini)],box 180 3 (q+2) [U O x.ty.ty,G x.ty.mu,S (some ⟨j,0,none⟩) (N x.ini) (N x.ini)],box 148 3 q [U O x.ty.ty,G x.ty.mu,S l (N x.ini) c1]] D/\Up (q+3) p D) ⟨HF.o,XA (by omega) [U O x.ty.ty,G x.ty.mu,S (some ⟨j,0,none⟩) (N x.ini) (N x.ini)] p 0⟩ ?_;rintro D ⟨r,hu⟩;have u0:=(r.b0 0).1;have u1:=(r.b0 1).1;have u2:=(r.b0 2).1;exact bodyPost_ret (v:=Ag #[U O x.ty.ty,G x.ty.mu,S (some ⟨j,0,none⟩) (N x.ini) (N x.ini)]) (by simp[results,results94,go_sem,u0,u1,u2]) rfl ⟨j,rfl,(M1.o.up hu).mono u,r.b⟩
def PGlob (B:Nat)(w:J)(x:Qm)(cs:List Vu):Prop:=∃a1 c1,cs=[U O x.ty.ty,G x.ty.mu,S a1 (N x.ini) c1]/\Qm.Is B w x a1
theorem PGlob.up (B:Nat)(w a:J)(x:Qm)(cs:List Vu):PGlob B w x cs->Up B w a->PGlob B a x cs:=λ⟨a1,c1,e,h⟩ u=>⟨a1,c1,e,h.up u⟩
theorem PGlob.ls {xs:List Qm}(h:Cp PGlob Qm.z 3 180 w g (N xs) (N xs) xs W):Qm.Ls g W (some ⟨g,0,none⟩) xs:=by
 refine .inr ⟨g,0,rfl,lRz,λi hi=>?_⟩;obtain⟨cs,_,b,d,c,rfl,a⟩:=h.done i hi;rw[Tx];exact Qm.At.mono (show Qm.At (g+1) W g (i*3) (xs.getD i Qm.z)from⟨d,c,⟨b 0 _ rfl,b 1 _ rfl,b 2 _ rfl⟩,a⟩) (Hx g)
theorem nfGlob:(Q.info? 180).map (λi=>(i.zero,i.size,i.bytes))=some (some (Ag #[U O 0,G false,S none 0 0]),3,40):=by kernel_rfl
theorem toGlobs_c (a:Option Ad)(c:Nat)(xs:List Qm)(w:J)(M:N xs<=1048576/\∀i,i<N xs->Qm.LB 1048576 (xs.getD i Qm.z))(A:Qm.Ls 0 w a xs):Ec Q 34 #[S a (N xs) c] w λe w'=>e=Z (S (some ⟨w.heap.size,0,none⟩) (N xs) (N xs))/\Qm.Ls w.heap.size w' (some ⟨w.heap.size,0,none⟩) xs/\Below w.heap.size w w':=by
 obtain⟨I,p⟩:=M;have q:=XT underlying41 nfGlob (by omega) (N xs) I;have D:=Hm A;have Hl:=Hm p;have C:Hid (Cp PGlob Qm.z 3 180 w w.heap.size (N xs) 0 xs (w.alloc (Fc (madeCells #[U O 0,G false,S none 0 0] (N xs*3)) 180))):=Cp.start (by simp[madeCells]);clear A p;go_enter func34,ntmps34;go_wp2;go_loopw [4] (λi wr=>∃k:Nat,k<=N xs/\i=U O k/\Cp PGlob Qm.z 3 180 w w.heap.size (N xs) k xs wr) (λi _=>N xs-(intOf i).toNat)
 case atStart=>exact⟨0,Kw _,rfl,C.o⟩
 obtain⟨k,hk,rfl,f⟩:=hrel;clear C q;by_cases g:k<N xs
 . (have R:(k:Int)<(N xs:Int):=by omega);rcases D.o.up (up_below f.bel)with n|⟨b,o,X,_,v⟩
   . subst n;simp at g
   have m:=v k g;have l:=Hl.o k g;subst X;obtain⟨x,n⟩:∃x,x=xs.getD k Qm.z:=⟨_,rfl⟩;rw[<- n]at m l;obtain⟨a1,Y,⟨H,F,E⟩,u⟩:=m;have B:=Hm (toGlob_c x a1 Y wr u l);have HX:=Hm n;have s:=Hm f;clear n v f u D;(go_wp2_with fail);refine B.o.mono ?_;rintro e w1 ⟨b1,rfl,t,y⟩;have d:=s.o.keep PGlob.up y;obtain⟨L,j,V⟩:=d.cells;obtain⟨u0,e0⟩:=j (k*3) (by omega);obtain⟨u1,e1⟩:=j (k*3+1) (by omega);obtain⟨u2,e2⟩:=j (k*3+2) (by omega);have r:=Hm (d.step PGlob.up g [U O x.ty.ty,G x.ty.mu,S (some ⟨b1,0,none⟩) (N x.ini) (N x.ini)] rfl (by rw[<- HX.o];exact⟨_,_,rfl,t.mono (by have:=s.o.cells.1;omega)⟩));clear t y d j B s H F E;go_wp2;(go_roundw);(case rel=>exact⟨k+1,by omega,by go_num,r.o⟩);case measure=>simp[intOf];omega
 have e:k=N xs:=by omega
 subst e;go_wp2;go_ret;exact⟨rfl,PGlob.ls f,f.bel⟩
theorem toEle_c (x:Ele)(p:Option Ad)(c1:Nat)(n:Option Ad)(c2:Nat)(w:J)(hI:Ele.Is 0 w x p n)(hl:Ele.LB 1048576 x):Ec Q 96 #[Ag #[S p (N x.off) c1,S n (N x.fs) c2]] w λe w'=>∃k j,e=Z (Ag #[S (some ⟨k,0,none⟩) (N x.off) (N x.off),S (some ⟨j,0,none⟩) (N x.fs) (N x.fs)])/\Ele.Is w.heap.size w' x (some ⟨k,0,none⟩) (some ⟨j,0,none⟩)/\Below w.heap.size w w':=by
 obtain⟨q,E⟩:∃q,q=w.heap.size:=⟨_,rfl⟩;obtain⟨A,a⟩:∃V,V=((w.alloc (Fc #[S p (N x.off) c1,S n (N x.fs) c2] 154)).alloc (Fc #[S none 0 0,S none 0 0] 195)).alloc (Fc #[S none 0 0,S none 0 0] 195):=⟨_,rfl⟩;have g:Mo w.heap.size w [box 195 2 (q+2) [S none 0 0,S none 0 0],box 195 2 (q+1) [S none 0 0,S none 0 0],box 154 2 q [S p (N x.off) c1,S n (N x.fs) c2]] A:=by have h0:Mo w.heap.size w [] w:=⟨Own.nil _ _,Below.refl _ _,lRz⟩;have:=((h0.box (cur:=#[S p (N x.off) c1,S n (N x.fs) c2]) 154 2 rfl).box (cur:=#[S none 0 0,S none 0 0]) 195 2 rfl).box (cur:=#[S none 0 0,S none 0 0]) 195 2 rfl;rw[a,E];simpa using this
 have ai:q+3<=A.heap.size:=by rw[a,E];simp
 have u:w.heap.size<=q+3:=by omega
 have HI:=Hm hI;have HL:=Hm hl;clear hI hl;go_enter func96,ntmps96;go_upto_region 2 with fail
 rw[<- a,<- E];clear a E;have d:=(g.tail.tail.b0 0).1;have s:=Hm (toIns_c p c1 x.off A HL.o.1 ((HI.o.1).up (up_below g.b)));obtain⟨k,m⟩:∃B,B=A.heap.size:=⟨_,rfl⟩;rw[<- m]at s;have L:q+3<=k:=by omega
 have C:=Hm m;clear m;go_wp2_with fail
 refine s.o.mono ?_;rintro e W ⟨rfl,Y,l⟩;rw[C.o]at l;have c:=g.keep l;obtain⟨z,y⟩:=c.b0 0;obtain⟨t,a⟩:∃V,V=W.setCell ⟨q+2,0,none⟩ (S (some ⟨k,0,none⟩) (N x.off) (N x.off)):=⟨_,rfl⟩;have f:=c.set 0 (S (some ⟨k,0,none⟩) (N x.off) (N x.off));rw[<- a]at f;have ah:A.heap.size<=t.heap.size:=by rw[a];simpa using l.size
 have N1:=Hm ((Y.mono L).up (show Up (q+3) W t by rw[a];exact Q8 (by omega)));clear g c l d Y s C;go_upto_region 3 with fail
 rw[<- a];clear a z y;have g:=f;clear f;have d:=(g.tail.tail.b0 1).1;have s:=Hm (rtInts_c n c2 x.fs t HL.o.2 ((HI.o.2).up (up_below g.b)));obtain⟨j,m⟩:∃B,B=t.heap.size:=⟨_,rfl⟩;rw[<- m]at s;have I:q+3<=j:=by omega
 have C:=Hm m;clear m;go_wp2_with fail
 refine s.o.mono ?_;rintro e W ⟨rfl,X,l⟩;rw[C.o]at l;have c:=g.keep l;obtain⟨z,y⟩:=c.b0 1;obtain⟨r,a⟩:∃V,V=W.setCell ⟨q+2,1,none⟩ (S (some ⟨j,0,none⟩) (N x.fs) (N x.fs)):=⟨_,rfl⟩;have f:=c.set 1 (S (some ⟨j,0,none⟩) (N x.fs) (N x.fs));rw[<- a]at f;have U1:Hid (Up (q+3) t r):=by rw[a];exact upS l (by omega)
 have H:t.heap.size<=r.heap.size:=by rw[a];simpa using l.size
 have N2:=Hm ((X.mono I).up (show Up (q+3) W r by rw[a];exact Q8 (by omega)));clear g c l d X s C;go_upto_region 4 with fail
 rw[<- a];clear a z y;have g:=f;clear f;have D:=g.perm (Kf _ _ _);have k0:=(g.b0 0).1;obtain⟨z0,y0⟩:=D.b0 0;have k1:=(g.b0 1).1;obtain⟨z1,y1⟩:=D.b0 1;have HF:=Hm ((D.set 0 (S (some ⟨k,0,none⟩) (N x.off) (N x.off))).set 1 (S (some ⟨j,0,none⟩) (N x.fs) (N x.fs)));have R:Up (q+3) r r:=λ_ _ _=>rfl;have F1:=upT U1.o H R;have M1:=Hm (N1.o.up F1);have M2:=Hm (N2.o.up R);clear F1 R;clear D g;go_wp2;refine bgen (λM=>Mo w.heap.size w [box 195 2 (q+1) [S (some ⟨k,0,none⟩) (N x.off) (N x.off),S (some ⟨j,0,none⟩) (N x.fs) (N x.fs)],box 195 2 (q+2) [S (some ⟨k,0,none⟩) (N x.off) (N x.off),S (some ⟨j,0,none⟩) (N x.fs) (N x.fs)],box 154 2 q [S p (N x.off) c1,S n (N x.fs) c2]] M/\Up (q+3) r M) ⟨HF.o,XA (by omega) [S (some ⟨k,0,none⟩) (N x.off) (N x.off),S (some ⟨j,0,none⟩) (N x.fs) (N x.fs)] r 0⟩ ?_;rintro M ⟨F,hu⟩;have u0:=(F.b0 0).1;have u1:=(F.b0 1).1;exact bodyPost_ret (v:=Ag #[S (some ⟨k,0,none⟩) (N x.off) (N x.off),S (some ⟨j,0,none⟩) (N x.fs) (N x.fs)]) (by simp[results,results96,go_sem,u0,u1]) rfl ⟨k,j,rfl,⟨(M1.o.up hu).mono u,(M2.o.up hu).mono u⟩,F.b⟩
def PEle (B:Nat)(w:J)(x:Ele)(cs:List Vu):Prop:=∃a1 c1 a2 c2,cs=[S a1 (N x.off) c1,S a2 (N x.fs) c2]/\Ele.Is B w x a1 a2
theorem PEle.up (B:Nat)(w a:J)(x:Ele)(cs:List Vu):PEle B w x cs->Up B w a->PEle B a x cs:=λ⟨a1,c1,a2,c2,e,h⟩ u=>⟨a1,c1,a2,c2,e,h.up u⟩
theorem PEle.ls {xs:List Ele}(h:Cp PEle Ele.z 2 195 w g (N xs) (N xs) xs W):Ele.Ls g W (some ⟨g,0,none⟩) xs:=by
 refine .inr ⟨g,0,rfl,lRz,λi hi=>?_⟩;obtain⟨cs,_,b,j,d,f,c,rfl,a⟩:=h.done i hi;rw[Tx];exact Ele.At.mono (show Ele.At (g+1) W g (i*2) (xs.getD i Ele.z)from⟨j,d,f,c,⟨b 0 _ rfl,b 1 _ rfl⟩,a⟩) (Hx g)
theorem nfEle:(Q.info? 195).map (λi=>(i.zero,i.size,i.bytes))=some (some (Ag #[S none 0 0,S none 0 0]),2,48):=by kernel_rfl
theorem toEles_c (a:Option Ad)(c:Nat)(xs:List Ele)(w:J)(L:N xs<=1048576/\∀i,i<N xs->Ele.LB 1048576 (xs.getD i Ele.z))(A:Ele.Ls 0 w a xs):Ec Q 36 #[S a (N xs) c] w λe w'=>e=Z (S (some ⟨w.heap.size,0,none⟩) (N xs) (N xs))/\Ele.Ls w.heap.size w' (some ⟨w.heap.size,0,none⟩) xs/\Below w.heap.size w w':=by
 obtain⟨H,p⟩:=L;have q:=XT underlying43 nfEle (by omega) (N xs) H;have D:=Hm A;have Hl:=Hm p;have C:Hid (Cp PEle Ele.z 2 195 w w.heap.size (N xs) 0 xs (w.alloc (Fc (madeCells #[S none 0 0,S none 0 0] (N xs*2)) 195))):=Cp.start (by simp[madeCells]);clear A p;go_enter func36,ntmps36;go_wp2;go_loopw [4] (λi wr=>∃k:Nat,k<=N xs/\i=U O k/\Cp PEle Ele.z 2 195 w w.heap.size (N xs) k xs wr) (λi _=>N xs-(intOf i).toNat)
 case atStart=>exact⟨0,Kw _,rfl,C.o⟩
 obtain⟨k,hk,rfl,f⟩:=hrel;clear C q;by_cases g:k<N xs
 . (have M:(k:Int)<(N xs:Int):=by omega);rcases D.o.up (up_below f.bel)with n|⟨b,o,V,_,v⟩
   . subst n;simp at g
   have m:=v k g;have l:=Hl.o k g;subst V;obtain⟨x,n⟩:∃x,x=xs.getD k Ele.z:=⟨_,rfl⟩;rw[<- n]at m l;obtain⟨a1,Y,a2,X,⟨F,E⟩,u⟩:=m;have B:=Hm (toEle_c x a1 Y a2 X wr u l);have HX:=Hm n;have s:=Hm f;clear n v f u D;(go_wp2_with fail);refine B.o.mono ?_;rintro e w1 ⟨b1,b2,rfl,t,y⟩;have d:=s.o.keep PEle.up y;obtain⟨I,j,R⟩:=d.cells;obtain⟨u0,e0⟩:=j (k*2) (by omega);obtain⟨u1,e1⟩:=j (k*2+1) (by omega);have r:=Hm (d.step PEle.up g [S (some ⟨b1,0,none⟩) (N x.off) (N x.off),S (some ⟨b2,0,none⟩) (N x.fs) (N x.fs)] rfl (by rw[<- HX.o];exact⟨_,_,_,_,rfl,t.mono (by have:=s.o.cells.1;omega)⟩));clear t y d j B s F E;go_wp2;(go_roundw);(case rel=>exact⟨k+1,by omega,by go_num,r.o⟩);case measure=>simp[intOf];omega
 have e:k=N xs:=by omega
 subst e;go_wp2;go_ret;exact⟨rfl,PEle.ls f,f.bel⟩
theorem toCod_c (x:Cod)(p:Option Ad)(c1:Nat)(n:Option Ad)(c2:Nat)(w:J)(hI:Cod.Is 0 w x p n)(hl:Cod.LB 1048576 x):Ec Q 97 #[Ag #[S p (N x.gq) c1,S n (N x.body) c2]] w λe w'=>∃k j,e=Z (Ag #[S (some ⟨k,0,none⟩) (N x.gq) (N x.gq),S (some ⟨j,0,none⟩) (N x.body) (N x.body)])/\Cod.Is w.heap.size w' x (some ⟨k,0,none⟩) (some ⟨j,0,none⟩)/\Below w.heap.size w w':=by
 obtain⟨q,E⟩:∃q,q=w.heap.size:=⟨_,rfl⟩;obtain⟨A,a⟩:∃V,V=((w.alloc (Fc #[S p (N x.gq) c1,S n (N x.body) c2] 158)).alloc (Fc #[S none 0 0,S none 0 0] 72)).alloc (Fc #[S none 0 0,S none 0 0] 72):=⟨_,rfl⟩;have g:Mo w.heap.size w [box 72 2 (q+2) [S none 0 0,S none 0 0],box 72 2 (q+1) [S none 0 0,S none 0 0],box 158 2 q [S p (N x.gq) c1,S n (N x.body) c2]] A:=by have h0:Mo w.heap.size w [] w:=⟨Own.nil _ _,Below.refl _ _,lRz⟩;have:=((h0.box (cur:=#[S p (N x.gq) c1,S n (N x.body) c2]) 158 2 rfl).box (cur:=#[S none 0 0,S none 0 0]) 72 2 rfl).box (cur:=#[S none 0 0,S none 0 0]) 72 2 rfl;rw[a,E];simpa using this
 have ai:q+3<=A.heap.size:=by rw[a,E];simp
 have u:w.heap.size<=q+3:=by omega
 have HI:=Hm hI;have HL:=Hm hl;clear hI hl;go_enter func97,ntmps97;go_upto_region 2 with fail
 rw[<- a,<- E];clear a E;have d:=(g.tail.tail.b0 0).1;have s:=Hm (toGrps_c p c1 x.gq A HL.o.1 ((HI.o.1).up (up_below g.b)));obtain⟨k,m⟩:∃B,B=A.heap.size:=⟨_,rfl⟩;rw[<- m]at s;have L:q+3<=k:=by omega
 have C:=Hm m;clear m;go_wp2_with fail
 refine s.o.mono ?_;rintro e W ⟨rfl,Y,l⟩;rw[C.o]at l;have c:=g.keep l;obtain⟨z,y⟩:=c.b0 0;obtain⟨t,a⟩:∃V,V=W.setCell ⟨q+2,0,none⟩ (S (some ⟨k,0,none⟩) (N x.gq) (N x.gq)):=⟨_,rfl⟩;have f:=c.set 0 (S (some ⟨k,0,none⟩) (N x.gq) (N x.gq));rw[<- a]at f;have ah:A.heap.size<=t.heap.size:=by rw[a];simpa using l.size
 have N1:=Hm ((Y.mono L).up (show Up (q+3) W t by rw[a];exact Q8 (by omega)));clear g c l d Y s C;go_upto_region 3 with fail
 rw[<- a];clear a z y;have g:=f;clear f;have d:=(g.tail.tail.b0 1).1;have s:=Hm (toIns_c n c2 x.body t HL.o.2 ((HI.o.2).up (up_below g.b)));obtain⟨j,m⟩:∃B,B=t.heap.size:=⟨_,rfl⟩;rw[<- m]at s;have I:q+3<=j:=by omega
 have C:=Hm m;clear m;go_wp2_with fail
 refine s.o.mono ?_;rintro e W ⟨rfl,X,l⟩;rw[C.o]at l;have c:=g.keep l;obtain⟨z,y⟩:=c.b0 1;obtain⟨r,a⟩:∃V,V=W.setCell ⟨q+2,1,none⟩ (S (some ⟨j,0,none⟩) (N x.body) (N x.body)):=⟨_,rfl⟩;have f:=c.set 1 (S (some ⟨j,0,none⟩) (N x.body) (N x.body));rw[<- a]at f;have U1:Hid (Up (q+3) t r):=by rw[a];exact upS l (by omega)
 have H:t.heap.size<=r.heap.size:=by rw[a];simpa using l.size
 have N2:=Hm ((X.mono I).up (show Up (q+3) W r by rw[a];exact Q8 (by omega)));clear g c l d X s C;go_upto_region 4 with fail
 rw[<- a];clear a z y;have g:=f;clear f;have D:=g.perm (Kf _ _ _);have k0:=(g.b0 0).1;obtain⟨z0,y0⟩:=D.b0 0;have k1:=(g.b0 1).1;obtain⟨z1,y1⟩:=D.b0 1;have HF:=Hm ((D.set 0 (S (some ⟨k,0,none⟩) (N x.gq) (N x.gq))).set 1 (S (some ⟨j,0,none⟩) (N x.body) (N x.body)));have R:Up (q+3) r r:=λ_ _ _=>rfl;have F1:=upT U1.o H R;have M1:=Hm (N1.o.up F1);have M2:=Hm (N2.o.up R);clear F1 R;clear D g;go_wp2;refine bgen (λM=>Mo w.heap.size w [box 72 2 (q+1) [S (some ⟨k,0,none⟩) (N x.gq) (N x.gq),S (some ⟨j,0,none⟩) (N x.body) (N x.body)],box 72 2 (q+2) [S (some ⟨k,0,none⟩) (N x.gq) (N x.gq),S (some ⟨j,0,none⟩) (N x.body) (N x.body)],box 158 2 q [S p (N x.gq) c1,S n (N x.body) c2]] M/\Up (q+3) r M) ⟨HF.o,XA (by omega) [S (some ⟨k,0,none⟩) (N x.gq) (N x.gq),S (some ⟨j,0,none⟩) (N x.body) (N x.body)] r 0⟩ ?_;rintro M ⟨F,hu⟩;have u0:=(F.b0 0).1;have u1:=(F.b0 1).1;exact bodyPost_ret (v:=Ag #[S (some ⟨k,0,none⟩) (N x.gq) (N x.gq),S (some ⟨j,0,none⟩) (N x.body) (N x.body)]) (by simp[results,results97,go_sem,u0,u1]) rfl ⟨k,j,rfl,⟨(M1.o.up hu).mono u,(M2.o.up hu).mono u⟩,F.b⟩
def PCod (B:Nat)(w:J)(x:Cod)(cs:List Vu):Prop:=∃a1 c1 a2 c2,cs=[S a1 (N x.gq) c1,S a2 (N x.body) c2]/\c2=N x.body/\Cod.Is B w x a1 a2
theorem PCod.up (B:Nat)(w a:J)(x:Cod)(cs:List Vu):PCod B w x cs->Up B w a->PCod B a x cs:=λ⟨a1,c1,a2,c2,e,ec,h⟩ u=>⟨a1,c1,a2,c2,e,ec,h.up u⟩
theorem PCod.ls (h:Cp PCod Cod.z 2 72 w g (N xs) (N xs) xs W):Cod.Ls g W (some ⟨g,0,none⟩) xs:=by
 refine .inr ⟨g,0,rfl,lRz,λi hi=>?_⟩;obtain⟨cs,_,b,j,d,f,c,rfl,_,a⟩:=h.done i hi;rw[Tx];exact Cod.At.mono (show Cod.At (g+1) W g (i*2) (xs.getD i Cod.z)from⟨j,d,f,c,⟨b 0 _ rfl,b 1 _ rfl⟩,a⟩) (Hx g)
structure CLs (B:Nat)(W:J)(a:Option Ad)(xs:List Cod):Prop where
 ls:Cod.Ls B W a xs
 cp:xs=[]\/∃g off,a=some ⟨g,off,none⟩/\B<=g/\∀i,i<N xs->∃a2,W.cell? ⟨g,off+i*2+1,none⟩=some (S a2 (xs.getD i Cod.z).body.length (xs.getD i Cod.z).body.length)
theorem CLs.mono {c:Nat}{a:Option Ad}(h:CLs B W a xs)(b:c<=B):CLs c W a xs:=⟨h.ls.mono b,h.cp.imp id λ⟨g,off,e,hg,k⟩=>⟨g,off,e,Kq b hg,k⟩⟩
theorem CLs.up {b:J}{a:Option Ad}(h:CLs B W a xs)(u:Up B W b):CLs B b a xs:=⟨h.ls.up u,h.cp.imp id λ⟨g,off,e,hg,k⟩=>⟨g,off,e,hg,λi hi=>by obtain⟨d,c⟩:=k i hi;exact⟨d,u.cell hg c⟩⟩⟩
theorem PCod.cls (h:Cp PCod Cod.z 2 72 w g (N xs) (N xs) xs W):CLs g W (some ⟨g,0,none⟩) xs:=by
 refine⟨PCod.ls h,.inr ⟨g,0,rfl,lRz,λi hi=>?_⟩⟩;obtain⟨cs,_,b,j,f,c,d,rfl,rfl,a⟩:=h.done i hi;rw[Tx];exact⟨c,b 1 _ rfl⟩
theorem nfCod:(Q.info? 72).map (λi=>(i.zero,i.size,i.bytes))=some (some (Ag #[S none 0 0,S none 0 0]),2,48):=by kernel_rfl
theorem toCods_c (a:Option Ad)(c:Nat)(xs:List Cod)(w:J)(L:N xs<=1048576/\∀i,i<N xs->Cod.LB 1048576 (xs.getD i Cod.z))(A:Cod.Ls 0 w a xs):Ec Q 37 #[S a (N xs) c] w λe w'=>e=Z (S (some ⟨w.heap.size,0,none⟩) (N xs) (N xs))/\CLs w.heap.size w' (some ⟨w.heap.size,0,none⟩) xs/\Below w.heap.size w w':=by
 obtain⟨H,p⟩:=L;have q:=XT underlying44 nfCod (by omega) (N xs) H;have D:=Hm A;have Hl:=Hm p;have C:Hid (Cp PCod Cod.z 2 72 w w.heap.size (N xs) 0 xs (w.alloc (Fc (madeCells #[S none 0 0,S none 0 0] (N xs*2)) 72))):=Cp.start (by simp[madeCells]);clear A p;go_enter func37,ntmps37;go_wp2;go_loopw [4] (λi wr=>∃k:Nat,k<=N xs/\i=U O k/\Cp PCod Cod.z 2 72 w w.heap.size (N xs) k xs wr) (λi _=>N xs-(intOf i).toNat)
 case atStart=>exact⟨0,Kw _,rfl,C.o⟩
 obtain⟨k,hk,rfl,f⟩:=hrel;clear C q;by_cases g:k<N xs
 . (have M:(k:Int)<(N xs:Int):=by omega);rcases D.o.up (up_below f.bel)with n|⟨b,o,V,_,v⟩
   . subst n;simp at g
   have m:=v k g;have l:=Hl.o k g;subst V;obtain⟨x,n⟩:∃x,x=xs.getD k Cod.z:=⟨_,rfl⟩;rw[<- n]at m l;obtain⟨a1,Y,a2,X,⟨F,E⟩,u⟩:=m;have B:=Hm (toCod_c x a1 Y a2 X wr u l);have HX:=Hm n;have s:=Hm f;clear n v f u D;(go_wp2_with fail);refine B.o.mono ?_;rintro e w1 ⟨b1,b2,rfl,t,y⟩;have d:=s.o.keep PCod.up y;obtain⟨I,j,R⟩:=d.cells;obtain⟨u0,e0⟩:=j (k*2) (by omega);obtain⟨u1,e1⟩:=j (k*2+1) (by omega);have r:=Hm (d.step PCod.up g [S (some ⟨b1,0,none⟩) (N x.gq) (N x.gq),S (some ⟨b2,0,none⟩) (N x.body) (N x.body)] rfl (by rw[<- HX.o];exact⟨_,_,_,_,rfl,rfl,t.mono (by have:=s.o.cells.1;omega)⟩));clear t y d j B s F E;go_wp2;(go_roundw);(case rel=>exact⟨k+1,by omega,by go_num,r.o⟩);case measure=>simp[intOf];omega
 have e:k=N xs:=by omega
 subst e;go_wp2;go_ret;exact⟨rfl,PCod.cls f,f.bel⟩
theorem toDat_c (x:Dat)(p:Option Ad)(c1:Nat)(n:Option Ad)(c2:Nat)(w:J)(hI:Dat.Is 0 w x p n)(hl:Dat.LB 1048576 x):Ec Q 98 #[Ag #[S p (N x.off) c1,S n (N x.bs) c2]] w λe w'=>∃k j,e=Z (Ag #[S (some ⟨k,0,none⟩) (N x.off) (N x.off),S (some ⟨j,0,none⟩) (N x.bs) (N x.bs)])/\Dat.Is w.heap.size w' x (some ⟨k,0,none⟩) (some ⟨j,0,none⟩)/\Below w.heap.size w w':=by
 obtain⟨q,E⟩:∃q,q=w.heap.size:=⟨_,rfl⟩;obtain⟨A,a⟩:∃V,V=((w.alloc (Fc #[S p (N x.off) c1,S n (N x.bs) c2] 162)).alloc (Fc #[S none 0 0,S none 0 0] 199)).alloc (Fc #[S none 0 0,S none 0 0] 199):=⟨_,rfl⟩;have g:Mo w.heap.size w [box 199 2 (q+2) [S none 0 0,S none 0 0],box 199 2 (q+1) [S none 0 0,S none 0 0],box 162 2 q [S p (N x.off) c1,S n (N x.bs) c2]] A:=by have h0:Mo w.heap.size w [] w:=⟨Own.nil _ _,Below.refl _ _,lRz⟩;have:=((h0.box (cur:=#[S p (N x.off) c1,S n (N x.bs) c2]) 162 2 rfl).box (cur:=#[S none 0 0,S none 0 0]) 199 2 rfl).box (cur:=#[S none 0 0,S none 0 0]) 199 2 rfl;rw[a,E];simpa using this
 have ai:q+3<=A.heap.size:=by rw[a,E];simp
 have u:w.heap.size<=q+3:=by omega
 have HI:=Hm hI;have HL:=Hm hl;clear hI hl;go_enter func98,ntmps98;go_upto_region 2 with fail
 rw[<- a,<- E];clear a E;have d:=(g.tail.tail.b0 0).1;have s:=Hm (toIns_c p c1 x.off A HL.o.1 ((HI.o.1).up (up_below g.b)));obtain⟨k,m⟩:∃B,B=A.heap.size:=⟨_,rfl⟩;rw[<- m]at s;have L:q+3<=k:=by omega
 have C:=Hm m;clear m;go_wp2_with fail
 refine s.o.mono ?_;rintro e W ⟨rfl,Y,l⟩;rw[C.o]at l;have c:=g.keep l;obtain⟨z,y⟩:=c.b0 0;obtain⟨t,a⟩:∃V,V=W.setCell ⟨q+2,0,none⟩ (S (some ⟨k,0,none⟩) (N x.off) (N x.off)):=⟨_,rfl⟩;have f:=c.set 0 (S (some ⟨k,0,none⟩) (N x.off) (N x.off));rw[<- a]at f;have ah:A.heap.size<=t.heap.size:=by rw[a];simpa using l.size
 have N1:=Hm ((Y.mono L).up (show Up (q+3) W t by rw[a];exact Q8 (by omega)));clear g c l d Y s C;go_upto_region 3 with fail
 rw[<- a];clear a z y;have g:=f;clear f;have d:=(g.tail.tail.b0 1).1;have s:=Hm (rtBytes_c n c2 x.bs t HL.o.2 ((HI.o.2).up (up_below g.b)));obtain⟨j,m⟩:∃B,B=t.heap.size:=⟨_,rfl⟩;rw[<- m]at s;have I:q+3<=j:=by omega
 have C:=Hm m;clear m;go_wp2_with fail
 refine s.o.mono ?_;rintro e W ⟨rfl,X,l⟩;rw[C.o]at l;have c:=g.keep l;obtain⟨z,y⟩:=c.b0 1;obtain⟨r,a⟩:∃V,V=W.setCell ⟨q+2,1,none⟩ (S (some ⟨j,0,none⟩) (N x.bs) (N x.bs)):=⟨_,rfl⟩;have f:=c.set 1 (S (some ⟨j,0,none⟩) (N x.bs) (N x.bs));rw[<- a]at f;have U1:Hid (Up (q+3) t r):=by rw[a];exact upS l (by omega)
 have H:t.heap.size<=r.heap.size:=by rw[a];simpa using l.size
 have N2:=Hm ((X.mono I).up (show Up (q+3) W r by rw[a];exact Q8 (by omega)));clear g c l d X s C;go_upto_region 4 with fail
 rw[<- a];clear a z y;have g:=f;clear f;have D:=g.perm (Kf _ _ _);have k0:=(g.b0 0).1;obtain⟨z0,y0⟩:=D.b0 0;have k1:=(g.b0 1).1;obtain⟨z1,y1⟩:=D.b0 1;have HF:=Hm ((D.set 0 (S (some ⟨k,0,none⟩) (N x.off) (N x.off))).set 1 (S (some ⟨j,0,none⟩) (N x.bs) (N x.bs)));have R:Up (q+3) r r:=λ_ _ _=>rfl;have F1:=upT U1.o H R;have M1:=Hm (N1.o.up F1);have M2:=Hm (N2.o.up R);clear F1 R;clear D g;go_wp2;refine bgen (λM=>Mo w.heap.size w [box 199 2 (q+1) [S (some ⟨k,0,none⟩) (N x.off) (N x.off),S (some ⟨j,0,none⟩) (N x.bs) (N x.bs)],box 199 2 (q+2) [S (some ⟨k,0,none⟩) (N x.off) (N x.off),S (some ⟨j,0,none⟩) (N x.bs) (N x.bs)],box 162 2 q [S p (N x.off) c1,S n (N x.bs) c2]] M/\Up (q+3) r M) ⟨HF.o,XA (by omega) [S (some ⟨k,0,none⟩) (N x.off) (N x.off),S (some ⟨j,0,none⟩) (N x.bs) (N x.bs)] r 0⟩ ?_;rintro M ⟨F,hu⟩;have u0:=(F.b0 0).1;have u1:=(F.b0 1).1;exact bodyPost_ret (v:=Ag #[S (some ⟨k,0,none⟩) (N x.off) (N x.off),S (some ⟨j,0,none⟩) (N x.bs) (N x.bs)]) (by simp[results,results98,go_sem,u0,u1]) rfl ⟨k,j,rfl,⟨(M1.o.up hu).mono u,(M2.o.up hu).mono u⟩,F.b⟩
def PDat (B:Nat)(w:J)(x:Dat)(cs:List Vu):Prop:=∃a1 c1 a2 c2,cs=[S a1 (N x.off) c1,S a2 (N x.bs) c2]/\Dat.Is B w x a1 a2
theorem PDat.up (B:Nat)(w a:J)(x:Dat)(cs:List Vu):PDat B w x cs->Up B w a->PDat B a x cs:=λ⟨a1,c1,a2,c2,e,h⟩ u=>⟨a1,c1,a2,c2,e,h.up u⟩
theorem PDat.ls {xs:List Dat}(h:Cp PDat Dat.z 2 199 w g (N xs) (N xs) xs W):Dat.Ls g W (some ⟨g,0,none⟩) xs:=by
 refine .inr ⟨g,0,rfl,lRz,λi hi=>?_⟩;obtain⟨cs,_,b,j,d,f,c,rfl,a⟩:=h.done i hi;rw[Tx];exact Dat.At.mono (show Dat.At (g+1) W g (i*2) (xs.getD i Dat.z)from⟨j,d,f,c,⟨b 0 _ rfl,b 1 _ rfl⟩,a⟩) (Hx g)
theorem nfDat:(Q.info? 199).map (λi=>(i.zero,i.size,i.bytes))=some (some (Ag #[S none 0 0,S none 0 0]),2,48):=by kernel_rfl
theorem toDats_c (a:Option Ad)(c:Nat)(xs:List Dat)(w:J)(L:N xs<=1048576/\∀i,i<N xs->Dat.LB 1048576 (xs.getD i Dat.z))(A:Dat.Ls 0 w a xs):Ec Q 38 #[S a (N xs) c] w λe w'=>e=Z (S (some ⟨w.heap.size,0,none⟩) (N xs) (N xs))/\Dat.Ls w.heap.size w' (some ⟨w.heap.size,0,none⟩) xs/\Below w.heap.size w w':=by
 obtain⟨H,p⟩:=L;have q:=XT underlying45 nfDat (by omega) (N xs) H;have D:=Hm A;have Hl:=Hm p;have C:Hid (Cp PDat Dat.z 2 199 w w.heap.size (N xs) 0 xs (w.alloc (Fc (madeCells #[S none 0 0,S none 0 0] (N xs*2)) 199))):=Cp.start (by simp[madeCells]);clear A p;go_enter func38,ntmps38;go_wp2;go_loopw [4] (λi wr=>∃k:Nat,k<=N xs/\i=U O k/\Cp PDat Dat.z 2 199 w w.heap.size (N xs) k xs wr) (λi _=>N xs-(intOf i).toNat)
 case atStart=>exact⟨0,Kw _,rfl,C.o⟩
 obtain⟨k,hk,rfl,f⟩:=hrel;clear C q;by_cases g:k<N xs
 . (have M:(k:Int)<(N xs:Int):=by omega);rcases D.o.up (up_below f.bel)with n|⟨b,o,V,_,v⟩
   . subst n;simp at g
   have m:=v k g;have l:=Hl.o k g;subst V;obtain⟨x,n⟩:∃x,x=xs.getD k Dat.z:=⟨_,rfl⟩;rw[<- n]at m l;obtain⟨a1,Y,a2,X,⟨F,E⟩,u⟩:=m;have B:=Hm (toDat_c x a1 Y a2 X wr u l);have HX:=Hm n;have s:=Hm f;clear n v f u D;(go_wp2_with fail);refine B.o.mono ?_;rintro e w1 ⟨b1,b2,rfl,t,y⟩;have d:=s.o.keep PDat.up y;obtain⟨I,j,R⟩:=d.cells;obtain⟨u0,e0⟩:=j (k*2) (by omega);obtain⟨u1,e1⟩:=j (k*2+1) (by omega);have r:=Hm (d.step PDat.up g [S (some ⟨b1,0,none⟩) (N x.off) (N x.off),S (some ⟨b2,0,none⟩) (N x.bs) (N x.bs)] rfl (by rw[<- HX.o];exact⟨_,_,_,_,rfl,t.mono (by have:=s.o.cells.1;omega)⟩));clear t y d j B s F E;go_wp2;(go_roundw);(case rel=>exact⟨k+1,by omega,by go_num,r.o⟩);case measure=>simp[intOf];omega
 have e:k=N xs:=by omega
 subst e;go_wp2;go_ret;exact⟨rfl,PDat.ls f,f.bel⟩
theorem toCus_c (x:Cus)(k:Option Ad)(c1:Nat)(w:J)(L:Cus.Is 0 w x k)(I:Cus.LB 1048576 x):Ec Q 99 #[Ag #[U O x.aft,Xs x.nm,S k (N x.bs) c1]] w λe w'=>∃g,e=Z (Ag #[U O x.aft,Xs x.nm,S (some ⟨g,0,none⟩) (N x.bs) (N x.bs)])/\Cus.Is w.heap.size w' x (some ⟨g,0,none⟩)/\Below w.heap.size w w':=by
 obtain⟨q,p⟩:∃q,q=w.heap.size:=⟨_,rfl⟩;obtain⟨r,f⟩:∃V,V=((w.alloc (Fc #[U O x.aft,Xs x.nm,S k (N x.bs) c1] 165)).alloc (Fc #[U O 0,Xs ⟨#[]⟩,S none 0 0] 201)).alloc (Fc #[U O 0,Xs ⟨#[]⟩,S none 0 0] 201):=⟨_,rfl⟩;have c:Mo w.heap.size w [box 201 3 (q+2) [U O 0,Xs ⟨#[]⟩,S none 0 0],box 201 3 (q+1) [U O 0,Xs ⟨#[]⟩,S none 0 0],box 165 3 q [U O x.aft,Xs x.nm,S k (N x.bs) c1]] r:=by have h0:Mo w.heap.size w [] w:=⟨Own.nil _ _,Below.refl _ _,lRz⟩;have:=((h0.box (cur:=#[U O x.aft,Xs x.nm,S k (N x.bs) c1]) 165 3 rfl).box (cur:=#[U O 0,Xs ⟨#[]⟩,S none 0 0]) 201 3 rfl).box (cur:=#[U O 0,Xs ⟨#[]⟩,S none 0 0]) 201 3 rfl;rw[f,p];simpa using this
 have ae:q+3<=r.heap.size:=by rw[f,p];simp
 have s:w.heap.size<=q+3:=by omega
 have HI:=Hm L;have HL:=Hm I;clear L I;go_enter func99,ntmps99;go_upto_region 2 with fail
 rw[<- f,<- p];clear f p;have d:=(c.tail.tail.b0 0).1;obtain⟨z,y⟩:=c.b0 0;obtain⟨E,f⟩:∃V,V=r.setCell ⟨q+2,0,none⟩ (U O x.aft):=⟨_,rfl⟩;have a:=c.set 0 (U O x.aft);rw[<- f]at a;have ad:r.heap.size<=E.heap.size:=by rw[f];simp
 go_upto_region 3 with fail
 rw[<- f];clear f c d z y;have c:=a;clear a;have d:=(c.tail.tail.b0 1).1;obtain⟨z,y⟩:=c.b0 1;obtain⟨D,f⟩:∃V,V=E.setCell ⟨q+2,1,none⟩ (Xs x.nm):=⟨_,rfl⟩;have a:=c.set 1 (Xs x.nm);rw[<- f]at a;have ac:E.heap.size<=D.heap.size:=by rw[f];simp
 go_upto_region 4 with fail
 rw[<- f];clear f c d z y;have c:=a;clear a;have d:=(c.tail.tail.b0 2).1;have F:=Hm (rtBytes_c k c1 x.bs D HL.o.2 ((HI.o).up (up_below c.b)));obtain⟨g,A⟩:∃B,B=D.heap.size:=⟨_,rfl⟩;rw[<- A]at F;have u:q+3<=g:=by omega
 have M:=Hm A;clear A;go_wp2_with fail
 refine F.o.mono ?_;rintro e W ⟨rfl,H,t⟩;rw[M.o]at t;have j:=c.keep t;obtain⟨z,y⟩:=j.b0 2;obtain⟨m,f⟩:∃V,V=W.setCell ⟨q+2,2,none⟩ (S (some ⟨g,0,none⟩) (N x.bs) (N x.bs)):=⟨_,rfl⟩;have a:=j.set 2 (S (some ⟨g,0,none⟩) (N x.bs) (N x.bs));rw[<- f]at a;have N1:=Hm ((H.mono u).up (show Up (q+3) W m by rw[f];exact Q8 (by omega)));clear c j t d H F M;go_upto_region 5 with fail
 rw[<- f];clear f z y;have c:=a;clear a;have l:=c.perm (Kf _ _ _);have k0:=(c.b0 0).1;obtain⟨z0,y0⟩:=l.b0 0;have k1:=(c.b0 1).1;obtain⟨z1,y1⟩:=l.b0 1;have k2:=(c.b0 2).1;obtain⟨z2,y2⟩:=l.b0 2;have HF:=Hm (((l.set 0 (U O x.aft)).set 1 (Xs x.nm)).set 2 (S (some ⟨g,0,none⟩) (N x.bs) (N x.bs)));have R:Up (q+3) m m:=λ_ _ _=>rfl;have M1:=Hm (N1.o.up R);clear R;clear l c;go_wp2;refine bgen (λC=>Mo w.heap.size w [box 201 3 (q+1) [U O x.aft,Xs x.nm,S (some ⟨g,0,none⟩) (N x.bs) (N x.bs)],box 201 3 (q+2) [U O x.aft,Xs x.nm,S (some ⟨g,0,none⟩) (N x.bs) (N x.bs)],box 165 3 q [U O x.aft,Xs x.nm,S k (N x.bs) c1]] C/\Up (q+3) m C) ⟨HF.o,XA (by omega) [U O x.aft,Xs x.nm,S (some ⟨g,0,none⟩) (N x.bs) (N x.bs)] m 0⟩ ?_;rintro C ⟨n,hu⟩;have u0:=(n.b0 0).1;have Y:=(n.b0 1).1;have X:=(n.b0 2).1;exact bodyPost_ret (v:=Ag #[U O x.aft,Xs x.nm,S (some ⟨g,0,none⟩) (N x.bs) (N x.bs)]) (by simp[results,results99,go_sem,u0,Y,X]) rfl ⟨g,rfl,(M1.o.up hu).mono s,n.b⟩
def PCus (B:Nat)(w:J)(x:Cus)(cs:List Vu):Prop:=∃a1 c1,cs=[U O x.aft,Xs x.nm,S a1 (N x.bs) c1]/\Cus.Is B w x a1
theorem PCus.up (B:Nat)(w a:J)(x:Cus)(cs:List Vu):PCus B w x cs->Up B w a->PCus B a x cs:=λ⟨a1,c1,e,h⟩ u=>⟨a1,c1,e,h.up u⟩
theorem PCus.ls {xs:List Cus}(h:Cp PCus Cus.z 3 201 w g (N xs) (N xs) xs W):Cus.Ls g W (some ⟨g,0,none⟩) xs:=by
 refine .inr ⟨g,0,rfl,lRz,λi hi=>?_⟩;obtain⟨cs,_,b,d,c,rfl,a⟩:=h.done i hi;rw[Tx];exact Cus.At.mono (show Cus.At (g+1) W g (i*3) (xs.getD i Cus.z)from⟨d,c,⟨b 0 _ rfl,b 1 _ rfl,b 2 _ rfl⟩,a⟩) (Hx g)
theorem nfCus:(Q.info? 201).map (λi=>(i.zero,i.size,i.bytes))=some (some (Ag #[U O 0,Xs ⟨#[]⟩,S none 0 0]),3,48):=by kernel_rfl
theorem toCuss_c (a:Option Ad)(c:Nat)(xs:List Cus)(w:J)(M:N xs<=1048576/\∀i,i<N xs->Cus.LB 1048576 (xs.getD i Cus.z))(A:Cus.Ls 0 w a xs):Ec Q 39 #[S a (N xs) c] w λe w'=>e=Z (S (some ⟨w.heap.size,0,none⟩) (N xs) (N xs))/\Cus.Ls w.heap.size w' (some ⟨w.heap.size,0,none⟩) xs/\Below w.heap.size w w':=by
 obtain⟨I,p⟩:=M;have q:=XT underlying46 nfCus (by omega) (N xs) I;have D:=Hm A;have Hl:=Hm p;have C:Hid (Cp PCus Cus.z 3 201 w w.heap.size (N xs) 0 xs (w.alloc (Fc (madeCells #[U O 0,Xs ⟨#[]⟩,S none 0 0] (N xs*3)) 201))):=Cp.start (by simp[madeCells]);clear A p;go_enter func39,ntmps39;go_wp2;go_loopw [4] (λi wr=>∃k:Nat,k<=N xs/\i=U O k/\Cp PCus Cus.z 3 201 w w.heap.size (N xs) k xs wr) (λi _=>N xs-(intOf i).toNat)
 case atStart=>exact⟨0,Kw _,rfl,C.o⟩
 obtain⟨k,hk,rfl,f⟩:=hrel;clear C q;by_cases g:k<N xs
 . (have R:(k:Int)<(N xs:Int):=by omega);rcases D.o.up (up_below f.bel)with n|⟨b,o,X,_,v⟩
   . subst n;simp at g
   have m:=v k g;have l:=Hl.o k g;subst X;obtain⟨x,n⟩:∃x,x=xs.getD k Cus.z:=⟨_,rfl⟩;rw[<- n]at m l;obtain⟨a1,Y,⟨H,F,E⟩,u⟩:=m;have B:=Hm (toCus_c x a1 Y wr u l);have HX:=Hm n;have s:=Hm f;clear n v f u D;(go_wp2_with fail);refine B.o.mono ?_;rintro e w1 ⟨b1,rfl,t,y⟩;have d:=s.o.keep PCus.up y;obtain⟨L,j,V⟩:=d.cells;obtain⟨u0,e0⟩:=j (k*3) (by omega);obtain⟨u1,e1⟩:=j (k*3+1) (by omega);obtain⟨u2,e2⟩:=j (k*3+2) (by omega);have r:=Hm (d.step PCus.up g [U O x.aft,Xs x.nm,S (some ⟨b1,0,none⟩) (N x.bs) (N x.bs)] rfl (by rw[<- HX.o];exact⟨_,_,rfl,t.mono (by have:=s.o.cells.1;omega)⟩));clear t y d j B s H F E;go_wp2;(go_roundw);(case rel=>exact⟨k+1,by omega,by go_num,r.o⟩);case measure=>simp[intOf];omega
 have e:k=N xs:=by omega
 subst e;go_wp2;go_ret;exact⟨rfl,PCus.ls f,f.bel⟩
