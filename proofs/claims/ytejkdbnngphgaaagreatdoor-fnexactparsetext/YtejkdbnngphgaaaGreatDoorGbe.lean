import Derived.Test.YtejkdbnngphgaaaGreatDoorGbb
import Derived.Test.YtejkdbnngphgaaaGreatDoorGbd
import Derived.Test.YtejkdbnngphgaaaGreatDoorGbc
set_option linter.all false
set_option maxHeartbeats 400000000
set_option maxRecDepth 100000
namespace Go.Proofs
open Value renaming int->U,slice->S,bool->G,string->Xs,agg->Ag
open IntKind renaming i64->O,u64->Ou
open Ending renaming returned->Z
open Obj renaming cells->Fc
open Go renaming World->J,Calls->Ec,Value->Vu,Addr->Ad
open Go.RowKit renaming Below->Bw
open Tryz renaming prog->Q
open Tryz
open List renaming getElem?_set_self->Ky,all_eq_true->Px,getElem?_set_ne->Kz,perm_middle->Hn,length_append->Kb,length_cons->Kj,length_nil->Kg,foldl_cons->Km,foldl_nil->Tq,getElem?_eq_getElem->Kv,nil_append->Hj,getElem?_eq_none->Hh,getElem?_append_left->Hb,mem_of_find?_eq_some->Mw,append_nil->Tb,perm_append_comm->Hp,getD->Ty,getD_cons_zero->Tg,eq_nil_of_length_eq_zero->Lk,perm_iff_count->Cm,count_cons->Hv,count_append->Tf,count_nil->Cf,isSuffixOf_iff_suffix->Bz,mem_of_getElem?->Tj,map_cons->Mm,all_cons->Bm,drop_of_length_le->Mf,take_succ->Iw,drop_eq_getElem_cons->Tx,getElem?_take->Rg,length_take->Iq,take_append_drop->Ld,length->N
open Nat renaming le_trans->Kf,zero_add->Kk,succ_ne_zero->Bn,lt_of_lt_of_le->Tc,succ_mul->Md,add_sub_cancel_left->Rw,reduceBEq->Av,zero_le->Hw,le_of_lt->Lv
open List.Perm renaming swap->Kq,append_left->Lm,cons->Tp,trans->Ly,append_right->Mg,refl->Im
open Value renaming oneCell'->Hq,string->Pw
open Option renaming map_map->Mb,map_eq_some_iff->Tz,bind_some->Pq,isSome_some->Dk
open Bool renaming or_false->Ew,false_or->Ev,or_true->Ac,true_or->Ab
namespace YtejkdbnngphgaaaGreatDoor.Yz
open Go.RowKit Go.Sort
variable {a0:Act}{Qz0:Exit->Act->J->Prop}{w0 W0:J}{L:List (List Qb)}{is:List In}{rs:List Qb}{r:List Wd}{m:Mod}{k D p i T g:Nat}{Zz0:St}{α:Type}{kv:Vu}{l s t:Wd}
theorem mit9_c (last:Int)(D:Nat)(w0:J)(zs:List (Nat × Obj))(p:Nat)(cells:List Vu)(X:List Qb)(m:Mod)(V:J)(a:Option Ad)(c:Nat)(ws:List Wd)(h:RdI D w0 zs p cells X m V a c ws)(s:cells[13]?=some (U O last))(hz:N m.fw<=1048576)(hn:N ws<=1048576):Ec Q 22 #[ptr p 0,U O 9,S a (N ws) c] V (ItM (guF 9 last ((Xo ws).map λx=>{ m with fw:=m.fw++[⟨[],x⟩] })) 9 D w0 zs p cells X):=by
 letI P0:PK:=⟨cells,V.heap.size⟩
 obtain⟨L0,d,Y⟩:=h.ex;obtain⟨a7,a6⟩:=Y.b0 13 s;have I:13<N cells:=by have:=Y.mo.len;omega
 clear d Y;by_cases hl:(9:Int)<last
 . have H:=Hm h.lb;have KB:=Hm (QG p false _ H.o.pb);have HH:=Hm h;have HL:=Hm hl;clear h;go_enter func22,ntmps22;(go_wp2_with fail);refine KB.o.mono ?_;rintro e wb ⟨rfl,hp,t⟩;replace H:=Hm (H.o.call hp t);clear hp t KB;go_wp2;refine bodyPost_ret (results_none rfl _ _ _) rfl ?_;exact ItM.bads HH.o H.o (Xz (by have:=HL.o;simp[XI];omega))
 rw[guF_on (by simp[XI];omega)];have hS:=h.sec 9;have ar:Hid ((cells.set 13 (U O 9))[13]?=some (U O (((9:Nat):Int)))):=Hm (Ky I);obtain⟨V1,ac⟩:∃W,W=V.setCell ⟨p,13,none⟩ (U O 9):=⟨_,rfl⟩;obtain⟨b,ab⟩:∃cs,cs=cells.set 13 (U O 9):=⟨_,rfl⟩;rw[<- ac,<- ab]at hS;rw[<- ab]at ar;letI P1:PK:=⟨b,V1.heap.size⟩
 have H:=Hm hS.lb;have HH:=Hm hS;have KC:=Hm (srn_c p a c ws false V1 H.o.pb H.o.wv (λx hx=>Kf (hS.hl x hx) (by decide)) (Kf hn (by decide)));obtain⟨L,d,aa⟩:=hS.ex;obtain⟨vl,cl,kk,e1,C,pm⟩:=d.fw.at_;obtain⟨n,f⟩:∃n,n=N m.fw:=⟨_,rfl⟩;have HN:Hid (n<=1048576):=Hm (by omega);have HE:=Hm (And.intro d (And.intro C (And.intro aa (And.intro pm (And.intro e1 f)))));obtain⟨la,lc,rfl⟩:=Qg (show V1.ownsRow D 78 2 vl n cl from aa.mo.own.all (⟨78,2,n,vl,cl⟩:Qb) (mC ((Je (X:=X) pm).mem_iff.2 (by rw[f];exact mS ..))));obtain⟨i0,hi,bq,bp,bo⟩:=info_parts X7;clear hS ab h s I d aa e1 C pm f hz;go_enter func22,ntmps22;go_upto_region 4 with fail
 rw[<- ac];clear ac a7 a6;go_wp2_with fail
 refine KC.o.mono ?_;rintro e w1 ⟨v,vs,z,rfl,q,ak,hp,t,k1,k2⟩;obtain⟨B,A,rfl⟩:=Qg q;have au:Hid ((z=true->((Xo ws).map λx=>{ m with fw:=m.fw++[(⟨[],x⟩:Ele)] })=none)/\(z=false->((Xo ws).map λx=>{ m with fw:=m.fw++[(⟨[],x⟩:Ele)] })=some { m with fw:=m.fw++[(⟨[],vs⟩:Ele)] })):=by
  refine Hm ⟨λh=>?_,λh=>?_⟩
  . cases E:Xo ws with
    |none=>rfl
    |some y =>
     unfold Xo at E
     split at E
     · rename_i R
       rw[Px]at R
       have:=k2 rfl R
       rw[h]at this;cases this
     . cases E
  obtain⟨e1,e2⟩:=nums_eq (k1 h).2;unfold Xo;rw[if_pos e1,<- e2];rfl
 have ai:Mq D w0 zs (rB p (b.set 19 (G z))::([⟨70,5,0,S none 0 0,[]⟩,nR (S B (N vs) A) vs]++(L.flatten++X))) w1:=by have h1:=H.o.call hp t;have h2:Lb V1 p a ws z [nR (S B (N vs) A) vs] w1:=⟨Own.one q,h1.pb,h1.g,h1.wv,h1.hi⟩;exact((h2.backq HE.o.2.2.1 rfl).nil 70 5).perm (Kq _ _ _)
 obtain⟨k,F⟩:∃cs,cs=b.set 19 (G z):=⟨_,rfl⟩;obtain⟨ah,hr⟩:∃rr:List Qb,rr=([⟨70,5,0,S none 0 0,[]⟩,nR (S B (N vs) A) vs]:List Qb)++((L.eraseIdx 7).flatten++kk++X):=⟨_,rfl⟩;have HC:Hid (k[9]?=some (S la n lc)):=Hm (by rw[F,Kz (by decide)];exact HE.o.2.2.2.2.1);have HM:Hid (Mq D w0 zs (rB p k::⟨78,2,n,S la n lc,cl⟩::ah) w1):=by refine Hm ?_;rw[F,hr];have h2:=Je (X:=X) HE.o.2.2.2.1;rw[<- HE.o.2.2.2.2.2]at h2;exact Mq.perm ai ((((Lm _ h2).trans Hn)).cons _)
 have a9:=Hm (And.intro F hr);obtain⟨cc,ff⟩:=HM.o.b0 9 HC.o;have bs:=HN.o;have bv:=HM.o.le;clear hp t KC F hr H ai q ak k1 k2;have HO:Hid (w1.ownsRow D 78 2 (S la n lc) n cl):=Hm HM.o.mo.own.tail.head;have a8:=Hm (HM.o.keep (bFz.alloc lRz (Fc #[S none 0 0,S B (N vs) A] 78)));go_wp2_with (at_builtin;refine wal X7 (HO.o.alloc _) [S none 0 0,S B (N vs) A] (Qq _ _ _) (one2 _ _ rfl rfl) ?_;intro v3 w3 l ao f M;have ad:=Hm (a8.o.push2 (r':=⟨78,2,n+1,v3,cl++([S none 0 0,S B (N vs) A]:List Vu)⟩) ao l M);obtain⟨ag,af,rfl⟩:=Qg l;obtain⟨d0,e0⟩:=ad.o.b0 9 HC.o;obtain⟨⟨bn,b9⟩,⟨bm,b8⟩,⟨bl,b7⟩,⟨bk,b6⟩,E⟩:=ad.o.c58;have b4:=E 15;have b3:=E 16;have b2:=E 17;have bz:=E 18;clear l ao f M E)
 go_end0;have hm:=ad.o.set 9 (S ag (n+1) af);obtain⟨rfl,rfl⟩:=a9.o;obtain⟨d,C,-,-,-,f⟩:=HE.o;refine(EnM.tail 9 (EnM.fin2 (zs':=zs) (off:=9) (j:=7) (z:=z) (kk:=kk) (r:=[⟨70,5,0,S none 0 0,[]⟩,nR (S B (N vs) A) vs]) (by decide) (by rw[d.ll];decide) (λ_ hq=>hq) hm au.o.1 (λh=>?_)) (cells0:=cells) ar.o).2.2.2.2.2.2;refine⟨_,au.o.2 h,?_⟩;have:=(d.set_far (i:=19) (by decide) (G z)).set_elems (u:=.slice ag (n+1) af) (C.snoc (x:=⟨[],vs⟩) (cs:=[S none 0 0,S B (N vs) A]) (rs:=[⟨70,5,0,S none 0 0,[]⟩,nR (S B (N vs) A) vs]) ⟨_,_,[⟨70,5,0,S none 0 0,[]⟩],rfl,⟨[],[],LR.nil _,rfl⟩,rfl⟩);simpa only[Kb,Kj,Kg,Kk,f]using this
theorem mit11_c (last:Int)(D:Nat)(w0:J)(zs:List (Nat × Obj))(p:Nat)(cells:List Vu)(X:List Qb)(m:Mod)(V:J)(a:Option Ad)(c:Nat)(ws:List Wd)(h:RdI D w0 zs p cells X m V a c ws)(ah:cells[13]?=some (U O last))(hz:N m.gj<=1048576)(hn:N ws<=1048576):Ec Q 22 #[ptr p 0,U O 11,S a (N ws) c] V (ItM (guF 11 last ((datF ws).map λx=>{ m with gj:=m.gj++[⟨[],Iy x⟩] })) 11 D w0 zs p cells X):=by
 letI P0:PK:=⟨cells,V.heap.size⟩
 obtain⟨L0,A,a7⟩:=h.ex;obtain⟨bd,bc⟩:=a7.b0 13 ah;have a2:13<N cells:=by have:=a7.mo.len;omega
 clear A a7;by_cases hl:(11:Int)<last
 . have B:=Hm h.lb;have KB:=Hm (QG p false _ B.o.pb);have HH:=Hm h;have HL:=Hm hl;clear h;go_enter func22,ntmps22;(go_wp2_with fail);refine KB.o.mono ?_;rintro e wb ⟨rfl,hp,I⟩;replace B:=Hm (B.o.call hp I);clear hp I KB;go_wp2;refine bodyPost_ret (results_none rfl _ _ _) rfl ?_;exact ItM.bads HH.o B.o (Xz (by have:=HL.o;simp[XI];omega))
 rw[guF_on (by simp[XI];omega)];have hS:=h.sec 11;have bg:Hid ((cells.set 13 (U O 11))[13]?=some (U O (((11:Nat):Int)))):=Hm (Ky a2);obtain⟨V1,aa⟩:∃W,W=V.setCell ⟨p,13,none⟩ (U O 11):=⟨_,rfl⟩;obtain⟨f,bb⟩:∃cs,cs=cells.set 13 (U O 11):=⟨_,rfl⟩;rw[<- aa,<- bb]at hS;rw[<- bb]at bg;letI P1:PK:=⟨f,V1.heap.size⟩
 have B:=Hm hS.lb;have HH:=Hm hS;obtain⟨L,A,a8⟩:=hS.ex;obtain⟨vl,cl,kk,e1,ag,pm⟩:=A.gj.at_;obtain⟨n,y⟩:∃n,n=N m.gj:=⟨_,rfl⟩;have HN:Hid (n<=1048576):=Hm (by omega);have HE:=Hm (And.intro A (And.intro ag (And.intro a8 (And.intro pm (And.intro e1 y)))));obtain⟨la,lc,rfl⟩:=Qg (show V1.ownsRow D 83 2 vl n cl from a8.mo.own.all (⟨83,2,n,vl,cl⟩:Qb) (mC ((Je (X:=X) pm).mem_iff.2 (by rw[y];exact mS ..))));clear bb h ah a2 A a8 e1 ag pm y hz;by_cases h1:N ws=1
 . obtain⟨s,rfl⟩:=List.length_eq_one_iff.1 h1;obtain⟨b,o,rfl⟩:=hS.wv.at (by simp);have cw:=B.o.wd 0 (x:=s) rfl;simp only[Nat.add_zero]at cw;have KC:=Hm (mtext_c s V1 (hS.hl s (by simp)));simp only[Kj,Kg,Kk];clear hS h1;cases hk:okS s with
   |false =>
    rw[hk]at KC;have HK:=Hm hk;clear hk
    go_enter func22,ntmps22
    go_upto_region 4 with fail
    rw[<- aa];clear aa bd bc
    go_wp2_with fail
    refine KC.o.mono ?_
    rintro e w1 ⟨d,rfl,hb,-⟩;replace B:=Hm (B.o.keep hb);clear hb KC cw;have KB:=Hm (QG p false _ B.o.pb)
    go_wp2_with fail
    refine KB.o.mono ?_
    rintro e w2 ⟨rfl,hp,I⟩;replace B:=Hm (B.o.call hp I);clear hp I KB;obtain⟨z,ae⟩:∃z':Bool,z'=true:=⟨_,rfl⟩;have HZ:=Hm ae;clear ae;obtain⟨dc,E,fz,W5,ba,ak,R,aj⟩:=bz_c w2 d;obtain⟨H,Y⟩:∃q,q=w2.heap.size:=⟨_,rfl⟩;rw[<- Y]at ba R
    have g:Mq D w0 zs (rB p (f.set 19 (G z))::([]++(L.flatten++X))) w2:=by
     have h1:=B.o.backq HE.o.2.2.1 rfl;rw[<- HZ.o]at h1;exact h1
    have bk:Hid (w2.cell? ⟨p,11,none⟩=some (S la n lc)):=Hm ((g.b0 11 (by rw[Kz (by decide)];exact HE.o.2.2.2.2.1)).1)
    have af:Mq D w0 ((H,Fc E 5 fz)::zs) (rB p (f.set 19 (G z))::([⟨70,5,0,S none 0 0,[]⟩]++(L.flatten++X))) W5:=by
     have a9:∀q∈blk (rB p (f.set 19 (G z))::([]++(L.flatten++X))),q<w2.heap.size:=λq hq=>(g.mo.own.lt hq).2;have h2:=(g.keep ak).addz R (by rw[Y];exact g.le) (λhk=>by have:=a9 H hk;omega)
     exact(h2.nil 70 5).perm (Kq _ _ _)
    have bq:=Hm aj;obtain⟨l,C⟩:∃cs,cs=f.set 19 (G z):=⟨_,rfl⟩;obtain⟨ad,hr⟩:∃rr:List Qb,rr=([⟨70,5,0,S none 0 0,[]⟩]:List Qb)++((L.eraseIdx 9).flatten++kk++X):=⟨_,rfl⟩;have HC:Hid (l[11]?=some (S la n lc)):=Hm (by rw[C,Kz (by decide)];exact HE.o.2.2.2.2.1)
    have HM:Hid (Mq D w0 ((H,Fc E 5 fz)::zs) (rB p l::⟨83,2,n,S la n lc,cl⟩::ad) W5):=by
     refine Hm ?_
     rw[C,hr];have h2:=Je (X:=X) HE.o.2.2.2.1;rw[<- HE.o.2.2.2.2.2]at h2
     exact Mq.perm af ((((Lm _ h2).trans Hn)).cons _)
    have bj:=Hm (And.intro C hr);obtain⟨cc,ff⟩:=HM.o.b0 11 HC.o;have b3:=HN.o;have b5:=HM.o.le;have b6:=bk.o;clear ak R aj C hr B af g Y;have HO:Hid (W5.ownsRow D 83 2 (S la n lc) n cl):=Hm HM.o.mo.own.tail.head;have bh:=Hm (HM.o.keep (bFz.alloc lRz (Fc #[S none 0 0,S (some ⟨H,0,none⟩) (N d) dc] 83)))
    go_wp2_with (at_builtin;refine wal X6 (HO.o.alloc _) [S none 0 0,S (some ⟨H,0,none⟩) (N d) dc] (Qq _ _ _) (one2 _ _ rfl rfl) ?_;intro v3 w3 t aq y M;have ab:=Hm (bh.o.push2 (r':=⟨83,2,n+1,v3,cl++([S none 0 0,S (some ⟨H,0,none⟩) (N d) dc]:List Vu)⟩) aq t M);obtain⟨av,au,rfl⟩:=Qg t;obtain⟨d0,e0⟩:=ab.o.b0 11 HC.o;obtain⟨⟨bz,ch⟩,⟨bw,cg⟩,⟨bv,cf⟩,⟨bu,ce⟩,hf⟩:=ab.o.c58;have cb:=hf 15;have b9:=hf 16;have b8:=hf 17;have b7:=hf 18;clear t aq y M hf)
    go_end0
    have hm:=ab.o.set 11 (S av (n+1) au);obtain⟨rfl,rfl⟩:=bj.o;obtain⟨A,ag,-,-,-,y⟩:=HE.o
    refine(EnM.tail 11 (EnM.fin2 (zs':=((H,Fc E 5 fz)::zs)) (off:=11) (j:=9) (z:=z) (kk:=kk) (r:=[⟨70,5,0,S none 0 0,[]⟩]) (by decide) (by rw[A.ll];decide) (λ_ hq=>mC hq) hm (λh=>?_) (λh=>?_)) (cells0:=cells) bg.o).2.2.2.2.2.2
    . simp[datF,if1,HK.o]
    . rw[HZ.o]at h;cases h
   |true =>
    rw[hk]at KC;have HK:=Hm hk;clear hk
    go_enter func22,ntmps22
    go_upto_region 4 with fail
    rw[<- aa];clear aa bd bc
    go_wp2_with fail
    refine KC.o.mono ?_
    rintro e w1 ⟨d,rfl,hb,hd⟩;have HD:=Hm (hd trivial);replace B:=Hm (B.o.keep hb);clear hb hd KC cw;obtain⟨z,ae⟩:∃z':Bool,z'=false:=⟨_,rfl⟩;have HZ:=Hm ae;clear ae;obtain⟨dc,E,fz,W5,ba,ak,R,aj⟩:=bz_c w1 d;obtain⟨H,Y⟩:∃q,q=w1.heap.size:=⟨_,rfl⟩;rw[<- Y]at ba R
    have g:Mq D w0 zs (rB p (f.set 19 (G z))::([]++(L.flatten++X))) w1:=by
     have h1:=B.o.backq HE.o.2.2.1 rfl;rw[<- HZ.o]at h1;exact h1
    have bk:Hid (w1.cell? ⟨p,11,none⟩=some (S la n lc)):=Hm ((g.b0 11 (by rw[Kz (by decide)];exact HE.o.2.2.2.2.1)).1)
    have af:Mq D w0 ((H,Fc E 5 fz)::zs) (rB p (f.set 19 (G z))::([⟨70,5,0,S none 0 0,[]⟩]++(L.flatten++X))) W5:=by
     have a9:∀q∈blk (rB p (f.set 19 (G z))::([]++(L.flatten++X))),q<w1.heap.size:=λq hq=>(g.mo.own.lt hq).2;have h2:=(g.keep ak).addz R (by rw[Y];exact g.le) (λhk=>by have:=a9 H hk;omega)
     exact(h2.nil 70 5).perm (Kq _ _ _)
    have bq:=Hm aj;obtain⟨l,C⟩:∃cs,cs=f.set 19 (G z):=⟨_,rfl⟩;obtain⟨ad,hr⟩:∃rr:List Qb,rr=([⟨70,5,0,S none 0 0,[]⟩]:List Qb)++((L.eraseIdx 9).flatten++kk++X):=⟨_,rfl⟩;have HC:Hid (l[11]?=some (S la n lc)):=Hm (by rw[C,Kz (by decide)];exact HE.o.2.2.2.2.1)
    have HM:Hid (Mq D w0 ((H,Fc E 5 fz)::zs) (rB p l::⟨83,2,n,S la n lc,cl⟩::ad) W5):=by
     refine Hm ?_
     rw[C,hr];have h2:=Je (X:=X) HE.o.2.2.2.1;rw[<- HE.o.2.2.2.2.2]at h2
     exact Mq.perm af ((((Lm _ h2).trans Hn)).cons _)
    have bj:=Hm (And.intro C hr);obtain⟨cc,ff⟩:=HM.o.b0 11 HC.o;have b3:=HN.o;have b5:=HM.o.le;have b6:=bk.o;clear ak R aj C hr B af g Y;have HO:Hid (W5.ownsRow D 83 2 (S la n lc) n cl):=Hm HM.o.mo.own.tail.head;have bh:=Hm (HM.o.keep (bFz.alloc lRz (Fc #[S none 0 0,S (some ⟨H,0,none⟩) (N d) dc] 83)))
    go_wp2_with (at_builtin;refine wal X6 (HO.o.alloc _) [S none 0 0,S (some ⟨H,0,none⟩) (N d) dc] (Qq _ _ _) (one2 _ _ rfl rfl) ?_;intro v3 w3 t aq y M;have ab:=Hm (bh.o.push2 (r':=⟨83,2,n+1,v3,cl++([S none 0 0,S (some ⟨H,0,none⟩) (N d) dc]:List Vu)⟩) aq t M);obtain⟨av,au,rfl⟩:=Qg t;obtain⟨d0,e0⟩:=ab.o.b0 11 HC.o;obtain⟨⟨bz,ch⟩,⟨bw,cg⟩,⟨bv,cf⟩,⟨bu,ce⟩,hf⟩:=ab.o.c58;have cb:=hf 15;have b9:=hf 16;have b8:=hf 17;have b7:=hf 18;clear t aq y M hf)
    go_end0
    have hm:=ab.o.set 11 (S av (n+1) au);obtain⟨rfl,rfl⟩:=bj.o;obtain⟨A,ag,-,-,-,y⟩:=HE.o
    refine(EnM.tail 11 (EnM.fin2 (zs':=((H,Fc E 5 fz)::zs)) (off:=11) (j:=9) (z:=z) (kk:=kk) (r:=[⟨70,5,0,S none 0 0,[]⟩]) (by decide) (by rw[A.ll];decide) (λ_ hq=>mC hq) hm (λh=>?_) (λh=>?_)) (cells0:=cells) bg.o).2.2.2.2.2.2
    . rw[HZ.o]at h;cases h
    . refine⟨{ m with gj:=m.gj++[⟨[],Iy d⟩] },by rw[HD.o];simp[datF,if1,HK.o],?_⟩
      have:=((A.mono (zs':=(H,Fc E 5 fz)::zs) (λ_ hq=>mC hq)).set_far (i:=19) (by decide) (G z)).set_datas (u:=.slice av (n+1) au) ((lr_mono ag (λx c k ⟨v,vb,a,b,z⟩=>⟨v,vb,a,b,z.mono (λ_ hq=>mC hq)⟩)).snoc (x:=⟨[],Iy d⟩) (cs:=[S none 0 0,S (some ⟨H,0,none⟩) (N d) dc]) (rs:=[⟨70,5,0,S none 0 0,[]⟩]) ⟨_,_,rfl,⟨[],[],LR.nil _,rfl⟩,H,dc,E,fz,by simp,mS ..,bq.o⟩)
      simpa only[Kb,Kj,Kg,Kk,y]using this
 have c2:¬(N ws:Int)=1:=by omega
 have HF:Hid (datF ws=none):=Hm (by
  match ws,h1 with
  |[],_=>rfl
  |[_],h=>exact absurd rfl h
  | _::_::_,_=>rfl)
 clear h1 hS;go_enter func22,ntmps22;go_upto_region 4 with fail
 rw[<- aa];clear aa bd bc;have KB:=Hm (QG p false _ B.o.pb);go_wp2_with fail
 refine KB.o.mono ?_;rintro e wb ⟨rfl,hp,I⟩;replace B:=Hm (B.o.call hp I);clear hp I KB;go_wp2;refine bodyPost_ret (results_none rfl _ _ _) rfl ?_;have h2:=ItM.bads (k:=11) HH.o B.o (F:=(datF ws).map λx=>{ m with gj:=m.gj++[⟨[],Iy x⟩] }) (by rw[HF.o];rfl);obtain⟨-,h3|⟨m',_,_,_,_,h3,-⟩⟩:=h2
 . exact⟨rfl,.inl h3⟩
 rw[HF.o]at h3;cases h3
theorem mit4_c (last:Int)(D:Nat)(w0:J)(zs:List (Nat × Obj))(p:Nat)(cells:List Vu)(X:List Qb)(m:Mod)(V:J)(a:Option Ad)(c:Nat)(ws:List Wd)(h:RdI D w0 zs p cells X m V a c ws)(E:cells[13]?=some (U O last))(hz:N m.fk<=1048576)(hn:N ws<=1048576):Ec Q 22 #[ptr p 0,U O 4,S a (N ws) c] V (ItM (guF 4 last ((Q5 ws).map λx=>{ m with fk:=m.fk++[x] })) 4 D w0 zs p cells X):=by
 letI P0:PK:=⟨cells,V.heap.size⟩
 obtain⟨L0,d,ab⟩:=h.ex;obtain⟨bc,a9⟩:=ab.b0 13 E;have aa:13<N cells:=by have:=ab.mo.len;omega
 clear d ab;by_cases hl:(4:Int)<last
 . have M:=Hm h.lb;have KB:=Hm (QG p false _ M.o.pb);have HH:=Hm h;have HL:=Hm hl;clear h;go_enter func22,ntmps22;(go_wp2_with fail);refine KB.o.mono ?_;rintro e wb ⟨rfl,hp,H⟩;replace M:=Hm (M.o.call hp H);clear hp H KB;go_wp2;refine bodyPost_ret (results_none rfl _ _ _) rfl ?_;exact ItM.bads HH.o M.o (Xz (by have:=HL.o;simp[XI];omega))
 rw[guF_on (by simp[XI];omega)];have hS:=h.sec 4;have ay:Hid ((cells.set 13 (U O 4))[13]?=some (U O (((4:Nat):Int)))):=Hm (Ky aa);obtain⟨V1,ag⟩:∃W,W=V.setCell ⟨p,13,none⟩ (U O 4):=⟨_,rfl⟩;obtain⟨A,Y⟩:∃cs,cs=cells.set 13 (U O 4):=⟨_,rfl⟩;rw[<- ag,<- Y]at hS;rw[<- Y]at ay;letI P1:PK:=⟨A,V1.heap.size⟩
 have M:=Hm hS.lb;have HH:=Hm hS;have KC:=Hm (mlim_c p a c ws false V1 M.o.pb M.o.wv hS.hl);obtain⟨L,d,ac⟩:=hS.ex;obtain⟨vl,cl,kk,e1,R,pm⟩:=d.fk.at_;obtain⟨n,C⟩:∃n,n=N m.fk:=⟨_,rfl⟩;have HN:Hid (n<=1048576):=Hm (by omega);have HE:=Hm (And.intro d (And.intro R (And.intro ac (And.intro pm (And.intro e1 C)))));obtain⟨la,lc,rfl⟩:=Qg (show V1.ownsRow D 120 3 vl n cl from ac.mo.own.all (⟨120,3,n,vl,cl⟩:Qb) (mC ((Je (X:=X) pm).mem_iff.2 (by rw[C];exact mS ..))));clear hS Y h E aa d ac e1 R pm C hz;go_enter func22,ntmps22;go_upto_region 4 with fail
 rw[<- ag];clear ag bc a9;obtain⟨z,av⟩:∃z':Bool,z'=(false || (Q5 ws).isNone):=⟨_,rfl⟩;have HZ:=Hm av;clear av;go_wp2_with fail
 refine KC.o.mono ?_;rintro e w1 ⟨⟨s,q,l⟩,he,hp,H,hy⟩;simp only[XO]at he;subst he;rw[<- HZ.o]at hp;have HY:=Hm hy;replace M:=Hm (M.o.call hp H);clear hp H hy KC;go_upto_region 16 with fail
 obtain⟨g,hg⟩:∃g,g=w1.heap.size:=⟨_,rfl⟩;obtain⟨V2,af⟩:∃V,V=w1.alloc (Fc #[U O s,U O q,G l] 120):=⟨_,rfl⟩;have ah:=M.o.box (cur:=#[U O s,U O q,G l]) 120 3 rfl;rw[<- af,<- hg]at ah;rw[<- af,<- hg];clear af hg;obtain⟨b,I⟩:∃cs,cs=A.set 19 (G z):=⟨_,rfl⟩;obtain⟨B,hr⟩:∃rr:List Qb,rr=([]:List Qb)++((L.eraseIdx 3).flatten++kk++X):=⟨_,rfl⟩;have HC:Hid (b[3]?=some (S la n lc)):=Hm (by rw[I,Kz (by decide)];exact HE.o.2.2.2.2.1);have HM:Hid (Mq D w0 zs (rB p b::⟨120,3,n,S la n lc,cl⟩::box 120 3 g [U O s,U O q,G l]::B) V2):=by refine Hm ?_;rw[I,hr];have h2:=Je (X:=X) HE.o.2.2.2.1;rw[<- HE.o.2.2.2.2.2]at h2;have h3:=ah.backq HE.o.2.2.1 rfl;refine h3.perm (Tp _ ?_);exact(h2.cons _).trans (Kq _ _ _)
 have bh:=Hm (And.intro I hr);clear I hr M ah;refine Rp.rg (nN:=213) [ptr p 0,ptr p 0,ptr p 0,ptr p 0,ptr p 3,(S la n lc),Ag #[U O s,U O q,G l],undef,undef,ptr p 0,ptr p 0,ptr p 3,undef] [7,8,12] 2 (Fpu D w0 zs p 3 120 3 n (S la n lc) cl [U O s,U O q,G l] 120 3 g [U O s,U O q,G l] b B) ?_ ?_ ?_
 . exact⟨λ_=>⟨(HM.o.b0 3 HC.o).1,λj u hu hj=>HM.o.b1 j hu hj⟩,rfl,HM.o.keep bFz.drew⟩
 . refine Rp.os 0 (ptr p 0) ?_;refine Rp.os 0 (ptr p 0) ?_;refine Rp.o1 1 81 ?_;refine Rp.o1 2 82 ?_;refine Rp.o1 3 83 ?_;refine Rp.l1 4 84 (λk us W hk v=>(v.1 hk).1) ?_;refine Rp.Qj.c (by kernel_rfl) (λa W kk us Kc f hk hb hu v hK=>?_) ?_
   . have e7:a.tmps[7]?.getD undef=ptr g 0:=(Rp.JQ f 7 (by kernel_rfl)).trans rfl;have b3:=(v.1 hk).2 0 _ rfl (by decide);have Y:=(v.1 hk).2 1 _ rfl (by decide);have I:=(v.1 hk).2 2 _ rfl (by decide);refine Rp.QA (Ag #[U O s,U O q,G l]) (Rp.Qd rfl) rfl ?_ hK;clear f hK v hu hb;go_simp;try rfl
   refine Rp.hv 0 (λa W us f hu v=>?_) ?_
   . have cd:=Rp.va f 6 86;obtain⟨aw,rfl,t⟩:=v;refine⟨(S (some ⟨W.heap.size,0,none⟩) 1 1),W.alloc (Fc #[U O s,U O q,G l] 120),?_,?_⟩
     . clear f hu;go_simp;try rfl
     have ae:=t.keep (bFz.alloc lRz (Fc #[U O s,U O q,G l] 120));exact⟨λ_=>⟨(ae.b0 3 HC.o).1,λj u hu hj=>ae.b1 j hu hj⟩,W.heap.size,rfl,ae,Qq _ _ _⟩
   refine Rp.ha 1 (λa W us f hu v Kc hK=>?_) ?_
   . have bb:=Rp.va f 5 85;have ba:=Rp.vu hu 0 87;obtain⟨aw,g1,rfl,t,a7⟩:=v;have ho:W.ownsRow D 120 3 (S la n lc) n cl:=t.mo.own.tail.head;refine Rp.ap (news:=[U O s,U O q,G l]) bb ho ba a7 (by simp[Hq]) X8 (by have:=HN.o;unfold maxLen;omega) (by have:=HN.o;omega) t.le (λv' w' h1 h2 h3=>?_) hK;have ad:Mq D w0 zs (rB p b::⟨120,3,n+1,v',cl++[U O s,U O q,G l]⟩::box 120 3 g [U O s,U O q,G l]::B) w':=t.push2 h2 h1 h3;exact⟨λh=>⟨(ad.b0 3 HC.o).1,λj u hu hj=>ad.b1 j hu hj⟩,g1,v',rfl,ad⟩
   refine Rp.o1 0 80 ?_;refine Rp.o1 9 89 ?_;refine Rp.o1 10 90 ?_;refine Rp.ht 2 (λa W us f hu v=>?_) ?_
   . have cb:=Rp.va f 11 91;have cc:=Rp.vu hu 1 88;obtain⟨aw,g1,v',rfl,t⟩:=v;obtain⟨ce,ff⟩:=t.b0 3 HC.o;have ho:W.ownsRow D 120 3 v' (n+1) (cl++[U O s,U O q,G l]):=t.mo.own.tail.head;obtain⟨a',c',rfl⟩:=Qg ho;refine⟨W.setCell ⟨p,3,none⟩ (S a' (n+1) c'),?_,?_⟩
     . clear f hu ho;go_simp;try rfl
     exact⟨λh=>by omega,g1,_,rfl,t.set 3 _⟩
   exact Rp.Qj.nil
 intro us a W f;have ea:=Rp.ca f [80,81,82,83,84,85,86,87,88,89,90,91];have v:=f.ph;simp only[Km,Tq,Rp.cv f 0 80,Rp.cv f 1 81,Rp.cv f 2 82,Rp.cv f 3 83,Rp.cv f 4 84,Rp.cv f 5 85,Rp.cv f 6 86,Rp.cu f 0 87,Rp.cu f 1 88,Rp.cv f 9 89,Rp.cv f 10 90,Rp.cv f 11 91]at ea;clear f;subst ea;obtain⟨-,g1,v',rfl,t⟩:=v;have az:=Hm t;obtain⟨⟨bw,ci⟩,⟨bv,ch⟩,⟨bu,cg⟩,⟨bt,cf⟩,hf⟩:=az.o.c58;have b8:=hf 15;have b7:=hf 16;have b6:=hf 17;have b5:=hf 18;clear hf t;go_wp2;go_end0;have t:=az.o;obtain⟨rfl,rfl⟩:=bh.o;obtain⟨d,R,-,-,-,C⟩:=HE.o;refine(EnM.tail 4 (EnM.fin (zs':=zs) (off:=3) (j:=3) (z:=z) (kk:=kk) (r:=[]) (F:=(Q5 ws).map λx=>{ m with fk:=m.fk++[x] }) (by decide) (by rw[d.ll];decide) (λ_ hq=>hq) t (λh=>?_) (λh=>?_)) (cells0:=cells) ay.o).2.2.2.2.2.2
 . have:=HZ.o.symm.trans h;cases hu:Q5 ws with
   |none=>rfl
   |some y=>simp[hu]at this
 have h0:=HZ.o.symm.trans h;cases hu:Q5 ws with
 |none=>simp[hu]at h0
 |some y =>
  have ex:=HY.o y trivial hu;subst ex
  refine⟨_,rfl,?_⟩
  have:=(d.set_far (i:=19) (by decide) (G z)).set_tabs (u:=v') (R.snoc (x:=⟨s,q,l⟩) (cs:=[U O s,U O q,G l]) (rs:=[]) ⟨rfl,rfl⟩)
  simpa only[Kb,Kj,Kg,Kk,C]using this
theorem mit5_c (last:Int)(D:Nat)(w0:J)(zs:List (Nat × Obj))(p:Nat)(cells:List Vu)(X:List Qb)(m:Mod)(V:J)(a:Option Ad)(c:Nat)(ws:List Wd)(h:RdI D w0 zs p cells X m V a c ws)(E:cells[13]?=some (U O last))(hz:N m.jj<=1048576)(hn:N ws<=1048576):Ec Q 22 #[ptr p 0,U O 5,S a (N ws) c] V (ItM (guF 5 last ((Q5 ws).map λx=>{ m with jj:=m.jj++[x] })) 5 D w0 zs p cells X):=by
 letI P0:PK:=⟨cells,V.heap.size⟩
 obtain⟨L0,d,ab⟩:=h.ex;obtain⟨bc,bb⟩:=ab.b0 13 E;have aa:13<N cells:=by have:=ab.mo.len;omega
 clear d ab;by_cases hl:(5:Int)<last
 . have M:=Hm h.lb;have KB:=Hm (QG p false _ M.o.pb);have HH:=Hm h;have HL:=Hm hl;clear h;go_enter func22,ntmps22;(go_wp2_with fail);refine KB.o.mono ?_;rintro e wb ⟨rfl,hp,H⟩;replace M:=Hm (M.o.call hp H);clear hp H KB;go_wp2;refine bodyPost_ret (results_none rfl _ _ _) rfl ?_;exact ItM.bads HH.o M.o (Xz (by have:=HL.o;simp[XI];omega))
 rw[guF_on (by simp[XI];omega)];have hS:=h.sec 5;have a0:Hid ((cells.set 13 (U O 5))[13]?=some (U O (((5:Nat):Int)))):=Hm (Ky aa);obtain⟨V1,ag⟩:∃W,W=V.setCell ⟨p,13,none⟩ (U O 5):=⟨_,rfl⟩;obtain⟨A,Y⟩:∃cs,cs=cells.set 13 (U O 5):=⟨_,rfl⟩;rw[<- ag,<- Y]at hS;rw[<- Y]at a0;letI P1:PK:=⟨A,V1.heap.size⟩
 have M:=Hm hS.lb;have HH:=Hm hS;have KC:=Hm (mlim_c p a c ws false V1 M.o.pb M.o.wv hS.hl);obtain⟨L,d,ac⟩:=hS.ex;obtain⟨vl,cl,kk,e1,R,pm⟩:=d.jj.at_;obtain⟨n,C⟩:∃n,n=N m.jj:=⟨_,rfl⟩;have HN:Hid (n<=1048576):=Hm (by omega);have HE:=Hm (And.intro d (And.intro R (And.intro ac (And.intro pm (And.intro e1 C)))));obtain⟨la,lc,rfl⟩:=Qg (show V1.ownsRow D 120 3 vl n cl from ac.mo.own.all (⟨120,3,n,vl,cl⟩:Qb) (mC ((Je (X:=X) pm).mem_iff.2 (by rw[C];exact mS ..))));clear hS Y h E aa d ac e1 R pm C hz;go_enter func22,ntmps22;go_upto_region 4 with fail
 rw[<- ag];clear ag bc bb;obtain⟨z,av⟩:∃z':Bool,z'=(false || (Q5 ws).isNone):=⟨_,rfl⟩;have HZ:=Hm av;clear av;go_wp2_with fail
 refine KC.o.mono ?_;rintro e w1 ⟨⟨s,q,l⟩,he,hp,H,hy⟩;simp only[XO]at he;subst he;rw[<- HZ.o]at hp;have HY:=Hm hy;replace M:=Hm (M.o.call hp H);clear hp H hy KC;go_upto_region 19 with fail
 obtain⟨g,hg⟩:∃g,g=w1.heap.size:=⟨_,rfl⟩;obtain⟨V2,af⟩:∃V,V=w1.alloc (Fc #[U O s,U O q,G l] 120):=⟨_,rfl⟩;have ah:=M.o.box (cur:=#[U O s,U O q,G l]) 120 3 rfl;rw[<- af,<- hg]at ah;rw[<- af,<- hg];clear af hg;obtain⟨b,I⟩:∃cs,cs=A.set 19 (G z):=⟨_,rfl⟩;obtain⟨B,hr⟩:∃rr:List Qb,rr=([]:List Qb)++((L.eraseIdx 4).flatten++kk++X):=⟨_,rfl⟩;have HC:Hid (b[4]?=some (S la n lc)):=Hm (by rw[I,Kz (by decide)];exact HE.o.2.2.2.2.1);have HM:Hid (Mq D w0 zs (rB p b::⟨120,3,n,S la n lc,cl⟩::box 120 3 g [U O s,U O q,G l]::B) V2):=by refine Hm ?_;rw[I,hr];have h2:=Je (X:=X) HE.o.2.2.2.1;rw[<- HE.o.2.2.2.2.2]at h2;have h3:=ah.backq HE.o.2.2.1 rfl;refine h3.perm (Tp _ ?_);exact(h2.cons _).trans (Kq _ _ _)
 have bh:=Hm (And.intro I hr);clear I hr M ah;refine Rp.rg (nN:=213) [ptr p 0,ptr p 0,ptr p 0,ptr p 0,ptr p 4,(S la n lc),Ag #[U O s,U O q,G l],undef,undef,ptr p 0,ptr p 0,ptr p 4,undef] [7,8,12] 2 (Fpu D w0 zs p 4 120 3 n (S la n lc) cl [U O s,U O q,G l] 120 3 g [U O s,U O q,G l] b B) ?_ ?_ ?_
 . exact⟨λ_=>⟨(HM.o.b0 4 HC.o).1,λj u hu hj=>HM.o.b1 j hu hj⟩,rfl,HM.o.keep bFz.drew⟩
 . refine Rp.os 0 (ptr p 0) ?_;refine Rp.os 0 (ptr p 0) ?_;refine Rp.o1 1 98 ?_;refine Rp.o1 2 99 ?_;refine Rp.o1 3 100 ?_;refine Rp.l1 4 101 (λk us W hk v=>(v.1 hk).1) ?_;refine Rp.Qj.c (by kernel_rfl) (λa W kk us Kc f hk hb hu v hK=>?_) ?_
   . have e8:a.tmps[8]?.getD undef=ptr g 0:=(Rp.JQ f 8 (by kernel_rfl)).trans rfl;have b6:=(v.1 hk).2 0 _ rfl (by decide);have Y:=(v.1 hk).2 1 _ rfl (by decide);have I:=(v.1 hk).2 2 _ rfl (by decide);refine Rp.QA (Ag #[U O s,U O q,G l]) (Rp.Qd rfl) rfl ?_ hK;clear f hK v hu hb;go_simp;try rfl
   refine Rp.hv 0 (λa W us f hu v=>?_) ?_
   . have bq:=Rp.va f 6 103;obtain⟨aw,rfl,t⟩:=v;refine⟨(S (some ⟨W.heap.size,0,none⟩) 1 1),W.alloc (Fc #[U O s,U O q,G l] 120),?_,?_⟩
     . clear f hu;go_simp;try rfl
     have ae:=t.keep (bFz.alloc lRz (Fc #[U O s,U O q,G l] 120));exact⟨λ_=>⟨(ae.b0 4 HC.o).1,λj u hu hj=>ae.b1 j hu hj⟩,W.heap.size,rfl,ae,Qq _ _ _⟩
   refine Rp.ha 1 (λa W us f hu v Kc hK=>?_) ?_
   . have az:=Rp.va f 5 102;have ay:=Rp.vu hu 0 104;obtain⟨aw,g1,rfl,t,a9⟩:=v;have ho:W.ownsRow D 120 3 (S la n lc) n cl:=t.mo.own.tail.head;refine Rp.ap (news:=[U O s,U O q,G l]) az ho ay a9 (by simp[Hq]) X8 (by have:=HN.o;unfold maxLen;omega) (by have:=HN.o;omega) t.le (λv' w' h1 h2 h3=>?_) hK;have ad:Mq D w0 zs (rB p b::⟨120,3,n+1,v',cl++[U O s,U O q,G l]⟩::box 120 3 g [U O s,U O q,G l]::B) w':=t.push2 h2 h1 h3;exact⟨λh=>⟨(ad.b0 4 HC.o).1,λj u hu hj=>ad.b1 j hu hj⟩,g1,v',rfl,ad⟩
   refine Rp.o1 0 97 ?_;refine Rp.o1 9 106 ?_;refine Rp.o1 10 107 ?_;refine Rp.ht 2 (λa W us f hu v=>?_) ?_
   . have bo:=Rp.va f 11 108;have bp:=Rp.vu hu 1 105;obtain⟨aw,g1,v',rfl,t⟩:=v;obtain⟨ce,ff⟩:=t.b0 4 HC.o;have ho:W.ownsRow D 120 3 v' (n+1) (cl++[U O s,U O q,G l]):=t.mo.own.tail.head;obtain⟨a',c',rfl⟩:=Qg ho;refine⟨W.setCell ⟨p,4,none⟩ (S a' (n+1) c'),?_,?_⟩
     . clear f hu ho;go_simp;try rfl
     exact⟨λh=>by omega,g1,_,rfl,t.set 4 _⟩
   exact Rp.Qj.nil
 intro us a W f;have ea:=Rp.ca f [97,98,99,100,101,102,103,104,105,106,107,108];have v:=f.ph;simp only[Km,Tq,Rp.cv f 0 97,Rp.cv f 1 98,Rp.cv f 2 99,Rp.cv f 3 100,Rp.cv f 4 101,Rp.cv f 5 102,Rp.cv f 6 103,Rp.cu f 0 104,Rp.cu f 1 105,Rp.cv f 9 106,Rp.cv f 10 107,Rp.cv f 11 108]at ea;clear f;subst ea;obtain⟨-,g1,v',rfl,t⟩:=v;have a1:=Hm t;obtain⟨⟨b3,ci⟩,⟨b2,ch⟩,⟨bz,cg⟩,⟨bw,cf⟩,hf⟩:=a1.o.c58;have cc:=hf 15;have cb:=hf 16;have b9:=hf 17;have b8:=hf 18;clear hf t;go_wp2;go_end0;have t:=a1.o;obtain⟨rfl,rfl⟩:=bh.o;obtain⟨d,R,-,-,-,C⟩:=HE.o;refine(EnM.tail 5 (EnM.fin (zs':=zs) (off:=4) (j:=4) (z:=z) (kk:=kk) (r:=[]) (F:=(Q5 ws).map λx=>{ m with jj:=m.jj++[x] }) (by decide) (by rw[d.ll];decide) (λ_ hq=>hq) t (λh=>?_) (λh=>?_)) (cells0:=cells) a0.o).2.2.2.2.2.2
 . have:=HZ.o.symm.trans h;cases hu:Q5 ws with
   |none=>rfl
   |some y=>simp[hu]at this
 have h0:=HZ.o.symm.trans h;cases hu:Q5 ws with
 |none=>simp[hu]at h0
 |some y =>
  have ex:=HY.o y trivial hu;subst ex
  refine⟨_,rfl,?_⟩
  have:=(d.set_far (i:=19) (by decide) (G z)).set_mems (u:=v') (R.snoc (x:=⟨s,q,l⟩) (cs:=[U O s,U O q,G l]) (rs:=[]) ⟨rfl,rfl⟩)
  simpa only[Kb,Kj,Kg,Kk,C]using this
theorem mit6_c (last:Int)(D:Nat)(w0:J)(zs:List (Nat × Obj))(p:Nat)(cells:List Vu)(X:List Qb)(m:Mod)(V:J)(a:Option Ad)(c:Nat)(ws:List Wd)(h:RdI D w0 zs p cells X m V a c ws)(C:cells[13]?=some (U O last))(hz:N m.fq<=1048576)(hn:N ws<=1048576):Ec Q 22 #[ptr p 0,U O 6,S a (N ws) c] V (ItM (guF 6 last ((gtF ws).map λx=>{ m with fq:=m.fq++[⟨x,[]⟩] })) 6 D w0 zs p cells X):=by
 letI P0:PK:=⟨cells,V.heap.size⟩
 obtain⟨L0,d,aa⟩:=h.ex;obtain⟨bb,ba⟩:=aa.b0 13 C;have Y:13<N cells:=by have:=aa.mo.len;omega
 clear d aa;by_cases hl:(6:Int)<last
 . have H:=Hm h.lb;have KB:=Hm (QG p false _ H.o.pb);have HH:=Hm h;have HL:=Hm hl;clear h;go_enter func22,ntmps22;(go_wp2_with fail);refine KB.o.mono ?_;rintro e wb ⟨rfl,hp,E⟩;replace H:=Hm (H.o.call hp E);clear hp E KB;go_wp2;refine bodyPost_ret (results_none rfl _ _ _) rfl ?_;exact ItM.bads HH.o H.o (Xz (by have:=HL.o;simp[XI];omega))
 rw[guF_on (by simp[XI];omega)];have hS:=h.sec 6;have az:Hid ((cells.set 13 (U O 6))[13]?=some (U O (((6:Nat):Int)))):=Hm (Ky Y);obtain⟨V1,af⟩:∃W,W=V.setCell ⟨p,13,none⟩ (U O 6):=⟨_,rfl⟩;obtain⟨t,R⟩:∃cs,cs=cells.set 13 (U O 6):=⟨_,rfl⟩;rw[<- af,<- R]at hS;rw[<- R]at az;letI P1:PK:=⟨t,V1.heap.size⟩
 have H:=Hm hS.lb;have HH:=Hm hS;have KC:=Hm (mglob_c p a c ws false V1 H.o.pb H.o.wv);obtain⟨L,d,ab⟩:=hS.ex;obtain⟨vl,cl,kk,e1,I,pm⟩:=d.fq.at_;obtain⟨n,B⟩:∃n,n=N m.fq:=⟨_,rfl⟩;have HN:Hid (n<=1048576):=Hm (by omega);have HE:=Hm (And.intro d (And.intro I (And.intro ab (And.intro pm (And.intro e1 B)))));obtain⟨la,lc,rfl⟩:=Qg (show V1.ownsRow D 76 3 vl n cl from ab.mo.own.all (⟨76,3,n,vl,cl⟩:Qb) (mC ((Je (X:=X) pm).mem_iff.2 (by rw[B];exact mS ..))));clear hS R h C Y d ab e1 I pm B hz;go_enter func22,ntmps22;go_upto_region 4 with fail
 rw[<- af];clear af bb ba;obtain⟨z,ar⟩:∃z':Bool,z'=(false || (gtF ws).isNone):=⟨_,rfl⟩;have HZ:=Hm ar;clear ar;go_wp2_with fail
 refine KC.o.mono ?_;rintro e w1 ⟨⟨q,l⟩,he,hp,E,hy⟩;simp only[gtW]at he;subst he;rw[<- HZ.o]at hp;have HY:=Hm hy;replace H:=Hm (H.o.call hp E);clear hp E hy KC;go_upto_region 22 with fail
 obtain⟨g,hg⟩:∃g,g=w1.heap.size:=⟨_,rfl⟩;obtain⟨V2,ae⟩:∃V,V=w1.alloc (Fc #[U O q,G l] 74):=⟨_,rfl⟩;have ag:=H.o.box (cur:=#[U O q,G l]) 74 2 rfl;rw[<- ae,<- hg]at ag;rw[<- ae,<- hg];clear ae hg;obtain⟨b,M⟩:∃cs,cs=t.set 19 (G z):=⟨_,rfl⟩;obtain⟨A,hr⟩:∃rr:List Qb,rr=([⟨70,5,0,S none 0 0,[]⟩]:List Qb)++((L.eraseIdx 5).flatten++kk++X):=⟨_,rfl⟩;have HC:Hid (b[5]?=some (S la n lc)):=Hm (by rw[M,Kz (by decide)];exact HE.o.2.2.2.2.1);have HM:Hid (Mq D w0 zs (rB p b::⟨76,3,n,S la n lc,cl⟩::box 74 2 g [U O q,G l]::A) V2):=by refine Hm ?_;rw[M,hr];have h2:=Je (X:=X) HE.o.2.2.2.1;rw[<- HE.o.2.2.2.2.2]at h2;have h3:=ag.backq HE.o.2.2.1 rfl;have h4:=((h3.nil 70 5).perm (Kq _ _ _));refine h4.perm (Tp _ ?_);refine(((h2.cons _).cons _)).trans ?_;refine(Kq _ _ _).trans ?_;exact(((Kq _ _ _).cons _)).trans (Kq _ _ _)
 have bg:=Hm (And.intro M hr);clear M hr H ag;refine Rp.rg (nN:=213) [ptr p 0,ptr p 0,ptr p 0,ptr p 0,ptr p 5,(S la n lc),Ag #[U O q,G l],Ag #[U O q,G l,S none 0 0],undef,undef,ptr p 0,ptr p 0,ptr p 5,undef] [8,9,13] 2 (Fpu D w0 zs p 5 76 3 n (S la n lc) cl [U O q,G l,S none 0 0] 74 2 g [U O q,G l] b A) ?_ ?_ ?_
 . exact⟨λ_=>⟨(HM.o.b0 5 HC.o).1,λj u hu hj=>HM.o.b1 j hu hj⟩,rfl,HM.o.keep bFz.drew⟩
 . refine Rp.os 0 (ptr p 0) ?_;refine Rp.os 0 (ptr p 0) ?_;refine Rp.o1 1 115 ?_;refine Rp.o1 2 116 ?_;refine Rp.o1 3 117 ?_;refine Rp.l1 4 118 (λk us W hk v=>(v.1 hk).1) ?_;refine Rp.Qj.c (by kernel_rfl) (λa W kk us Kc f hk hb hu v hK=>?_) ?_
   . have e9:a.tmps[9]?.getD undef=ptr g 0:=(Rp.JQ f 9 (by kernel_rfl)).trans rfl;have b5:=(v.1 hk).2 0 _ rfl (by decide);have R:=(v.1 hk).2 1 _ rfl (by decide);refine Rp.QA (Ag #[U O q,G l]) (Rp.Qd rfl) rfl ?_ hK;clear f hK v hu hb;go_simp;try rfl
   refine Rp.o1 6 120 ?_;refine Rp.hv 0 (λa W us f hu v=>?_) ?_
   . have bp:=Rp.va f 7 121;obtain⟨au,rfl,s⟩:=v;refine⟨(S (some ⟨W.heap.size,0,none⟩) 1 1),W.alloc (Fc #[U O q,G l,S none 0 0] 76),?_,?_⟩
     . clear f hu;go_simp;try rfl
     have ad:=s.keep (bFz.alloc lRz (Fc #[U O q,G l,S none 0 0] 76));exact⟨λ_=>⟨(ad.b0 5 HC.o).1,λj u hu hj=>ad.b1 j hu hj⟩,W.heap.size,rfl,ad,Qq _ _ _⟩
   refine Rp.ha 1 (λa W us f hu v Kc hK=>?_) ?_
   . have ay:=Rp.va f 5 119;have ax:=Rp.vu hu 0 122;obtain⟨au,g1,rfl,s,a8⟩:=v;have ho:W.ownsRow D 76 3 (S la n lc) n cl:=s.mo.own.tail.head;refine Rp.ap (news:=[U O q,G l,S none 0 0]) ay ho ax a8 (by simp[Hq]) info_keep157 (by have:=HN.o;unfold maxLen;omega) (by have:=HN.o;omega) s.le (λv' w' h1 h2 h3=>?_) hK;have ac:Mq D w0 zs (rB p b::⟨76,3,n+1,v',cl++[U O q,G l,S none 0 0]⟩::box 74 2 g [U O q,G l]::A) w':=s.push2 h2 h1 h3;exact⟨λh=>⟨(ac.b0 5 HC.o).1,λj u hu hj=>ac.b1 j hu hj⟩,g1,v',rfl,ac⟩
   refine Rp.o1 0 114 ?_;refine Rp.o1 10 124 ?_;refine Rp.o1 11 125 ?_;refine Rp.ht 2 (λa W us f hu v=>?_) ?_
   . have bn:=Rp.va f 12 126;have bo:=Rp.vu hu 1 123;obtain⟨au,g1,v',rfl,s⟩:=v;obtain⟨ce,ff⟩:=s.b0 5 HC.o;have ho:W.ownsRow D 76 3 v' (n+1) (cl++[U O q,G l,S none 0 0]):=s.mo.own.tail.head;obtain⟨a',c',rfl⟩:=Qg ho;refine⟨W.setCell ⟨p,5,none⟩ (S a' (n+1) c'),?_,?_⟩
     . clear f hu ho;go_simp;try rfl
     exact⟨λh=>by omega,g1,_,rfl,s.set 5 _⟩
   exact Rp.Qj.nil
 intro us a W f;have ea:=Rp.ca f [114,115,116,117,118,119,120,121,122,123,124,125,126];have v:=f.ph;simp only[Km,Tq,Rp.cv f 0 114,Rp.cv f 1 115,Rp.cv f 2 116,Rp.cv f 3 117,Rp.cv f 4 118,Rp.cv f 5 119,Rp.cv f 6 120,Rp.cv f 7 121,Rp.cu f 0 122,Rp.cu f 1 123,Rp.cv f 10 124,Rp.cv f 11 125,Rp.cv f 12 126]at ea;clear f;subst ea;obtain⟨-,g1,v',rfl,s⟩:=v;have a0:=Hm s;obtain⟨⟨b2,ci⟩,⟨bz,ch⟩,⟨bw,cg⟩,⟨bv,cf⟩,hf⟩:=a0.o.c58;have cc:=hf 15;have cb:=hf 16;have b9:=hf 17;have b8:=hf 18;clear hf s;go_wp2;go_end0;have s:=a0.o;obtain⟨rfl,rfl⟩:=bg.o;obtain⟨d,I,-,-,-,B⟩:=HE.o;refine(EnM.tail 6 (EnM.fin (zs':=zs) (off:=5) (j:=5) (z:=z) (kk:=kk) (r:=[⟨70,5,0,S none 0 0,[]⟩]) (F:=(gtF ws).map λx=>{ m with fq:=m.fq++[⟨x,[]⟩] }) (by decide) (by rw[d.ll];decide) (λ_ hq=>hq) s (λh=>?_) (λh=>?_)) (cells0:=cells) az.o).2.2.2.2.2.2
 . have:=HZ.o.symm.trans h;cases hu:gtF ws with
   |none=>rfl
   |some y=>simp[hu]at this
 have h0:=HZ.o.symm.trans h;cases hu:gtF ws with
 |none=>simp[hu]at h0
 |some y =>
  have ex:=HY.o y trivial hu;subst ex
  refine⟨_,rfl,?_⟩
  have:=(d.set_far (i:=19) (by decide) (G z)).set_globs (u:=v') (I.snoc (x:=⟨⟨q,l⟩,[]⟩) (cs:=[U O q,G l,S none 0 0]) (rs:=[⟨70,5,0,S none 0 0,[]⟩]) ⟨_,rfl,[],[],LR.nil _,rfl⟩)
  simpa only[Kb,Kj,Kg,Kk,B]using this
theorem mit8_c (last:Int)(D:Nat)(w0:J)(zs:List (Nat × Obj))(p:Nat)(cells:List Vu)(X:List Qb)(m:Mod)(V:J)(a:Option Ad)(c:Nat)(ws:List Wd)(h:RdI D w0 zs p cells X m V a c ws)(g:cells[13]?=some (U O last))(hz:(0:Nat)<=1048576)(hn:N ws<=1048576):Ec Q 22 #[ptr p 0,U O 8,S a (N ws) c] V (ItM (guF 8 last ((uF ws).map λx=>{ m with gk:=true,start:=x })) 8 D w0 zs p cells X):=by
 letI P0:PK:=⟨cells,V.heap.size⟩
 obtain⟨L0,l,q⟩:=h.ex;obtain⟨ab,aa⟩:=q.b0 13 g;have n:13<N cells:=by have:=q.mo.len;omega
 clear l q;by_cases t:(8:Int)<last\/last=8
 . have f:=Hm h.lb;(have Y:(8:Int)<last\/(¬(8:Int)<last/\last=8):=by omega);have R:=Hm (QG p false _ f.o.pb);have HH:=Hm h;have HL:=Hm t;clear h;rcases Y with h8|⟨h8,h9⟩
   . clear t;go_enter func22,ntmps22;(go_wp2_with fail);refine R.o.mono ?_;rintro e wb ⟨rfl,k,d⟩;replace f:=Hm (f.o.call k d);clear k d R;go_wp2;refine bodyPost_ret (results_none rfl _ _ _) rfl ?_;exact ItM.bads HH.o f.o (Xz (by have:=HL.o;simp[XI];omega))
   clear t;subst h9;go_enter func22,ntmps22;(go_wp2_with fail);refine R.o.mono ?_;rintro e wb ⟨rfl,k,d⟩;replace f:=Hm (f.o.call k d);clear k d R;go_wp2;refine bodyPost_ret (results_none rfl _ _ _) rfl ?_;exact ItM.bads HH.o f.o (Xz (by simp[XI]))
 have a0:¬(8:Int)<last:=by omega
 have az:¬last=8:=by omega
 clear t;rw[guF_on (by simp[XI];omega)];have v:=h.sec 8;have H:Hid ((cells.set 13 (U O 8))[13]?=some (U O (((8:Nat):Int)))):=Hm (Ky n);obtain⟨V1,s⟩:∃W,W=V.setCell ⟨p,13,none⟩ (U O 8):=⟨_,rfl⟩;obtain⟨b,r⟩:∃cs,cs=cells.set 13 (U O 8):=⟨_,rfl⟩;rw[<- s,<- r]at v;rw[<- r]at H;letI P1:PK:=⟨b,V1.heap.size⟩
 have f:=Hm v.lb;have HH:=Hm v;have KC:=Hm (mu32_c p a c ws false V1 f.o.pb f.o.wv v.hl);obtain⟨L,l,B⟩:=v.ex;have HE:=Hm (And.intro l B);clear v r h g n l B hz;go_enter func22,ntmps22;go_upto_region 4 with fail
 rw[<- s];clear s ab aa;obtain⟨z,A⟩:∃z':Bool,z'=(false || (uF ws).isNone):=⟨_,rfl⟩;have HZ:=Hm A;clear A;go_wp2_with fail
 refine KC.o.mono ?_;rintro e w1 ⟨x,rfl,k,d,hy⟩;rw[<- HZ.o]at k;have HY:=Hm hy;have I:=Hm ((f.o.call k d).backq HE.o.2 rfl);clear k d hy KC f;have C:=I.o.mo.len;obtain⟨c8,f8⟩:=I.o.b0 8 (Kv (by omega));obtain⟨c7,f7⟩:=I.o.b0 7 (Kv (by omega));obtain⟨⟨av,bb⟩,⟨au,ba⟩,⟨ar,a9⟩,⟨aq,a8⟩,E⟩:=I.o.c58;have a6:=E 15;have a5:=E 16;have a4:=E 17;have a3:=E 18;obtain⟨u8,ax⟩:∃u,w1.cell? ⟨p,8,none⟩=some u:=⟨_,c8⟩;obtain⟨u7,ay⟩:∃u,w1.cell? ⟨p,7,none⟩=some u:=⟨_,c7⟩;clear E c8 c7 C;go_wp2;go_end0;have M:=(I.o.set 8 (U O x)).set 7 (G true);have t:=M.mo.len;rw[Hj]at M;have F:(((b.set 19 (G z)).set 8 (U O x)).set 7 (G true))[19]?=some (G z):=by rw[Kz (by decide),Kz (by decide)];exact Ky (by simp at t;omega)
 refine(EnM.tail 8 (show EnM ((uF ws).map λx=>{ m with gk:=true,start:=x }) D w0 zs p b X (Z (.tuple #[])) _ from⟨rfl,?_⟩) (cells0:=cells) H.o).2.2.2.2.2.2;have j:=HZ.o;cases hu:uF ws with
 |none =>
  rw[hu]at j
  exact .inl ⟨rfl,_,_,M.mo,by rw[F,j];rfl⟩
 |some y =>
  rw[hu]at j;have ex:=HY.o y trivial hu;subst ex
  refine .inr ⟨_,_,L,zs,λ_ hq=>hq,rfl,?_,M,(((Sm.refl b).set (.inr (by decide)) _).set (.inl (by decide)) _).set (.inl (by decide)) _,by rw[F,j];rfl⟩
  have:=(HE.o.1.set_far (i:=19) (by decide) (G z)).set_start x
  rw[List.set_comm _ _ (by decide)]at this
  exact this
def mm (Zz0:St):Mod:=match Zz0.op with
 |none=>Zz0.m
 |some p=>Xsz0 Zz0.m p.is p.hd
def itMod (m:Mod):It->Mod
 |.mod m'=>m'
 |.hd h=>Xsz0 m [] h
def hdN:Hd->Int
 |.glob _=>6
 |.elem _=>9
 |.code _=>10
 |.data _=>11
structure StI (Zz0:St):Prop where
 s1:Zz0.last=8->Zz0.m.gk=true
 s2:Zz0.m.gk=true->8<=Zz0.last
 hd:∀p,Zz0.op=some p->Zz0.last=hdN p.hd/\p.n≠[]/\hdF p.n
theorem mm_put (Zz0:St)(k:Int)(i:It):mm (Zz0.put k i)=itMod Zz0.m i:=by cases i<;>rfl
def secS (Zz0:St)(k:Nat)(r:List Wd):Option Mod:=if k=0 then cusA Zz0.last Zz0.m r else if Zz0.last<=(k:Int)then(QN k Zz0.m r).map (itMod Zz0.m)else none
theorem Xk {F:Option Mod}(b:k≠0)(d:k≠8)(c:F=(QN k Zz0.m r).map (itMod Zz0.m)):guF k Zz0.last F=secS Zz0 k r:=by
 unfold secS guF XI;rw[if_neg b,c];by_cases a:(k:Int)<Zz0.last
 . rw[if_pos (by simp[a]),if_neg (by omega)]
 rw[if_neg (by simp[a,d]),if_pos (by omega)]
theorem guF_sec8 (b:StI Zz0):guF 8 Zz0.last ((uF r).map λx=>{ Zz0.m with gk:=true,start:=x })=secS Zz0 8 r:=by
 unfold secS guF XI;rw[if_neg (show(8:Nat)≠0 by decide)];by_cases c:(8:Int)<Zz0.last
 . rw[if_pos (by simp;omega),if_neg (by omega)]
 rw[if_pos (show Zz0.last<=((8:Nat):Int) by omega)];by_cases a:Zz0.last=8
 . rw[if_pos (by simp[a])];simp only[QN];rw[if_pos (b.s1 a)];rfl
 rw[if_neg (by simp[c,a])];simp only[QN];rw[if_neg (λh=>by have:=b.s2 h;omega),Mb];rfl
def Msm (m:Mod):Prop:=N m.types<=1048576/\N m.cj<=1048576/\N m.jv<=1048576/\N m.fk<=1048576/\N m.jj<=1048576/\N m.fq<=1048576/\N m.fj<=1048576/\N m.fw<=1048576/\N m.gq<=1048576/\N m.gj<=1048576/\N m.gx<=1048576
theorem mitem_c (Zz0:St)(y:StI Zz0)(k:Nat)(z:k<12)(D:Nat)(w0:J)(zs:List (Nat × Obj))(p:Nat)(cells:List Vu)(X:List Qb)(V:J)(a:Option Ad)(c:Nat)(ws:List Wd)(h:RdI D w0 zs p cells X Zz0.m V a c ws)(b:cells[13]?=some (U O Zz0.last))(v:Msm Zz0.m)(d:N ws<=1048576):Ec Q 22 #[ptr p 0,U O (k:Int),S a (N ws) c] V (ItM (secS Zz0 k ws) k D w0 zs p cells X):=by
 obtain⟨u,t,s,r,q,o,n,l,j,g,f⟩:=v;have:k=0\/k=1\/k=2\/k=3\/k=4\/k=5\/k=6\/k=7\/k=8\/k=9\/k=10\/k=11:=by omega
 rcases this with rfl|rfl|rfl|rfl|rfl|rfl|rfl|rfl|rfl|rfl|rfl|rfl
 . exact mit0_c Zz0.last D w0 zs p cells X Zz0.m V a c ws h b f d
 . rw[<- Xk (by decide) (by decide) (by simp only[QN,Mb];rfl)];exact mit1_c Zz0.last D w0 zs p cells X Zz0.m V a c ws h b u d
 . rw[<- Xk (by decide) (by decide) (by simp only[QN,Mb];rfl)];exact mit2_c Zz0.last D w0 zs p cells X Zz0.m V a c ws h b t d
 . rw[<- Xk (by decide) (by decide) (by simp only[QN,Mb];rfl)];exact mit3_c Zz0.last D w0 zs p cells X Zz0.m V a c ws h b s d
 . rw[<- Xk (by decide) (by decide) (by simp only[QN,Mb];rfl)];exact mit4_c Zz0.last D w0 zs p cells X Zz0.m V a c ws h b r d
 . rw[<- Xk (by decide) (by decide) (by simp only[QN,Mb];rfl)];exact mit5_c Zz0.last D w0 zs p cells X Zz0.m V a c ws h b q d
 . rw[<- Xk (by decide) (by decide) (by simp only[QN,Mb];rfl)];exact mit6_c Zz0.last D w0 zs p cells X Zz0.m V a c ws h b o d
 . rw[<- Xk (by decide) (by decide) (by simp only[QN,Mb];rfl)];exact mit7_c Zz0.last D w0 zs p cells X Zz0.m V a c ws h b n d
 . rw[<- guF_sec8 y];exact mit8_c Zz0.last D w0 zs p cells X Zz0.m V a c ws h b (by decide) d
 . rw[<- Xk (by decide) (by decide) (by simp only[QN,Mb];rfl)];exact mit9_c Zz0.last D w0 zs p cells X Zz0.m V a c ws h b l d
 . rw[<- Xk (by decide) (by decide) (by simp only[QN,Mb];rfl)];exact mit10_c Zz0.last D w0 zs p cells X Zz0.m V a c ws h b j d
 rw[<- Xk (by decide) (by decide) (by simp only[QN,Mb];rfl)];exact mit11_c Zz0.last D w0 zs p cells X Zz0.m V a c ws h b g d
theorem lr_unsnoc {b:α->List Vu->List Qb->Prop}{d:List α}{x:α}{c k}(h:LR b (d++[x]) c k):∃c0 k0 cs rs,c=c0++cs/\k=k0++rs/\LR b d c0 k0/\b x cs rs:=by
 obtain⟨l,j,o,rfl,rfl⟩:=h;have f:l≠[]:=λe=>by rw[e]at j;simp at j
 obtain⟨a,g,rfl⟩:∃a g,l=a++[g]:=⟨l.dropLast,l.getLast f,(List.dropLast_concat_getLast f).symm⟩;have n:N a=N d:=by simp at j;exact j
 refine⟨a.flatMap (·.cs),a.flatMap (·.rs),g.cs,g.rs,by simp,by simp,⟨a,n,λi y e hy he=>?_,rfl,rfl⟩,o (N d) x g (by simp) (by rw[<- n];simp)⟩;have p:i<N d:=by
  rcases Nat.lt_or_ge i (N d)with m|m
  . exact m
  rw[Hh m]at hy;cases hy
 exact o i y e (by rw[Hb p];exact hy) (by rw[Hb (by omega)];exact he)
def NsR (cells:List Vu)(X:List Qb):Option Pend->Prop
 |none=>X=[]
 |some q=>∃kv,cells[16]?=some kv/\cells[17]?=some (G false)/\cells[18]?=some (G false)/\X=[⟨2,1,(Ja q.n).length,kv,I (Ja q.n)⟩]
def MS (D:Nat)(w0:J)(p:Nat)(Zz0:St)(V:J):Prop:=∃cells L X zs,MRz zs (mm Zz0) cells L/\Mq D w0 zs (rB p cells::(L.flatten++X)) V/\cells[13]?=some (U O Zz0.last)/\cells[15]?=some (G Zz0.op.isSome)/\cells[19]?=some (G false)/\NsR cells X Zz0.op
def MSbad (D:Nat)(w0:J)(p:Nat)(V:J):Prop:=∃cells rs,Mo D w0 (rB p cells::rs) V/\cells[19]?=some (G true)
def LnM (Zz0:St)(l:Wd)(D:Nat)(w0:J)(p:Nat)(e:Ending)(w':J):Prop:=e=Z (.tuple #[])/\((∃Z',JR Zz0 l Z'/\MS D w0 p Z' w')\/((¬∃Z',JR Zz0 l Z')/\MSbad D w0 p w'))
theorem stI_line {u:St}(f:StI Zz0)(h:JR Zz0 l u):StI u:=by
 obtain⟨s,r,-,h⟩:=h;unfold J3 at h;split at h
 . obtain⟨o,c,-,-,rfl⟩:=h;exact⟨f.s1,f.s2,λp hp=>by rw[show(St.op _)=Zz0.op from rfl,o]at hp;cases hp⟩
 . obtain⟨o,B,i,d,rfl⟩:=h;rename_i k _ g;(have C:k<12:=by unfold Xc at g;rw[Tz]at g;obtain⟨q,j,rfl⟩:=g;have:=Mw j;simp[secL]at this;rcases this with rfl|rfl|rfl|rfl|rfl|rfl|rfl|rfl|rfl|rfl|rfl|rfl<;>decide);(have y:k≠0:=λe=>by simp_all);(have z:Zz0.m.gk=true->8<=(k:Int):=λh=>by have:=f.s2 h;omega);unfold QN at d
   split at d<;>first
    |(cases d;done)
    | (
     split at d
     · cases d
     . rw[Tz]at d;obtain⟨x,-,rfl⟩:=d
       exact⟨fun _=>rfl,fun _=>(by simp[St.put]),fun p hp=>by cases hp⟩)
    | (
     rw[Tz]at d;obtain⟨x,-,rfl⟩:=d
     refine⟨λh=>absurd h (by simp[St.put]),λh=>?_,λp hp=>?_⟩
     . exact z h
     . cases hp
       try exact⟨rfl,by simp,.inr ⟨[],rfl⟩⟩)
 obtain⟨-,x,-,-,q,v,A,a,rfl⟩:=h;have j:=f.hd q A;have g:∀is,(Xsz0 Zz0.m is q.hd).gk=Zz0.m.gk:=λis=>by cases q.hd<;>rfl
 split
 · refine⟨λh=>?_,λh=>?_,λp hp=>by cases hp⟩
   . show(Xsz0 Zz0.m _ q.hd).gk=true;rw[g];exact f.s1 h
   have t:(Xsz0 Zz0.m (q.is++[x]) q.hd).gk=true:=h;rw[g]at t;exact f.s2 t
 rename_i n;refine⟨f.s1,f.s2,λp hp=>?_⟩;cases hp;refine⟨j.1,n,?_⟩;rcases j.2.2 with e|⟨m,e⟩
 . exact absurd e j.2.1
 show hdF v;rw[e]at a;unfold Q0 at a;split at a
 . cases a
 split at a
 . cases a;exact .inr ⟨_,rfl⟩
 split at a
 . cases a;exact .inr ⟨_,rfl⟩
 split at a
 . split at a
   . cases a;cases m with
     |nil=>exact .inr ⟨[],rfl⟩
     |cons b m=>exact .inr ⟨_,rfl⟩
   cases a
 split at a
 . cases a;cases m with
   |nil=>exact absurd rfl n
   |cons b m=>exact .inr ⟨_,rfl⟩
 cases a;exact .inr ⟨_,rfl⟩
theorem op_item {i:It}(h:QN k m r=some i):(match i with|.mod _=>false|.hd _=>true)=(decide (k=6) || decide (9<=k)):=by
 unfold QN at h
 split at h<;>first
  |(cases h;done)
  | (
   split at h
   · cases h
   . rw[Tz]at h;obtain⟨x,-,rfl⟩:=h
     rfl)
  | (
   rw[Tz]at h;obtain⟨x,-,rfl⟩:=h
   rfl)
theorem line_sec (o:QV l=some (s::r))(p:Xc s=some k)(d:Zz0.op=none):(secS Zz0 k r=none->¬∃a,JR Zz0 l a)/\(∀m',secS Zz0 k r=some m'->∃a,JR Zz0 l a/\mm a=m'/\a.last=(if k=0 then Zz0.last else (k:Int))/\a.op.isSome=(decide (k=6) || decide (9<=k))/\(a.op=none\/∃h,a.op=some ⟨h,[],[false]⟩)):=by
 have j:∀a,JR Zz0 l a ↔ J3 Zz0 s r a:=λa=>by
  rw[Xq];constructor
  . rintro⟨q,t,e,h⟩;rw[o]at e;cases e;exact h
  exact λh=>⟨s,r,o,h⟩
 cases k with
 |zero =>
  have f:∀a,J3 Zz0 s r a ↔ CusG Zz0 r a:=λa=>by unfold J3;rw[p];exact Iff.rfl
  refine⟨λh=>?_,λm' h=>?_⟩
  . rintro⟨a,n⟩;obtain⟨-,c,g,b,-⟩:=(f a).1 ((j a).1 n);unfold secS cusA at h;rw[if_pos rfl,g]at h
    simp only[Pq]at h
    rw[if_pos b]at h;cases h
  . unfold secS cusA at h;rw[if_pos rfl]at h
    cases hc:cusF r with
    |none=>rw[hc]at h;cases h
    |some c =>
     rw[hc]at h
     simp only[Pq]at h
     split at h
     · rename_i ha
       cases h
       refine⟨{ Zz0 with m:={ Zz0.m with gx:=Zz0.m.gx++[c] } },(j _).2 ((f _).2 ⟨d,c,hc,ha,rfl⟩),?_,rfl,?_,.inl d⟩
       . unfold mm;rw[show(St.op _)=Zz0.op from rfl,d]
       . show Zz0.op.isSome=_
         rw[d];rfl
     . cases h
 |succ k =>
  have f:∀a,J3 Zz0 s r a ↔ SecG (k+1) Zz0 r a:=λa=>by unfold J3;rw[p];exact Iff.rfl
  refine⟨λh=>?_,λm' h=>?_⟩
  . rintro⟨a,n⟩;obtain⟨-,g,i,b,-⟩:=(f a).1 ((j a).1 n);unfold secS at h;rw[if_neg (Bn k),if_pos g,b]at h;cases h
  . unfold secS at h;rw[if_neg (Bn k)]at h
    split at h
    · rename_i g
      rw[Tz]at h;obtain⟨i,b,rfl⟩:=h
      refine⟨Zz0.put ((k+1:Nat):Int) i,(j _).2 ((f _).2 ⟨d,g,i,b,rfl⟩),mm_put _ _ _,?_,?_,?_⟩
      . rw[if_neg (Bn k)];cases i<;>rfl
      . rw[<- op_item b];cases i<;>rfl
      . cases i with
        |mod m=>exact .inl rfl
        |hd h=>exact .inr ⟨h,rfl⟩
    . cases h
theorem it_ln {zs:List (Nat × Obj)}{cells:List Vu}{e:Ending}{w':J}(E:QV l=some (s::r))(F:Xc s=some k)(H:Zz0.op=none)(m:cells[13]?=some (U O Zz0.last))(h:ItM (secS Zz0 k r) k D w0 zs p cells [] e w'):LnM Zz0 l D w0 p e w':=by
 obtain⟨B,A⟩:=line_sec E F H;obtain⟨I,h⟩:=h;refine⟨I,?_⟩;rcases h with ⟨n,j,rs,V,R⟩|⟨C,j,L,b,-,n,c,v,u,g,t,q,o,f⟩
 . exact .inr ⟨B n,j,rs,V,R⟩
 obtain⟨z,M,Y,X,y,d⟩:=A C n;subst Y;refine .inl ⟨z,M,j,L,?_⟩;have a:j[13]?=some (U O z.last):=by
  rw[u,X];split
  · exact m
  rfl
 rcases d with d|⟨hh,d⟩
 . exact⟨[],b,c,v,a,by rw[g,y],f,by rw[d];rfl⟩
 refine⟨[⟨2,1,0,S none 0 0,[]⟩],b,c,(v.nil 2 1).perm ?_,a,by rw[g,y],f,by rw[d];exact⟨_,t,q,o,rfl⟩⟩;refine(Kq _ _ _).trans (Tp _ ?_);rw[Tb];exact(Hp (l₁:=[_]))
theorem MS.bad {D w0 p}{V}(h:MS D w0 p Zz0 V):∃cells rs,Mo D w0 (rB p cells::rs) V/\cells[19]?=some (G false):=by
 obtain⟨cells,L,X,zs,-,b,-,-,a,-⟩:=h;exact⟨cells,_,b.mo,a⟩
theorem bad_mo {D w0}{cells:List Vu}{V}{bd:Bool}(h:Mo D w0 (rB p cells::rs) V)(a:cells[19]?=some (G bd)):Ec Q 20 #[ptr p 0] V λe b=>e=Z (.tuple #[])/\MSbad D w0 p b:=by
 letI:PK:=⟨cells,V.heap.size⟩
 refine(QG p bd V (h.pb rfl rfl a)).mono ?_;rintro e b ⟨rfl,c,f⟩;have g:Lb V p none [] true [] b:=⟨Own.nil _ _,c,f,.inl rfl,(h.pb rfl rfl a).lt2⟩;have d:=g.back h rfl;exact⟨rfl,_,_,d,Ky (by have:=h.len;omega)⟩
theorem mline_no (D w0 p)(Zz0:St)(l:Wd)(V)(h:MS D w0 p Zz0 V)(hl:N l<=1000000)(c:QV l=none):Ec Q 13 #[ptr p 0,Xs (Sz0 l)] V (LnM Zz0 l D w0 p):=by
 obtain⟨cells,rs,d,b⟩:=h.bad;have K:=Hm (words_c l V (by omega));have g:=Hm (And.intro d b);have f:=Hm c;clear h d b c;go_enter func13,ntmps13;go_wp2_with fail
 refine K.o.mono ?_;rintro e q ⟨v,rfl,a,-⟩;rw[f.o];simp only[Option.isSome_none];have k:=Hm (bad_mo (g.o.1.keep a) g.o.2);clear a;go_wp2_with fail
 refine k.o.mono ?_;rintro e n ⟨rfl,a⟩;have m:=Hm a;clear a;go_wp2;refine bodyPost_ret (results_none rfl _ _ _) rfl ?_;exact⟨rfl,.inr ⟨(by rintro⟨t,j⟩;obtain⟨s,r,e,-⟩:=Xq.1 j;rw[f.o]at e;cases e),m.o⟩⟩
theorem Sv_at {ws:List Wd}(hi:i<N ws):(Sv ws)[i]?=some (Xs (Sz0 (ws.getD i []))):=by simp[Sv,Ty,Kv hi]
theorem mline_cl (D w0 p)(Zz0:St)(l:Wd)(V)(s:Wd)(r:List Wd)(h:MS D w0 p Zz0 V)(y:StI Zz0)(hz:Msm Zz0.m)(hl:N l<=1000000)(hw:QV l=some (s::r))(ho:Zz0.op=none):Ec Q 13 #[ptr p 0,Xs (Sz0 l)] V (LnM Zz0 l D w0 p):=by
 obtain⟨cells,L,X,zs,H,hm,ah,j,ag,F⟩:=h;rw[ho]at F j;replace j:cells[15]?=some (G false):=j;have hX:X=[]:=F;subst hX;rw[show mm Zz0=Zz0.m by unfold mm;rw[ho]]at H;obtain⟨-,ab,aa⟩:=XS (N l) l (s::r) lRz hw;have K:=Hm (words_c l V (by omega));have d:=Hm (And.intro H (And.intro ah (And.intro j (And.intro ag (And.intro y (And.intro hz ho))))));have z:=Hm hm;have HW:=Hm hw;have HL:Hid (∀x∈s::r,N x<=1048576):=Hm (λx hx=>by have:=aa x hx;omega);have HN:Hid (N r<=1048576):=Hm (by simp at ab;omega);obtain⟨n,hn⟩:∃n,n=(s::r).length:=⟨_,rfl⟩;have M:Hid (n=(s::r).length):=Hm hn;have bf:1<=n:=by rw[hn];simp
 clear H hm ah j ag F y hz hw ab aa ho;go_enter func13,ntmps13;go_wp2_with fail
 refine K.o.mono ?_;rintro e w1 ⟨v,rfl,u,a⟩;have a:=a _ HW.o;rw[HW.o];simp only[Dk];have a2:∃b c,v=S (some ⟨b,0,none⟩) (s::r).length c/\V.heap.size<=b/\(s::r).length<=c:=by
  rcases a.2 with ⟨h0,h1⟩|⟨g,a4,bj,hv,hB,-,hc,-⟩
  . simp at h1
  exact⟨g,a4,hv,hB,hc⟩
 obtain⟨b,c,rfl,a3,C⟩:=a2;have ax:p<V.heap.size:=(z.o.mo.own.lt (k:=p) (QF.2 ⟨_,mS ..,rfl⟩)).2;have E:b<w1.heap.size:=(World.ownsRow.lt a b rfl).2;have R:Hid (∀i,i<(s::r).length->w1.cell? ⟨b,i,none⟩=some (Xs (Sz0 ((s::r).getD i [])))):=Hm (λi hi=>(World.ownsRow.cellAt a i (by omega)).trans (Sv_at hi));replace z:=Hm (z.o.keep u);have ak:=Hm C;have ai:=R.o 0 (by simp);simp only[Tg]at ai;have KS:=Hm (msec_c s w1);have A:Hid (b≠p/\b<w1.heap.size):=Hm ⟨by omega,E⟩;have bd:n<=c:=by rw[M.o];exact ak.o
 rw[<- M.o];clear u a a3 C ax E hn K;go_wp2_with fail
 refine KS.o.mono ?_;rintro e Y ⟨rfl,u⟩;have HC:Hid (∀i,i<(s::r).length->Y.cell? ⟨b,i,none⟩=some (Xs (Sz0 ((s::r).getD i [])))):=Hm (λi hi=>(u.cell (p:=⟨b,i,none⟩) A.o.2).trans (R.o i hi));have HB:Hid (b≠p/\b<Y.heap.size):=Hm ⟨A.o.1,Tc A.o.2 u.size⟩;replace z:=Hm (z.o.keep u);have bk:=(z.o.b0 15 d.o.2.2.1).1;clear u KS R A ai;cases hs:Xc s with
 |none =>
  have f:scM s=-1:=by unfold scM;rw[hs]
  have HS:=Hm hs;rw[f];clear hs f;have KB:=Hm (bad_mo z.o.mo d.o.2.2.2.1)
  go_wp2_with fail
  refine KB.o.mono ?_
  rintro e w3 ⟨rfl,u⟩;have a5:=Hm u;clear u
  go_wp2
  refine bodyPost_ret (results_none rfl _ _ _) rfl ?_
  refine⟨rfl,.inr ⟨?_,a5.o⟩⟩
  rintro⟨Z',hz⟩;obtain⟨s',r',e,hg⟩:=Xq.1 hz;rw[HW.o]at e
  cases e
  unfold J3 at hg;rw[HS.o]at hg;obtain⟨-,x,-,-,q,n',h1,-⟩:=hg;rw[d.o.2.2.2.2.2.2]at h1;cases h1
 |some k =>
  have f:scM s=(k:Int):=by unfold scM;rw[hs]
  have HS:=Hm hs
  have B:k<12:=by
   unfold Xc at hs;rw[Tz]at hs;obtain⟨q,hq,rfl⟩:=hs
   have:=Mw hq
   simp[secL]at this
   rcases this with rfl|rfl|rfl|rfl|rfl|rfl|rfl|rfl|rfl|rfl|rfl|rfl<;>decide
  rw[f];clear hs f;have ac:n-1=N r:=by rw[M.o];simp
  have t:=Hm ac;clear ac
  by_cases a1:c=1
  . have ae:n=1:=by omega
    subst a1;subst ae;have ad:N r=0:=t.o.symm
    have hR:RdI D w0 zs p cells [] Zz0.m Y (some ⟨b,0,none⟩) 0 r:=by
     refine @Rd2.mk ⟨_,_⟩ _ _ _ _ _ _ _ _ _ _ _ rfl rfl d.o.2.2.2.1 ⟨L,d.o.1,z.o⟩ ?_ (λx hx=>HL.o x (by simp[hx])) (by have:=t.o;omega)
     exact .inl (Lk (by have:=t.o;omega))
    have I:=Hm (mitem_c Zz0 d.o.2.2.2.2.1 k B D w0 zs p cells [] Y _ _ r hR d.o.2.1 d.o.2.2.2.2.2.1 HN.o);rw[ad]at I;clear ad;clear hR
    go_wp2_with (go_at_call 22;refine I.o.mono ?_;intro e w3 y;have HI:=Hm (it_ln HW.o HS.o d.o.2.2.2.2.2.2 d.o.2.1 y);have he:=y.1;subst he;clear y I)
    refine bodyPost_ret (results_none rfl _ _ _) rfl ?_
    exact HI.o
  ·
   have hR:RdI D w0 zs p cells [] Zz0.m Y (some ⟨b,1,none⟩) (c-1) r:=by
    refine @Rd2.mk ⟨_,_⟩ _ _ _ _ _ _ _ _ _ _ _ rfl rfl d.o.2.2.2.1 ⟨L,d.o.1,z.o⟩ ?_ (λx hx=>HL.o x (by simp[hx])) (by have:=t.o;omega)
    refine .inr ⟨b,1,rfl,⟨HB.o.2,HB.o.1⟩,λi hi=>?_⟩
    have:=HC.o (i+1) (by simp;omega)
    simpa[Ty,Nat.add_comm]using this
   have I:=Hm (mitem_c Zz0 d.o.2.2.2.2.1 k B D w0 zs p cells [] Y _ _ r hR d.o.2.1 d.o.2.2.2.2.2.1 HN.o);rw[<- t.o]at I;clear hR
   go_wp2_with (go_at_call 22;refine I.o.mono ?_;intro e w3 y;have HI:=Hm (it_ln HW.o HS.o d.o.2.2.2.2.2.2 d.o.2.1 y);have he:=y.1;subst he;clear y I)
   refine bodyPost_ret (results_none rfl _ _ _) rfl ?_
   exact HI.o
theorem sec_find2:secL.all (λp=>(JT 192 p.1).isNone)=true:=by decide +kernel
theorem sec_code (a:Xc s=some k):Qt s<0:=by
 unfold Xc at a;rw[Tz]at a;obtain⟨p,b,-⟩:=a;have c:=Mw b;have d:p.1=s:=by have:=List.find?_some b;simpa using this
 have:=List.all_eq_true.1 sec_find2 p c;rw[d]at this;unfold Qt;cases hf:JT 192 s with
 |none=>show(-1:Int)<0;decide
 |some j=>rw[hf]at this;cases this
theorem line_ins {q:Pend}(o:QV l=some (s::r))(c:Zz0.op=some q)(t:St):JR Zz0 l t ↔ 0<=Qt s/\∃x b,x.op=Qt s/\Arg (QD (Qe (Qt s))) r x/\Q0 q.n x.op=some b/\t=if b=[]then⟨Xsz0 Zz0.m (q.is++[x]) q.hd,Zz0.last,none⟩else ⟨Zz0.m,Zz0.last,some ⟨q.hd,q.is++[x],b⟩⟩:=by
 rw[Xq];constructor
 . rintro⟨u,v,e,h⟩;rw[o]at e;cases e;unfold J3 at h;split at h
   . obtain⟨a,-⟩:=h;rw[c]at a;cases a
   . obtain⟨a,-⟩:=h;rw[c]at a;cases a
   obtain⟨a,x,k,j,y,b,p,g,f⟩:=h;rw[c]at p;cases p;exact⟨a,x,b,k,j,g,f⟩
 rintro⟨a,x,b,k,j,g,f⟩;refine⟨s,r,o,?_⟩;unfold J3;split
 · rename_i d;have:=sec_code d;omega
 . rename_i d;have:=sec_code d;omega
 exact⟨a,x,k,j,q,b,c,g,f⟩
section
variable {D:Nat}{w0 V W:J}{zs:List (Nat × Obj)}
theorem Mq.chg {r:Qb}{l:List Qb}(h:Mq D w0 zs (r::rs) V)(p:V.grownBy W r.v.ownBlock)(t:Bw D V W)(hx:Own D W l)(j:∀k∈blk l,some k=r.v.ownBlock\/V.heap.size<=k):Mq D w0 zs (l++rs) W:=by
 have c:∀k,some k=r.v.ownBlock->k∉blk rs:=λk hk=>Own.disj (a:=[r]) (b:=rs) h.mo.own (QF.2 ⟨r,by simp,hk.symm⟩);have m:Own D W rs:=h.mo.own.tail.grown p (λk hk=>c k hk.symm);have f:∀k,k∈blk l->k∉blk rs:=λk hk hk2=>by
  rcases j k hk with d|d
  . exact c k d hk2
  have:=(h.mo.own.tail.lt hk2).2;omega
 refine⟨⟨hx.app m f,h.mo.b.trans t,Kf h.mo.le p.size⟩,λq hq=>?_⟩;have d:=h.z q hq;have n:=h.zlt hq;have g:∀k,some k=r.v.ownBlock->q.1≠k:=λk hk e=>d.2.2 (by rw[e];exact QF.2 ⟨r,by simp,hk.symm⟩);refine⟨(p.block q.1 n (λe=>g q.1 e rfl)).trans d.1,d.2.1,λhk=>?_⟩;rw[JD]at hk;rcases List.mem_append.1 hk with o|o
 . rcases j _ o with s|s
   . exact g _ s rfl
   omega
 exact d.2.2 (by obtain⟨x,hx,e⟩:=QF.1 o;exact QF.2 ⟨x,mC hx,e⟩)
def AnsX (n:List Bool)(op:Int)(v':Vu)(dn bd:Bool)(X':List Qb):Prop:=(Q0 n op=none/\bd=true/\X'=[])\/∃n',Q0 n op=some n'/\hdF n'/\bd=false/\dn=n'.isEmpty/\X'=[⟨2,1,(Ja n').length,v',I (Ja n')⟩]
theorem Mq.ans {n:List Bool}{op:Int}{c:Vu}{dn bd:Bool}(h:Mq D w0 zs (⟨2,1,(Ja n).length,kv,I (Ja n)⟩::rs) V)(ha:Ans n op c dn bd D W)(b:Gd D kv.ownBlock c V W):∃X',AnsX n op c dn bd X'/\Mq D w0 zs (X'++rs) W:=by
 rcases ha with ⟨g,f⟩|⟨j,g,f,o,m,l⟩
 . exact⟨[],.inl ⟨g,f,rfl⟩,h.chg b.2.1 b.1 (Own.nil _ _) (λk hk=>by simp[blk]at hk)⟩
 refine⟨_,.inr ⟨j,g,f,o,m,rfl⟩,h.chg b.2.1 b.1 (Own.one l) (λk hk=>?_)⟩;have a:c.ownBlock=some k:=by obtain⟨x,hx,e⟩:=QF.1 hk;simp at hx;subst hx;exact e
 rcases b.2.2 with d|d
 . exact .inl (by rw[<- a,d])
 exact .inr (d k a)
end
abbrev xC (x:In)(lv:Vu):List Vu:=[U O x.op,U O x.a,U O x.b,U Ou x.v,lv]
theorem perm_q1 (a:Qb)(E c b t:List Qb):(E++(c++((a::b)++t))).Perm (a::(E++(c++(b++t)))):=by
 have e:E++(c++((a::b)++t))=(E++c)++a::(b++t):=by simp
 have d:E++(c++(b++t))=(E++c)++(b++t):=by simp
 rw[e,d];exact Hn
theorem perm_q2 (a b:Qb)(E d c t:List Qb):(a::b::(E++(d++(c++t)))).Perm (E++(d++((a::(c++[b]))++t))):=by
 refine Ly (Tp a ?_) (perm_q1 a E d (c++[b]) t).symm;have e:E++(d++((c++[b])++t))=(E++(d++c))++b::t:=by simp
 have f:E++(d++(c++t))=(E++(d++c))++t:=by simp
 rw[e,f];exact List.perm_middle.symm
theorem LR.len {f:α->List Vu->List Qb->Prop}{sz:Nat}(hl:∀x c r,f x c r->N c=sz){a:List α}{c k}(h:LR f a c k):N c=N a*sz:=by
 obtain⟨b,d,g,rfl,rfl⟩:=h
 have:∀(b:List EV) (a:List α),N b=N a->(∀(i:Nat) (x:α) (ev:EV),a[i]?=some x->b[i]?=some ev->f x ev.cs ev.rs)->(b.flatMap (·.cs)).length=N a*sz:=by
  intro b;induction b with
  |nil=>intro a d _;simp at d;simp[<- d]
  |cons e b ih =>
   intro a d g
   cases a with
   |nil=>simp at d
   |cons x a =>
    rw[List.flatMap_cons,Kb,ih a (by simpa using d) (λi y ev hy he=>g (i+1) y ev (by simpa using hy) (by simpa using he)),hl x e.cs e.rs (g 0 x e rfl rfl)]
    simp[Md,Nat.add_comm]
 exact this b a d g
theorem open_core {d:α->List Vu->List Qb->Prop}{sz pos:Nat}{b:List α}{z:α}{o:Option Vu}{j:Nat}{en':In->α}(h:Jd T sz d (b++[z]) o L[j]?)(C:j<N L)(u:pos<sz)(hl:∀x c r,d x c r->N c=sz) (E:∀m rs,d z m rs->∃f a g A B,m[pos]?=some f/\LR RIn is a g/\rs=A++((⟨70,5,N is,f,a⟩::g)++B)/\∀x lv vi',d (en' x) (m.set pos vi') (A++((⟨70,5,N is+1,vi',a++xC x lv⟩::(g++[nR lv x.l]))++B))):∃v f c a R,o=some v/\L.flatten.Perm (⟨T,sz,N b+1,v,c⟩::⟨70,5,N is,f,a⟩::R)/\c[N b*sz+pos]?=some f/\∀x lv vi',∃k',LR d (b++[en' x]) (c.set (N b*sz+pos) vi') k'/\(⟨T,sz,N b+1,v,c.set (N b*sz+pos) vi'⟩::⟨70,5,N is+1,vi',a++xC x lv⟩::nR lv x.l::R).Perm (L.set j (⟨T,sz,(b++[en' x]).length,v,c.set (N b*sz+pos) vi'⟩::k')).flatten:=by
 obtain⟨v,c,k,I,s,t⟩:=h.at_;obtain⟨c0,p,m,rs,rfl,rfl,y,D⟩:=lr_unsnoc s;obtain⟨f,a,g,A,B,H,M,rfl,n⟩:=E m rs D;have q:N c0=N b*sz:=LR.len hl y;refine⟨v,f,c0++m,a,(L.eraseIdx j).flatten++((p++A)++(g++B)),I,?_,?_,λx lv vi'=>?_⟩
 . rw[Kb]at t;refine t.trans (Tp _ ?_);(have e:(L.eraseIdx j).flatten++(p++(A++((⟨70,5,N is,f,a⟩::g)++B)))=(L.eraseIdx j).flatten++((p++A)++((⟨70,5,N is,f,a⟩::g)++B)):=by simp);rw[e];exact perm_q1 _ _ _ _ _
 . rw[List.getElem?_append_right (by omega),q,Rw];exact H
 have F:(c0++m).set (N b*sz+pos) vi'=c0++m.set pos vi':=by rw[List.set_append_right _ _ (by omega),q,Rw]
 rw[F];refine⟨_,y.snoc (n x lv vi'),?_⟩;refine Ly ?_ (Jd.back C);rw[Kb];refine Tp _ ?_;have e:(L.eraseIdx j).flatten++(p++(A++((⟨70,5,N is+1,vi',a++xC x lv⟩::(g++[nR lv x.l]))++B)))=(L.eraseIdx j).flatten++((p++A)++((⟨70,5,N is+1,vi',a++xC x lv⟩::(g++[nR lv x.l]))++B)):=by simp
 rw[e];exact perm_q2 _ _ _ _ _ _
def OpE (zs:List (Nat × Obj))(m:Mod)(hd:Hd)(is:List In)(cells:List Vu)(L:List (List Qb))(off T sz pos n:Nat):Prop:=∃v vi c ci R,cells[off]?=some v/\L.flatten.Perm (⟨T,sz,n+1,v,c⟩::⟨70,5,N is,vi,ci⟩::R)/\c[n*sz+pos]?=some vi/\∀x lv vi',∃L',MRz zs (Xsz0 m (is++[x]) hd) cells L'/\(⟨T,sz,n+1,v,c.set (n*sz+pos) vi'⟩::⟨70,5,N is+1,vi',ci++xC x lv⟩::nR lv x.l::R).Perm L'.flatten
theorem rin_snoc {ci ki}(h:LR RIn is ci ki)(x:In)(a:Vu):LR RIn (is++[x]) (ci++xC x a) (ki++[nR a x.l]):=h.snoc ⟨a,rfl,rfl⟩
theorem li_more {ci ki}(h:LR RIn is ci ki)(x:In)(b a:Vu):LI' (is++[x]) a (⟨70,5,N is+1,a,ci++xC x b⟩::(ki++[nR b x.l])):=⟨_,_,rin_snoc h x b,by rw[Kb];rfl⟩
theorem open_glob {zs:List (Nat × Obj)}{cells:List Vu}{t:Q8}(h:MRz zs (Xsz0 m is (.glob t)) cells L):OpE zs m (.glob t) is cells L 5 76 3 2 (N m.fq):=by
 obtain⟨v,a,c,b,R,g,p,o,n⟩:=open_core (en':=fun x=>⟨t,is++[x]⟩) (pos:=2) (is:=is) h.fq (by rw[h.ll];decide) (by decide) (fun x c r hx=>by obtain⟨v,rfl,-⟩:=hx;rfl) (fun cs rs hx=>by
  obtain⟨a,rfl,b,j,d,rfl⟩:=hx
  exact⟨a,b,j,[],[],rfl,d,by simp,fun x lv vi'=>⟨vi',rfl,by simpa using li_more d x lv vi'⟩⟩)
 refine⟨v,a,c,b,R,g,p,o,λx lv vi'=>?_⟩;obtain⟨q,l,k⟩:=n x lv vi';refine⟨_,?_,k⟩;have f:=h.set_globs (u:=v) l;rw[set_self g]at f;exact f
theorem open_elem {zs:List (Nat × Obj)}{cells:List Vu}{a:List Int}(h:MRz zs (Xsz0 m is (.elem a)) cells L):OpE zs m (.elem a) is cells L 9 78 2 0 (N m.fw):=by
 obtain⟨v,b,c,f,R,k,t,s,q⟩:=open_core (en':=fun x=>⟨is++[x],a⟩) (pos:=0) (is:=is) h.fw (by rw[h.ll];decide) (by decide) (fun x c r hx=>by obtain⟨v,d,l,rfl,-⟩:=hx;rfl) (fun cs rs hx=>by
  obtain⟨b,d,l,rfl,⟨f,n,g,rfl⟩,rfl⟩:=hx
  exact⟨b,f,n,[],[nR d a],rfl,g,by simp,fun x lv vi'=>⟨vi',d,_,rfl,li_more g x lv vi',by simp⟩⟩)
 refine⟨v,b,c,f,R,k,t,s,λx lv vi'=>?_⟩;obtain⟨y,p,o⟩:=q x lv vi';refine⟨_,?_,o⟩;have j:=h.set_elems (u:=v) p;rw[set_self k]at j;exact j
theorem open_code {zs:List (Nat × Obj)}{cells:List Vu}{ls:List Grp}(h:MRz zs (Xsz0 m is (.code ls)) cells L):OpE zs m (.code ls) is cells L 10 81 2 1 (N m.gq):=by
 obtain⟨v,b,c,f,R,k,y,t,s⟩:=open_core (en':=fun x=>⟨ls,is++[x]⟩) (pos:=1) (is:=is) h.gq (by rw[h.ll];decide) (by decide) (fun x c r hx=>by obtain⟨a,d,z,l,rfl,-⟩:=hx;rfl) (fun cs rs hx=>by
  obtain⟨a,d,b,l,rfl,o,⟨f,n,g,rfl⟩,rfl⟩:=hx
  exact⟨b,f,n,[⟨206,2,N ls,a,d⟩],[],rfl,g,by simp,fun x lv vi'=>⟨a,d,vi',_,rfl,o,li_more g x lv vi',by simp⟩⟩)
 refine⟨v,b,c,f,R,k,y,t,λx lv vi'=>?_⟩;obtain⟨A,q,p⟩:=s x lv vi';refine⟨_,?_,p⟩;have j:=h.set_codes (u:=v) q;rw[set_self k]at j;exact j
theorem open_data {zs:List (Nat × Obj)}{cells:List Vu}{d:List UInt8}(h:MRz zs (Xsz0 m is (.data d)) cells L):OpE zs m (.data d) is cells L 11 83 2 0 (N m.gj):=by
 obtain⟨v,a,c,b,R,k,t,s,q⟩:=open_core (en':=fun x=>⟨is++[x],Iy d⟩) (pos:=0) (is:=is) h.gj (by rw[h.ll];decide) (by decide) (fun x c r hx=>by obtain⟨v,f,rfl,-⟩:=hx;rfl) (fun cs rs hx=>by
  obtain⟨a,f,rfl,⟨b,l,g,rfl⟩,n⟩:=hx
  exact⟨a,b,l,[],[],rfl,g,by simp,fun x lv vi'=>⟨vi',f,rfl,by simpa using li_more g x lv vi',n⟩⟩)
 refine⟨v,a,c,b,R,k,t,s,λx lv vi'=>?_⟩;obtain⟨y,p,o⟩:=q x lv vi';refine⟨_,?_,o⟩;have j:=h.set_datas (u:=v) p;rw[set_self k]at j;exact j
def hasR (n:Nat):Code->Bool
 |.region id _ _=>id==n
 |.seq a b=>hasR n a || hasR n b
 |.cond _ a b=>hasR n a || hasR n b
 |.block _ b=>hasR n b
 |_=>false
def regC (n:Nat):Code->Code
 |.seq a b=>bif hasR n a then regC n a else regC n b
 |.cond _ a b=>bif hasR n a then regC n a else regC n b
 |.block _ b=>regC n b
 |c=>c
def regO (n:Nat):Option Code->Code
 |some c=>regC n c
 |none=>.region 0 #[] false
def Fpo (D:Nat)(w0:J)(zs:List (Nat × Obj))(p off T sz n gE cE ix m:Nat)(va:Option Ad)(vc:Nat)(c ci XC:List Vu)(g:Nat)(rest:List Qb)(k:Nat)(us:List Vu)(W:J):Prop:=Rp.Fz (λW=>W.cell? ⟨p,off,none⟩=some (S (some ⟨gE,0,none⟩) (n+1) cE)/\W.cell? ⟨gE,ix,none⟩=some (S va m vc)/\∀j u,XC[j]?=some u->j<5->W.cell? ⟨g,j,none⟩=some u) 2
 [fun us W=>us=[]/\Mq D w0 zs (⟨T,sz,n+1,S (some ⟨gE,0,none⟩) (n+1) cE,c⟩::⟨70,5,m,S va m vc,ci⟩::box 70 5 g XC::rest) W,
  λus W=>∃g',us=[S (some ⟨g',0,none⟩) 1 1]/\Mq D w0 zs (⟨T,sz,n+1,S (some ⟨gE,0,none⟩) (n+1) cE,c⟩::⟨70,5,m,S va m vc,ci⟩::box 70 5 g XC::rest) W/\∀j u,XC[j]?=some u->W.cell? ((⟨g',0,none⟩:Ad).add j)=some u,
  λus W=>∃g' v',us=[S (some ⟨g',0,none⟩) 1 1,v']/\Mq D w0 zs (⟨T,sz,n+1,S (some ⟨gE,0,none⟩) (n+1) cE,c⟩::⟨70,5,m+1,v',ci++XC⟩::box 70 5 g XC::rest) W,
  fun us W=>∃g' v',us=[S (some ⟨g',0,none⟩) 1 1,v',undef]/\Mq D w0 zs (⟨T,sz,n+1,S (some ⟨gE,0,none⟩) (n+1) cE,c.set ix v'⟩::⟨70,5,m+1,v',ci++XC⟩::box 70 5 g XC::rest) W] k us W
theorem Mq.e0 {V:J}{zs:List (Nat × Obj)}{sz n c:Nat}{cs:List Vu}(h:Mq D w0 zs (⟨T,sz,n,S (some ⟨g,0,none⟩) n c,cs⟩::rs) V)(j:Nat){u:Vu}(b:j<n*sz)(a:cs[j]?=some u):V.cell? ⟨g,j,none⟩=some u/\V.frozen? ⟨g,j,none⟩=false:=h.mo.cell (T:=T) (sz:=sz) (n:=n) (c:=c) (cs:=cs) (by simp) rfl b a
theorem xc_one (x:In)(b:Option Ad)(ln a:Nat):∀u∈xC x (S b ln a),u.oneCell'=true:=by simp[Hq]
theorem insG:(∀⦃D:Nat⦄ ⦃w0:J⦄ ⦃zs:List (Nat × Obj)⦄ ⦃p:Nat⦄ ⦃cells c E:List Vu⦄ ⦃rest:List Qb⦄ ⦃n l s m C g ln o:Nat⦄ ⦃va q:Option Ad⦄ ⦃x:In⦄ ⦃a0:Act⦄ ⦃W0:J⦄ ⦃Qz0:Exit->Act->J->Prop⦄ (hN:a0.tmps.size=194) (h0:a0.tmps[0]?.getD undef=ptr p 0) (h7:a0.tmps[7]?.getD undef=ptr g 0) (L:a0.tmps[8]?.getD undef=U O (n:Int)) (hn:n<=1048576) (V:m<=1048576) (I:box 51 20 p cells∈rest) (hv:cells[5]?=some (S (some ⟨l,0,none⟩) (n+1) s)) (hi:c[(n*3+2)]?=some (S va m C)) (H:Mq D w0 zs (⟨76,3,n+1,S (some ⟨l,0,none⟩) (n+1) s,c⟩::⟨70,5,m,S va m C,E⟩::box 70 5 g (xC x (S q ln o))::rest) W0) (hQ:∀g1 z W,Mq D w0 zs (⟨76,3,n+1,S (some ⟨l,0,none⟩) (n+1) s,c.set (n*3+2) z⟩::⟨70,5,m+1,z,E++(xC x (S q ln o))⟩::box 70 5 g (xC x (S q ln o))::rest) W->Qz0 .normal ((((((((((((((((((((a0.put (some 78) (ptr p 0)).put (some 79) (ptr p 0)).put (some 80) (ptr p 0)).put (some 81) (ptr p 5)).put (some 82) ((S (some ⟨l,0,none⟩) (n+1) s))).put (some 83) (U O (n:Int))).put (some 84) (ptr p 0)).put (some 85) (ptr p 0)).put (some 86) (ptr p 0)).put (some 87) (ptr p 5)).put (some 88) ((S (some ⟨l,0,none⟩) (n+1) s))).put (some 89) (U O (n:Int))).put (some 90) (ptr l (n*3))).put (some 91) (ptr l (n*3+2))).put (some 92) ((S va m C))).put (some 93) (Ag #[U O x.op,U O x.a,U O x.b,U Ou x.v,S q ln o])).put (some 94) ((S (some ⟨g1,0,none⟩) 1 1))).put (some 95) (z)).put (some 96) (ptr l (n*3))).put (some 97) (ptr l (n*3+2))) W),Code.wp Q (regO 15 f13.body) Qz0 a0 W0)/\(∀⦃D:Nat⦄ ⦃w0:J⦄ ⦃zs:List (Nat × Obj)⦄ ⦃p:Nat⦄ ⦃cells c E:List Vu⦄ ⦃rest:List Qb⦄ ⦃n l s m C g ln o:Nat⦄ ⦃va q:Option Ad⦄ ⦃x:In⦄ ⦃a0:Act⦄ ⦃W0:J⦄ ⦃Qz0:Exit->Act->J->Prop⦄ (hN:a0.tmps.size=194) (h0:a0.tmps[0]?.getD undef=ptr p 0) (h7:a0.tmps[7]?.getD undef=ptr g 0) (L:a0.tmps[10]?.getD undef=U O (n:Int)) (hn:n<=1048576) (V:m<=1048576) (I:box 51 20 p cells∈rest) (hv:cells[10]?=some (S (some ⟨l,0,none⟩) (n+1) s)) (hi:c[(n*2+1)]?=some (S va m C)) (H:Mq D w0 zs (⟨81,2,n+1,S (some ⟨l,0,none⟩) (n+1) s,c⟩::⟨70,5,m,S va m C,E⟩::box 70 5 g (xC x (S q ln o))::rest) W0) (hQ:∀g1 z W,Mq D w0 zs (⟨81,2,n+1,S (some ⟨l,0,none⟩) (n+1) s,c.set (n*2+1) z⟩::⟨70,5,m+1,z,E++(xC x (S q ln o))⟩::box 70 5 g (xC x (S q ln o))::rest) W->Qz0 .normal ((((((((((((((((((((a0.put (some 136) (ptr p 0)).put (some 137) (ptr p 0)).put (some 138) (ptr p 0)).put (some 139) (ptr p 10)).put (some 140) ((S (some ⟨l,0,none⟩) (n+1) s))).put (some 141) (U O (n:Int))).put (some 142) (ptr p 0)).put (some 143) (ptr p 0)).put (some 144) (ptr p 0)).put (some 145) (ptr p 10)).put (some 146) ((S (some ⟨l,0,none⟩) (n+1) s))).put (some 147) (U O (n:Int))).put (some 148) (ptr l (n*2))).put (some 149) (ptr l (n*2+1))).put (some 150) ((S va m C))).put (some 151) (Ag #[U O x.op,U O x.a,U O x.b,U Ou x.v,S q ln o])).put (some 152) ((S (some ⟨g1,0,none⟩) 1 1))).put (some 153) (z)).put (some 154) (ptr l (n*2))).put (some 155) (ptr l (n*2+1))) W),Code.wp Q (regO 21 f13.body) Qz0 a0 W0):=by
 refine⟨?c0,?c1⟩;case' c0=>have d:=0
 case' c1=>have au:=0
 all_goals
  intro D w0 zs p cells c E rest n l s m C g ln o va q x a0 W0 Qz0 hN h0 h7 L hn V I hv hi H hQ
  simp only[f13,regO,regC,hasR,Av,Ew,Ev,Ac,Ab,cond_true,cond_false]
  first|(replace d:=d;refine Rp.rg (nN:=194) [ptr p 0,ptr p 0,ptr p 0,ptr p 5,(S (some ⟨l,0,none⟩) (n+1) s),U O (n:Int),ptr p 0,ptr p 0,ptr p 0,ptr p 5,(S (some ⟨l,0,none⟩) (n+1) s),U O (n:Int),ptr l (n*3),ptr l (n*3+2),(S va m C),Ag #[U O x.op,U O x.a,U O x.b,U Ou x.v,S q ln o],undef,undef,ptr l (n*3),ptr l (n*3+2),undef] [16,17,20] 2 (Fpo D w0 zs p 5 76 3 n l s (n*3+2) m va C c E (xC x (S q ln o)) g rest) ?_ ?_ ?_ (hN:=hN))|(refine Rp.rg (nN:=194) [ptr p 0,ptr p 0,ptr p 0,ptr p 10,(S (some ⟨l,0,none⟩) (n+1) s),U O (n:Int),ptr p 0,ptr p 0,ptr p 0,ptr p 10,(S (some ⟨l,0,none⟩) (n+1) s),U O (n:Int),ptr l (n*2),ptr l (n*2+1),(S va m C),Ag #[U O x.op,U O x.a,U O x.b,U Ou x.v,S q ln o],undef,undef,ptr l (n*2),ptr l (n*2+1),undef] [16,17,20] 2 (Fpo D w0 zs p 10 81 2 n l s (n*2+1) m va C c E (xC x (S q ln o)) g rest) ?_ ?_ ?_ (hN:=hN))
  . first|(replace d:=d;exact⟨λ_=>⟨(H.bx (t:=51) (n:=20) (g:=p) (cs:=cells) (by simp[I]) 5 hv).1,(H.e0 (n*3+2) (by rw[Md];omega) hi).1,λj u hu hj=>(H.bx (t:=70) (n:=5) (g:=g) (cs:=(xC x (S q ln o))) (by simp) j hu hj).1⟩,rfl,H.keep bFz.drew⟩)|(exact⟨λ_=>⟨(H.bx (t:=51) (n:=20) (g:=p) (cs:=cells) (by simp[I]) 10 hv).1,(H.e0 (n*2+1) (by rw[Md];omega) hi).1,λj u hu hj=>(H.bx (t:=70) (n:=5) (g:=g) (cs:=(xC x (S q ln o))) (by simp) j hu hj).1⟩,rfl,H.keep bFz.drew⟩)
  . refine Rp.os 0 (ptr p 0) ?_ (hx:=h0)
    first|(replace d:=d;refine Rp.o1 0 78 ?_)|(refine Rp.o1 0 136 ?_)
    first|(replace d:=d;refine Rp.o1 1 79 ?_)|(refine Rp.o1 1 137 ?_)
    first|(replace d:=d;refine Rp.o1 2 80 ?_)|(refine Rp.o1 2 138 ?_)
    first|(replace d:=d;refine Rp.l1 3 81 (λk F W hk r=>(r.1 hk).1) ?_)|(refine Rp.l1 3 139 (λk F W hk r=>(r.1 hk).1) ?_)
    first|(replace d:=d;refine Rp.os 8 (U O (n:Int)) ?_ (hx:=L))|(refine Rp.os 10 (U O (n:Int)) ?_ (hx:=L))
    refine Rp.os 0 (ptr p 0) ?_ (hx:=h0)
    first|(replace d:=d;refine Rp.o1 6 84 ?_)|(refine Rp.o1 6 142 ?_)
    first|(replace d:=d;refine Rp.o1 7 85 ?_)|(refine Rp.o1 7 143 ?_)
    first|(replace d:=d;refine Rp.o1 8 86 ?_)|(refine Rp.o1 8 144 ?_)
    first|(replace d:=d;refine Rp.l1 9 87 (λk F W hk r=>(r.1 hk).1) ?_)|(refine Rp.l1 9 145 (λk F W hk r=>(r.1 hk).1) ?_)
    first|(replace d:=d;refine Rp.os 8 (U O (n:Int)) ?_ (hx:=L))|(refine Rp.os 10 (U O (n:Int)) ?_ (hx:=L))
    first|(replace d:=d;refine Rp.o2 10 88 11 89 ?_)|(refine Rp.o2 10 146 11 147 ?_)
    first|(replace d:=d;refine Rp.o1 12 90 ?_)|(refine Rp.o1 12 148 ?_)
    first|(replace d:=d;refine Rp.l1 13 91 (λk F W hk r=>(r.1 hk).2.1) ?_)|(refine Rp.l1 13 149 (λk F W hk r=>(r.1 hk).2.1) ?_)
    refine Rp.Qj.c (by kernel_rfl) (λa W kk F Kc f hk hb hu r hK=>?_) ?_
    . have e7:a.tmps[7]?.getD undef=ptr g 0:=(Rp.JQ f 7 (by kernel_rfl)).trans h7;have az:=(r.1 hk).2.2 0 _ rfl (by decide);have ay:=(r.1 hk).2.2 1 _ rfl (by decide);have ax:=(r.1 hk).2.2 2 _ rfl (by decide);have aw:=(r.1 hk).2.2 3 _ rfl (by decide);have av:=(r.1 hk).2.2 4 _ rfl (by decide)
      refine Rp.QA (Ag #[U O x.op,U O x.a,U O x.b,U Ou x.v,S q ln o]) (Rp.Qd rfl) rfl ?_ hK
      clear f hK r hu hb
      go_simp
      try first|rfl|(intro hx;exfalso;omega)
    refine Rp.hv 0 (λa W F f hu r=>?_) ?_
    . first|(replace d:=d;have a4:=Rp.va f 15 93)|(have ao:=Rp.va f 15 151)
      obtain⟨M,rfl,B⟩:=r
      refine⟨(S (some ⟨W.heap.size,0,none⟩) 1 1),W.alloc (Fc #[U O x.op,U O x.a,U O x.b,U Ou x.v,S q ln o] 70),?_,?_⟩
      . clear f hu
        go_simp
        try first|rfl|(intro hx;exfalso;omega)
      . have A:=B.keep (bFz.alloc lRz (Fc #[U O x.op,U O x.a,U O x.b,U Ou x.v,S q ln o] 70))
        first|(replace d:=d;exact⟨λ_=>⟨(A.bx (t:=51) (n:=20) (g:=p) (cs:=cells) (by simp[I]) 5 hv).1,(A.e0 (n*3+2) (by rw[Md];omega) hi).1,λj u hu hj=>(A.bx (t:=70) (n:=5) (g:=g) (cs:=(xC x (S q ln o))) (by simp) j hu hj).1⟩,W.heap.size,rfl,A,Qq _ _ _⟩)|(exact⟨λ_=>⟨(A.bx (t:=51) (n:=20) (g:=p) (cs:=cells) (by simp[I]) 10 hv).1,(A.e0 (n*2+1) (by rw[Md];omega) hi).1,λj u hu hj=>(A.bx (t:=70) (n:=5) (g:=g) (cs:=(xC x (S q ln o))) (by simp) j hu hj).1⟩,W.heap.size,rfl,A,Qq _ _ _⟩)
    refine Rp.ha 1 (λa W F f hu r Kc hK=>?_) ?_
    . first|(replace d:=d;have ag:=Rp.va f 14 92)|(have aa:=Rp.va f 14 150)
      first|(replace d:=d;have af:=Rp.vu hu 0 94)|(have Y:=Rp.vu hu 0 152)
      obtain⟨M,g1,rfl,B,X⟩:=r;have R:W.ownsRow D 70 5 (S va m C) m E:=B.mo.own.tail.head
      first|(replace d:=d;refine Rp.ap (news:=(xC x (S q ln o))) ag R af X (xc_one x q ln o) info70 (by unfold maxLen;omega) (by omega) B.le (λz w' h1 h2 h3=>?_) hK)|(refine Rp.ap (news:=(xC x (S q ln o))) aa R Y X (xc_one x q ln o) info70 (by unfold maxLen;omega) (by omega) B.le (λz w' h1 h2 h3=>?_) hK)
      first|(replace d:=d;have y:Mq D w0 zs (⟨76,3,n+1,S (some ⟨l,0,none⟩) (n+1) s,c⟩::⟨70,5,m+1,z,E++(xC x (S q ln o))⟩::box 70 5 g (xC x (S q ln o))::rest) w':=B.push2 h2 h1 h3)|(have y:Mq D w0 zs (⟨81,2,n+1,S (some ⟨l,0,none⟩) (n+1) s,c⟩::⟨70,5,m+1,z,E++(xC x (S q ln o))⟩::box 70 5 g (xC x (S q ln o))::rest) w':=B.push2 h2 h1 h3)
      first|(replace d:=d;exact⟨λ_=>⟨(y.bx (t:=51) (n:=20) (g:=p) (cs:=cells) (by simp[I]) 5 hv).1,(y.e0 (n*3+2) (by rw[Md];omega) hi).1,λj u hu hj=>(y.bx (t:=70) (n:=5) (g:=g) (cs:=(xC x (S q ln o))) (by simp) j hu hj).1⟩,g1,z,rfl,y⟩)|(exact⟨λ_=>⟨(y.bx (t:=51) (n:=20) (g:=p) (cs:=cells) (by simp[I]) 10 hv).1,(y.e0 (n*2+1) (by rw[Md];omega) hi).1,λj u hu hj=>(y.bx (t:=70) (n:=5) (g:=g) (cs:=(xC x (S q ln o))) (by simp) j hu hj).1⟩,g1,z,rfl,y⟩)
    first|(replace d:=d;refine Rp.o2 4 82 5 83 ?_)|(refine Rp.o2 4 140 5 141 ?_)
    first|(replace d:=d;refine Rp.o1 18 96 ?_)|(refine Rp.o1 18 154 ?_)
    refine Rp.ht 2 (λa W F f hu r=>?_) ?_
    . first|(replace d:=d;have a2:=Rp.va f 19 97)|(have aj:=Rp.va f 19 155)
      first|(replace d:=d;have a3:=Rp.vu hu 1 95)|(have ak:=Rp.vu hu 1 153)
      obtain⟨M,g1,z,rfl,B⟩:=r
      first|(replace d:=d;obtain⟨ah,ff⟩:=B.e0 (n*3+2) (by rw[Md];omega) hi)|(obtain⟨ah,ff⟩:=B.e0 (n*2+1) (by rw[Md];omega) hi)
      have R:W.ownsRow D 70 5 z (m+1) (E++(xC x (S q ln o))):=B.mo.own.tail.head;obtain⟨a',c',rfl⟩:=Qg R
      first|(replace d:=d;refine⟨W.setCell ⟨l,(n*3+2),none⟩ (S a' (m+1) c'),?_,?_⟩)|(refine⟨W.setCell ⟨l,(n*2+1),none⟩ (S a' (m+1) c'),?_,?_⟩)
      . clear f hu R
        go_simp
        try first|rfl|(intro hx;exfalso;omega)
      . first|(replace d:=d;exact⟨λh=>by omega,g1,_,rfl,B.set (n*3+2) _⟩)|(exact⟨λh=>by omega,g1,_,rfl,B.set (n*2+1) _⟩)
    exact Rp.Qj.nil
  . intro F a W f
    first|(replace d:=d;have ea:=Rp.ca f [78,79,80,81,82,83,84,85,86,87,88,89,90,91,92,93,94,95,96,97] (hN:=hN))|(have ea:=Rp.ca f [136,137,138,139,140,141,142,143,144,145,146,147,148,149,150,151,152,153,154,155] (hN:=hN))
    have r:=f.ph
    first|(replace d:=d;simp only[Km,Tq,Rp.cv f 0 78,Rp.cv f 1 79,Rp.cv f 2 80,Rp.cv f 3 81,Rp.cv f 4 82,Rp.cv f 5 83,Rp.cv f 6 84,Rp.cv f 7 85,Rp.cv f 8 86,Rp.cv f 9 87,Rp.cv f 10 88,Rp.cv f 11 89,Rp.cv f 12 90,Rp.cv f 13 91,Rp.cv f 14 92,Rp.cv f 15 93,Rp.cu f 0 94,Rp.cu f 1 95,Rp.cv f 18 96,Rp.cv f 19 97]at ea)|(simp only[Km,Tq,Rp.cv f 0 136,Rp.cv f 1 137,Rp.cv f 2 138,Rp.cv f 3 139,Rp.cv f 4 140,Rp.cv f 5 141,Rp.cv f 6 142,Rp.cv f 7 143,Rp.cv f 8 144,Rp.cv f 9 145,Rp.cv f 10 146,Rp.cv f 11 147,Rp.cv f 12 148,Rp.cv f 13 149,Rp.cv f 14 150,Rp.cv f 15 151,Rp.cu f 0 152,Rp.cu f 1 153,Rp.cv f 18 154,Rp.cv f 19 155]at ea)
    clear f;subst ea;obtain⟨-,g1,z,rfl,B⟩:=r
    exact hQ g1 z W B
def ins_glob:=insG.1
def ins_code:=insG.2
theorem insE:(∀⦃D:Nat⦄ ⦃w0:J⦄ ⦃zs:List (Nat × Obj)⦄ ⦃p:Nat⦄ ⦃cells c E:List Vu⦄ ⦃rest:List Qb⦄ ⦃n l s m B g ln o:Nat⦄ ⦃va q:Option Ad⦄ ⦃x:In⦄ ⦃a0:Act⦄ ⦃W0:J⦄ ⦃Qz0:Exit->Act->J->Prop⦄ (hN:a0.tmps.size=194) (h0:a0.tmps[0]?.getD undef=ptr p 0) (h7:a0.tmps[7]?.getD undef=ptr g 0) (L:a0.tmps[9]?.getD undef=U O (n:Int)) (hn:n<=1048576) (V:m<=1048576) (I:box 51 20 p cells∈rest) (hv:cells[9]?=some (S (some ⟨l,0,none⟩) (n+1) s)) (hi:c[(n*2)]?=some (S va m B)) (H:Mq D w0 zs (⟨78,2,n+1,S (some ⟨l,0,none⟩) (n+1) s,c⟩::⟨70,5,m,S va m B,E⟩::box 70 5 g (xC x (S q ln o))::rest) W0) (hQ:∀g1 z W,Mq D w0 zs (⟨78,2,n+1,S (some ⟨l,0,none⟩) (n+1) s,c.set (n*2) z⟩::⟨70,5,m+1,z,E++(xC x (S q ln o))⟩::box 70 5 g (xC x (S q ln o))::rest) W->Qz0 .normal ((((((((((((((((((((a0.put (some 107) (ptr p 0)).put (some 108) (ptr p 0)).put (some 109) (ptr p 0)).put (some 110) (ptr p 9)).put (some 111) ((S (some ⟨l,0,none⟩) (n+1) s))).put (some 112) (U O (n:Int))).put (some 113) (ptr p 0)).put (some 114) (ptr p 0)).put (some 115) (ptr p 0)).put (some 116) (ptr p 9)).put (some 117) ((S (some ⟨l,0,none⟩) (n+1) s))).put (some 118) (U O (n:Int))).put (some 119) (ptr l (n*2))).put (some 120) (ptr l (n*2))).put (some 121) ((S va m B))).put (some 122) (Ag #[U O x.op,U O x.a,U O x.b,U Ou x.v,S q ln o])).put (some 123) ((S (some ⟨g1,0,none⟩) 1 1))).put (some 124) (z)).put (some 125) (ptr l (n*2))).put (some 126) (ptr l (n*2))) W),Code.wp Q (regO 18 f13.body) Qz0 a0 W0)/\(∀⦃D:Nat⦄ ⦃w0:J⦄ ⦃zs:List (Nat × Obj)⦄ ⦃p:Nat⦄ ⦃cells c E:List Vu⦄ ⦃rest:List Qb⦄ ⦃n l s m B g ln o:Nat⦄ ⦃va q:Option Ad⦄ ⦃x:In⦄ ⦃a0:Act⦄ ⦃W0:J⦄ ⦃Qz0:Exit->Act->J->Prop⦄ (hN:a0.tmps.size=194) (h0:a0.tmps[0]?.getD undef=ptr p 0) (h7:a0.tmps[7]?.getD undef=ptr g 0) (L:a0.tmps[11]?.getD undef=U O (n:Int)) (hn:n<=1048576) (V:m<=1048576) (I:box 51 20 p cells∈rest) (hv:cells[11]?=some (S (some ⟨l,0,none⟩) (n+1) s)) (hi:c[(n*2)]?=some (S va m B)) (H:Mq D w0 zs (⟨83,2,n+1,S (some ⟨l,0,none⟩) (n+1) s,c⟩::⟨70,5,m,S va m B,E⟩::box 70 5 g (xC x (S q ln o))::rest) W0) (hQ:∀g1 z W,Mq D w0 zs (⟨83,2,n+1,S (some ⟨l,0,none⟩) (n+1) s,c.set (n*2) z⟩::⟨70,5,m+1,z,E++(xC x (S q ln o))⟩::box 70 5 g (xC x (S q ln o))::rest) W->Qz0 .normal ((((((((((((((((((((a0.put (some 165) (ptr p 0)).put (some 166) (ptr p 0)).put (some 167) (ptr p 0)).put (some 168) (ptr p 11)).put (some 169) ((S (some ⟨l,0,none⟩) (n+1) s))).put (some 170) (U O (n:Int))).put (some 171) (ptr p 0)).put (some 172) (ptr p 0)).put (some 173) (ptr p 0)).put (some 174) (ptr p 11)).put (some 175) ((S (some ⟨l,0,none⟩) (n+1) s))).put (some 176) (U O (n:Int))).put (some 177) (ptr l (n*2))).put (some 178) (ptr l (n*2))).put (some 179) ((S va m B))).put (some 180) (Ag #[U O x.op,U O x.a,U O x.b,U Ou x.v,S q ln o])).put (some 181) ((S (some ⟨g1,0,none⟩) 1 1))).put (some 182) (z)).put (some 183) (ptr l (n*2))).put (some 184) (ptr l (n*2))) W),Code.wp Q (regO 24 f13.body) Qz0 a0 W0):=by
 refine⟨?c0,?c1⟩;case' c0=>have d:=0
 case' c1=>have au:=0
 all_goals
  intro D w0 zs p cells c E rest n l s m B g ln o va q x a0 W0 Qz0 hN h0 h7 L hn V I hv hi H hQ
  simp only[f13,regO,regC,hasR,Av,Ew,Ev,Ac,Ab,cond_true,cond_false]
  first|(replace d:=d;refine Rp.rg (nN:=194) [ptr p 0,ptr p 0,ptr p 0,ptr p 9,(S (some ⟨l,0,none⟩) (n+1) s),U O (n:Int),ptr p 0,ptr p 0,ptr p 0,ptr p 9,(S (some ⟨l,0,none⟩) (n+1) s),U O (n:Int),ptr l (n*2),ptr l (n*2),(S va m B),Ag #[U O x.op,U O x.a,U O x.b,U Ou x.v,S q ln o],undef,undef,ptr l (n*2),ptr l (n*2),undef] [16,17,20] 2 (Fpo D w0 zs p 9 78 2 n l s (n*2) m va B c E (xC x (S q ln o)) g rest) ?_ ?_ ?_ (hN:=hN))|(refine Rp.rg (nN:=194) [ptr p 0,ptr p 0,ptr p 0,ptr p 11,(S (some ⟨l,0,none⟩) (n+1) s),U O (n:Int),ptr p 0,ptr p 0,ptr p 0,ptr p 11,(S (some ⟨l,0,none⟩) (n+1) s),U O (n:Int),ptr l (n*2),ptr l (n*2),(S va m B),Ag #[U O x.op,U O x.a,U O x.b,U Ou x.v,S q ln o],undef,undef,ptr l (n*2),ptr l (n*2),undef] [16,17,20] 2 (Fpo D w0 zs p 11 83 2 n l s (n*2) m va B c E (xC x (S q ln o)) g rest) ?_ ?_ ?_ (hN:=hN))
  . first|(replace d:=d;exact⟨λ_=>⟨(H.bx (t:=51) (n:=20) (g:=p) (cs:=cells) (by simp[I]) 9 hv).1,(H.e0 (n*2) (by rw[Md];omega) hi).1,λj u hu hj=>(H.bx (t:=70) (n:=5) (g:=g) (cs:=(xC x (S q ln o))) (by simp) j hu hj).1⟩,rfl,H.keep bFz.drew⟩)|(exact⟨λ_=>⟨(H.bx (t:=51) (n:=20) (g:=p) (cs:=cells) (by simp[I]) 11 hv).1,(H.e0 (n*2) (by rw[Md];omega) hi).1,λj u hu hj=>(H.bx (t:=70) (n:=5) (g:=g) (cs:=(xC x (S q ln o))) (by simp) j hu hj).1⟩,rfl,H.keep bFz.drew⟩)
  . refine Rp.os 0 (ptr p 0) ?_ (hx:=h0)
    first|(replace d:=d;refine Rp.o1 0 107 ?_)|(refine Rp.o1 0 165 ?_)
    first|(replace d:=d;refine Rp.o1 1 108 ?_)|(refine Rp.o1 1 166 ?_)
    first|(replace d:=d;refine Rp.o1 2 109 ?_)|(refine Rp.o1 2 167 ?_)
    first|(replace d:=d;refine Rp.l1 3 110 (λk F W hk r=>(r.1 hk).1) ?_)|(refine Rp.l1 3 168 (λk F W hk r=>(r.1 hk).1) ?_)
    first|(replace d:=d;refine Rp.os 9 (U O (n:Int)) ?_ (hx:=L))|(refine Rp.os 11 (U O (n:Int)) ?_ (hx:=L))
    refine Rp.os 0 (ptr p 0) ?_ (hx:=h0)
    first|(replace d:=d;refine Rp.o1 6 113 ?_)|(refine Rp.o1 6 171 ?_)
    first|(replace d:=d;refine Rp.o1 7 114 ?_)|(refine Rp.o1 7 172 ?_)
    first|(replace d:=d;refine Rp.o1 8 115 ?_)|(refine Rp.o1 8 173 ?_)
    first|(replace d:=d;refine Rp.l1 9 116 (λk F W hk r=>(r.1 hk).1) ?_)|(refine Rp.l1 9 174 (λk F W hk r=>(r.1 hk).1) ?_)
    first|(replace d:=d;refine Rp.os 9 (U O (n:Int)) ?_ (hx:=L))|(refine Rp.os 11 (U O (n:Int)) ?_ (hx:=L))
    first|(replace d:=d;refine Rp.o2 10 117 11 118 ?_)|(refine Rp.o2 10 175 11 176 ?_)
    first|(replace d:=d;refine Rp.o1 12 119 ?_)|(refine Rp.o1 12 177 ?_)
    first|(replace d:=d;refine Rp.l1 13 120 (λk F W hk r=>(r.1 hk).2.1) ?_)|(refine Rp.l1 13 178 (λk F W hk r=>(r.1 hk).2.1) ?_)
    refine Rp.Qj.c (by kernel_rfl) (λa W kk F Kc f hk hb hu r hK=>?_) ?_
    . have e7:a.tmps[7]?.getD undef=ptr g 0:=(Rp.JQ f 7 (by kernel_rfl)).trans h7;have az:=(r.1 hk).2.2 0 _ rfl (by decide);have ay:=(r.1 hk).2.2 1 _ rfl (by decide);have ax:=(r.1 hk).2.2 2 _ rfl (by decide);have aw:=(r.1 hk).2.2 3 _ rfl (by decide);have av:=(r.1 hk).2.2 4 _ rfl (by decide)
      refine Rp.QA (Ag #[U O x.op,U O x.a,U O x.b,U Ou x.v,S q ln o]) (Rp.Qd rfl) rfl ?_ hK
      clear f hK r hu hb
      go_simp
      try first|rfl|(intro hx;exfalso;omega)
    refine Rp.hv 0 (λa W F f hu r=>?_) ?_
    . first|(replace d:=d;have ar:=Rp.va f 15 122)|(have ak:=Rp.va f 15 180)
      obtain⟨M,rfl,C⟩:=r
      refine⟨(S (some ⟨W.heap.size,0,none⟩) 1 1),W.alloc (Fc #[U O x.op,U O x.a,U O x.b,U Ou x.v,S q ln o] 70),?_,?_⟩
      . clear f hu
        go_simp
        try first|rfl|(intro hx;exfalso;omega)
      . have A:=C.keep (bFz.alloc lRz (Fc #[U O x.op,U O x.a,U O x.b,U Ou x.v,S q ln o] 70))
        first|(replace d:=d;exact⟨λ_=>⟨(A.bx (t:=51) (n:=20) (g:=p) (cs:=cells) (by simp[I]) 9 hv).1,(A.e0 (n*2) (by rw[Md];omega) hi).1,λj u hu hj=>(A.bx (t:=70) (n:=5) (g:=g) (cs:=(xC x (S q ln o))) (by simp) j hu hj).1⟩,W.heap.size,rfl,A,Qq _ _ _⟩)|(exact⟨λ_=>⟨(A.bx (t:=51) (n:=20) (g:=p) (cs:=cells) (by simp[I]) 11 hv).1,(A.e0 (n*2) (by rw[Md];omega) hi).1,λj u hu hj=>(A.bx (t:=70) (n:=5) (g:=g) (cs:=(xC x (S q ln o))) (by simp) j hu hj).1⟩,W.heap.size,rfl,A,Qq _ _ _⟩)
    refine Rp.ha 1 (λa W F f hu r Kc hK=>?_) ?_
    . first|(replace d:=d;have ac:=Rp.va f 14 121)|(have aa:=Rp.va f 14 179)
      first|(replace d:=d;have ab:=Rp.vu hu 0 123)|(have Y:=Rp.vu hu 0 181)
      obtain⟨M,g1,rfl,C,X⟩:=r;have R:W.ownsRow D 70 5 (S va m B) m E:=C.mo.own.tail.head
      first|(replace d:=d;refine Rp.ap (news:=(xC x (S q ln o))) ac R ab X (xc_one x q ln o) info70 (by unfold maxLen;omega) (by omega) C.le (λz w' h1 h2 h3=>?_) hK)|(refine Rp.ap (news:=(xC x (S q ln o))) aa R Y X (xc_one x q ln o) info70 (by unfold maxLen;omega) (by omega) C.le (λz w' h1 h2 h3=>?_) hK)
      first|(replace d:=d;have y:Mq D w0 zs (⟨78,2,n+1,S (some ⟨l,0,none⟩) (n+1) s,c⟩::⟨70,5,m+1,z,E++(xC x (S q ln o))⟩::box 70 5 g (xC x (S q ln o))::rest) w':=C.push2 h2 h1 h3)|(have y:Mq D w0 zs (⟨83,2,n+1,S (some ⟨l,0,none⟩) (n+1) s,c⟩::⟨70,5,m+1,z,E++(xC x (S q ln o))⟩::box 70 5 g (xC x (S q ln o))::rest) w':=C.push2 h2 h1 h3)
      first|(replace d:=d;exact⟨λ_=>⟨(y.bx (t:=51) (n:=20) (g:=p) (cs:=cells) (by simp[I]) 9 hv).1,(y.e0 (n*2) (by rw[Md];omega) hi).1,λj u hu hj=>(y.bx (t:=70) (n:=5) (g:=g) (cs:=(xC x (S q ln o))) (by simp) j hu hj).1⟩,g1,z,rfl,y⟩)|(exact⟨λ_=>⟨(y.bx (t:=51) (n:=20) (g:=p) (cs:=cells) (by simp[I]) 11 hv).1,(y.e0 (n*2) (by rw[Md];omega) hi).1,λj u hu hj=>(y.bx (t:=70) (n:=5) (g:=g) (cs:=(xC x (S q ln o))) (by simp) j hu hj).1⟩,g1,z,rfl,y⟩)
    first|(replace d:=d;refine Rp.o2 4 111 5 112 ?_)|(refine Rp.o2 4 169 5 170 ?_)
    first|(replace d:=d;refine Rp.o1 18 125 ?_)|(refine Rp.o1 18 183 ?_)
    refine Rp.ht 2 (λa W F f hu r=>?_) ?_
    . first|(replace d:=d;have ao:=Rp.va f 19 126)|(have ai:=Rp.va f 19 184)
      first|(replace d:=d;have aq:=Rp.vu hu 1 124)|(have aj:=Rp.vu hu 1 182)
      obtain⟨M,g1,z,rfl,C⟩:=r;obtain⟨a1,ff⟩:=C.e0 (n*2) (by rw[Md];omega) hi;have R:W.ownsRow D 70 5 z (m+1) (E++(xC x (S q ln o))):=C.mo.own.tail.head;obtain⟨a',c',rfl⟩:=Qg R
      refine⟨W.setCell ⟨l,(n*2),none⟩ (S a' (m+1) c'),?_,?_⟩
      . clear f hu R
        go_simp
        try first|rfl|(intro hx;exfalso;omega)
      . exact⟨λh=>by omega,g1,_,rfl,C.set (n*2) _⟩
    exact Rp.Qj.nil
  . intro F a W f
    first|(replace d:=d;have ea:=Rp.ca f [107,108,109,110,111,112,113,114,115,116,117,118,119,120,121,122,123,124,125,126] (hN:=hN))|(have ea:=Rp.ca f [165,166,167,168,169,170,171,172,173,174,175,176,177,178,179,180,181,182,183,184] (hN:=hN))
    have r:=f.ph
    first|(replace d:=d;simp only[Km,Tq,Rp.cv f 0 107,Rp.cv f 1 108,Rp.cv f 2 109,Rp.cv f 3 110,Rp.cv f 4 111,Rp.cv f 5 112,Rp.cv f 6 113,Rp.cv f 7 114,Rp.cv f 8 115,Rp.cv f 9 116,Rp.cv f 10 117,Rp.cv f 11 118,Rp.cv f 12 119,Rp.cv f 13 120,Rp.cv f 14 121,Rp.cv f 15 122,Rp.cu f 0 123,Rp.cu f 1 124,Rp.cv f 18 125,Rp.cv f 19 126]at ea)|(simp only[Km,Tq,Rp.cv f 0 165,Rp.cv f 1 166,Rp.cv f 2 167,Rp.cv f 3 168,Rp.cv f 4 169,Rp.cv f 5 170,Rp.cv f 6 171,Rp.cv f 7 172,Rp.cv f 8 173,Rp.cv f 9 174,Rp.cv f 10 175,Rp.cv f 11 176,Rp.cv f 12 177,Rp.cv f 13 178,Rp.cv f 14 179,Rp.cv f 15 180,Rp.cu f 0 181,Rp.cu f 1 182,Rp.cv f 18 183,Rp.cv f 19 184]at ea)
    clear f;subst ea;obtain⟨-,g1,z,rfl,C⟩:=r
    exact hQ g1 z W C
def ins_elem:=insE.1
def ins_data:=insE.2
def Fnx (D:Nat)(w0:J)(zs:List (Nat × Obj))(p g:Nat)(n:List Bool)(op:Int)(cells:List Vu)(kv:Vu)(bc:List Vu)(rest:List Qb)(k:Nat)(us:List Vu)(W:J):Prop:=Rp.Fz (λW=>(W.cell? ⟨p,16,none⟩=some kv/\W.cell? ⟨p,17,none⟩=some (G false)/\W.cell? ⟨p,18,none⟩=some (G false))/\W.cell? ⟨g,0,none⟩=some (U O op)) 1
 [fun us W=>us=[]/\Mq D w0 zs (⟨2,1,(Ja n).length,kv,I (Ja n)⟩::rB p cells::box 70 5 g bc::rest) W,
  λus W=>∃va vn vc dn bd X',us=[opV (S va vn vc) dn bd]/\AnsX n op (S va vn vc) dn bd X'/\Mq D w0 zs (X'++(rB p cells::box 70 5 g bc::rest)) W,
  fun us W=>∃va vn vc dn bd X',us=[opV (S va vn vc) dn bd,undef]/\AnsX n op (S va vn vc) dn bd X'/\Mq D w0 zs (rB p (((cells.set 16 (S va vn vc)).set 17 (G dn)).set 18 (G bd))::(X'++(box 70 5 g bc::rest))) W] k us W
theorem next_9 {zs:List (Nat × Obj)}{n:List Bool}{op:Int}{cells y:List Vu}{rest:List Qb}(hN:a0.tmps.size=194)(X:a0.tmps[0]?.getD undef=ptr p 0)(h7:a0.tmps[7]?.getD undef=ptr g 0)(hl:N n<=4194304)(hd:hdF n)(F:n.isEmpty=false) (u:cells[16]?=some kv) (s:cells[17]?=some (G false)) (r:cells[18]?=some (G false)) (A:y[0]?=some (U O op)) (B:Mq D w0 zs (⟨2,1,(Ja n).length,kv,I (Ja n)⟩::rB p cells::box 70 5 g y::rest) W0) (hQ:∀va j l m o q W,AnsX n op (S va j l) m o q->Mq D w0 zs (rB p (((cells.set 16 (S va j l)).set 17 (G m)).set 18 (G o))::(q++(box 70 5 g y::rest))) W->Qz0 .normal ((((((((((a0.put (some 42) (ptr p 0)).put (some 43) (ptr p 0)).put (some 44) (ptr p 0)).put (some 45) (ptr p 16)).put (some 46) (opV kv false false)).put (some 47) (ptr g 0)).put (some 48) (U O op)).put (some 49) (opV (S va j l) m o)).put (some 50) (ptr p 0)).put (some 51) (ptr p 16)) W):Code.wp Q (regO 9 f13.body) Qz0 a0 W0:=by
 simp only[f13,regO,regC,hasR,Av,Ew,Ev,Ac,Ab,cond_true,cond_false];refine Rp.rg (nN:=194) [ptr p 0,ptr p 0,ptr p 0,ptr p 16,opV kv false false,ptr g 0,U O op,undef,ptr p 0,ptr p 16,undef] [7,10] 1 (Fnx D w0 zs p g n op cells kv y rest) ?_ ?_ ?_ (hN:=hN)
 . exact⟨λ_=>⟨⟨(B.bx (t:=51) (n:=20) (g:=p) (cs:=cells) (by simp) 16 u).1,(B.bx (t:=51) (n:=20) (g:=p) (cs:=cells) (by simp) 17 s).1,(B.bx (t:=51) (n:=20) (g:=p) (cs:=cells) (by simp) 18 r).1⟩,(B.bx (t:=70) (n:=5) (g:=g) (cs:=y) (by simp) 0 A).1⟩,rfl,B.keep bFz.drew⟩
 . refine Rp.os 0 (ptr p 0) ?_ (hx:=X);refine Rp.os 0 (ptr p 0) ?_ (hx:=X);refine Rp.o1 1 43 ?_;refine Rp.o1 2 44 ?_;refine Rp.Qj.c (by kernel_rfl) (λa W kk C Kc f hk H hu b hK=>?_) ?_
   . have au:=Rp.va f 3 45;have V:=(b.1 hk).1.1;have R:=(b.1 hk).1.2.1;have M:=(b.1 hk).1.2.2;refine Rp.QA (opV kv false false) (Rp.Qd rfl) rfl ?_ hK;clear f hK b hu H;go_simp;try rfl
   refine Rp.os 7 (ptr g 0) ?_ (hx:=h7);refine Rp.l1 5 47 (λk C W hk b=>(b.1 hk).2) ?_;refine Rp.hc 0 (λa W C f hu b=>?_) ?_
   . have ar:=Rp.va f 4 46;have aq:=Rp.va f 6 48;obtain⟨L,rfl,v⟩:=b;have ho:W.ownsRow D 2 1 kv (Ja n).length (I (Ja n)):=v.mo.own.head;refine⟨24,#[opV kv n.isEmpty false,U O op],?_,?_⟩
     . clear f hu;rw[F];go_simp;try rfl
     refine(Go.Proofs.YtejkdbnngphgaaaGreatDoor.next_c D kv n op W v.le hl hd ho).mono ?_;rintro e w1 ⟨va,j,l,m,o,rfl,ha,H⟩;obtain⟨q,hx,d⟩:=v.ans ha H;exact⟨_,rfl,λ_=>⟨⟨(d.bx (t:=51) (n:=20) (g:=p) (cs:=cells) (by simp) 16 u).1,(d.bx (t:=51) (n:=20) (g:=p) (cs:=cells) (by simp) 17 s).1,(d.bx (t:=51) (n:=20) (g:=p) (cs:=cells) (by simp) 18 r).1⟩,(d.bx (t:=70) (n:=5) (g:=g) (cs:=y) (by simp) 0 A).1⟩,va,j,l,m,o,q,rfl,hx,d⟩
   refine Rp.o1 0 42 ?_;refine Rp.o1 8 50 ?_;refine Rp.ht 1 (λa W C f hu b=>?_) ?_
   . have ak:=Rp.va f 9 51;have ao:=Rp.vu hu 0 49;obtain⟨L,va,j,l,m,o,q,rfl,hx,v⟩:=b;have z:Mq D w0 zs (rB p cells::(q++(box 70 5 g y::rest))) W:=v.perm Hn;obtain⟨-,⟨ac,ax⟩,⟨ab,aw⟩,⟨aa,av⟩,E⟩:=z.c58;have aj:=E 16;have ai:=E 17;have ah:=E 18;clear E;refine⟨((W.setCell ⟨p,16,none⟩ (S va j l)).setCell ⟨p,17,none⟩ (G m)).setCell ⟨p,18,none⟩ (G o),?_,?_⟩
     . clear f hu;go_simp;try rfl
     exact⟨λh=>by omega,va,j,l,m,o,q,rfl,hx,((z.set 16 _).set 17 _).set 18 _⟩
   exact Rp.Qj.nil
 intro C a W f;have Y:=Rp.ca f [42,43,44,45,46,47,48,49,50,51] (hN:=hN);have b:=f.ph;simp only[Km,Tq,Rp.cv f 0 42,Rp.cv f 1 43,Rp.cv f 2 44,Rp.cv f 3 45,Rp.cv f 4 46,Rp.cv f 5 47,Rp.cv f 6 48,Rp.cu f 0 49,Rp.cv f 8 50,Rp.cv f 9 51]at Y;clear f;subst Y;obtain⟨-,va,j,l,m,o,q,rfl,hx,v⟩:=b;exact hQ va j l m o q W hx v
theorem perm_fin6 (E i b c ns d:Qb)(R:List Qb):(E::i::b::c::ns::d::R).Perm (c::b::((E::i::d::R)++[ns])):=by
 letI:DecidableEq Qb:=Classical.typeDecidableEq Qb
 rw[Cm];intro a;simp only[Hv,Tf,Cf];omega
theorem ms_fin {W:J}{zs:List (Nat × Obj)}{E i t:Qb}{R:List Qb}{B cells:List Vu}{L':List (List Qb)}{q:Hd}{a:List Bool}{last:Int}(u:Mq D w0 zs (E::i::box 70 5 g B::rB p cells::⟨2,1,(Ja a).length,kv,I (Ja a)⟩::t::R) W)(hp:(E::i::t::R).Perm L'.flatten)(o:MRz zs (Xsz0 m is q) cells L') (l:cells[13]?=some (U O last)) (s:cells[16]?=some kv) (f:cells[17]?=some (G a.isEmpty)) (r:cells[18]?=some (G false)) (d:cells[19]?=some (G false)):MS D w0 p (if a=[]then⟨Xsz0 m is q,last,none⟩else ⟨m,last,some ⟨q,is,a⟩⟩) (W.setCell ⟨p,15,none⟩ (G (!a.isEmpty))):=by
 have A:=(u.perm (perm_fin6 _ _ _ _ _ _ _)).set 15 (G (!a.isEmpty));have z:=(A.perm (Kq _ _ _)).tail;have y:=z.perm ((Mg [⟨2,1,(Ja a).length,kv,I (Ja a)⟩] hp).cons _);have C:=u.perm (perm_fin6 _ _ _ _ _ _ _) |>.mo.len;have k:(cells.set 15 (G (!a.isEmpty)))[15]?=some (G (!a.isEmpty)):=Ky (by omega);have b:=o.set_far (i:=15) (by decide) (G (!a.isEmpty));have c:∀j,j≠15->(cells.set 15 (G (!a.isEmpty)))[j]?=cells[j]?:=λj hj=>Kz (λe=>hj e.symm);by_cases n:a=[]
 . subst n;rw[if_pos rfl];refine⟨_,L',[],zs,b,?_,(c 13 (by decide)).trans l,k,(c 19 (by decide)).trans d,rfl⟩;rw[Tb];exact Mq.left (rs:=rB p _::L'.flatten) (ns:=[_]) y
 rw[if_neg n];have v:a.isEmpty=false:=by cases a with|nil=>exact(n rfl).elim|cons=>rfl
 rw[v]at f;refine⟨_,L',_,zs,b,y,(c 13 (by decide)).trans l,k.trans (by rw[v];rfl),(c 19 (by decide)).trans d,⟨kv,(c 16 (by decide)).trans s,(c 17 (by decide)).trans f,(c 18 (by decide)).trans r,rfl⟩⟩
theorem own_some {W:J}{sz n:Nat}{v:Vu}{c:List Vu}(h:W.ownsRow D T sz v (n+1) c):∃g cE,v=S (some ⟨g,0,none⟩) (n+1) cE:=by
 rcases h.2 with ⟨-,a⟩|⟨g,b,d,hv,-⟩
 . first|(simp at a;done)|(exact absurd a.1 (by omega))|(cases a)
 exact⟨g,b,hv⟩
theorem perm_in6 (E i b c ns d:Qb)(R:List Qb):([c,ns,b,d]++(E::i::R)).Perm (E::i::b::c::ns::d::R):=by
 letI:DecidableEq Qb:=Classical.typeDecidableEq Qb
 rw[Cm];intro a;simp only[Hv,Tf,Cf];omega
theorem mline_op (D w0 p)(Zz0:St)(l:Wd)(V)(s:Wd)(r:List Wd)(q:Pend)(h:MS D w0 p Zz0 V)(hI:StI Zz0)(hz:Zz0.sz<=1048576)(hl:N l<=1000000)(hw:QV l=some (s::r))(ho:Zz0.op=some q):Ec Q 13 #[ptr p 0,Xs (Sz0 l)] V (LnM Zz0 l D w0 p):=by
 obtain⟨cells,L,X,zs,b7,hm,dk,bc,dg,da⟩:=h;rw[ho]at da bc;replace bc:cells[15]?=some (G true):=bc;obtain⟨kv,dj,di,dh,hX⟩:=da;rw[show mm Zz0=Xsz0 Zz0.m q.is q.hd by unfold mm;rw[ho]]at b7;obtain⟨ba,c3,c7⟩:=hI.hd q ho;have cy:N Zz0.m.fq<=1048576/\N Zz0.m.fw<=1048576/\N Zz0.m.gq<=1048576/\N Zz0.m.gj<=1048576/\N q.is<=1048576/\N q.n<=1048576:=by unfold St.sz at hz;rw[ho]at hz;dsimp only at hz;omega
 have c4:N q.n<=4194304:=by omega
 have c6:q.n.isEmpty=false:=by
  cases hn:q.n with
  |nil=>exact(c3 hn).elim
  |cons=>rfl
 obtain⟨-,cx,cw⟩:=XS (N l) l (s::r) lRz hw;have K:=Hm (words_c l V (by omega));have a5:=Hm (line_ins hw ho);have au:=Hm cy;have HQ:=Hm (And.intro c4 (And.intro c7 c6));have bp:=Hm ba;have HA:=Hm (And.intro b7 (And.intro dk (And.intro bc (And.intro dg (And.intro dj (And.intro di (And.intro dh hX)))))));have Y:=Hm hm;have HW:=Hm hw;have HL:Hid (∀x∈s::r,N x<=1048576):=Hm (λx hx=>by have:=cw x hx;omega);have HN:Hid (N r<=1048576):=Hm (by simp at cx;omega);obtain⟨n,hn⟩:∃n,n=(s::r).length:=⟨_,rfl⟩;have dq:Hid (n=(s::r).length):=Hm hn;have ep:1<=n:=by rw[hn];simp
 clear b7 hm dk bc dg dj di dh hX hI hz hw cx cw ho cy c4 c3 c7 c6 ba;go_enter func13,ntmps13;go_wp2_with fail
 refine K.o.mono ?_;rintro e w1 ⟨v,rfl,hb,ai⟩;have ai:=ai _ HW.o;rw[HW.o];simp only[Dk];have dw:∃b c,v=S (some ⟨b,0,none⟩) (s::r).length c/\V.heap.size<=b/\(s::r).length<=c:=by
  rcases ai.2 with ⟨h0,h1⟩|⟨g,d2,cur,hv,hB,-,hc,-⟩
  . simp at h1
  exact⟨g,d2,hv,hB,hc⟩
 obtain⟨b,c,rfl,dx,bu⟩:=dw;have du:p<V.heap.size:=(Y.o.mo.own.lt (k:=p) (QF.2 ⟨_,mS ..,rfl⟩)).2;have bv:b<w1.heap.size:=(World.ownsRow.lt ai b rfl).2;have cn:Hid (∀i,i<(s::r).length->w1.cell? ⟨b,i,none⟩=some (Xs (Sz0 ((s::r).getD i [])))):=Hm (λi hi=>(World.ownsRow.cellAt ai i (by omega)).trans (Sv_at hi));replace Y:=Hm (Y.o.keep hb);have bz:=Hm bu;have dl:=cn.o 0 (by simp);simp only[Tg]at dl;have KS:=Hm (msec_c s w1);have bq:Hid (b≠p/\b<w1.heap.size):=Hm ⟨by omega,bv⟩;rw[<- dq.o];clear hb ai dx bu du bv hn K;go_wp2_with fail
 refine KS.o.mono ?_;rintro e w2 ⟨rfl,hb⟩;have HC:Hid (∀i,i<(s::r).length->w2.cell? ⟨b,0+i,none⟩=some (Xs (Sz0 ((s::r).getD i [])))):=Hm (λi hi=>by rw[Kk];exact(hb.cell (p:=⟨b,i,none⟩) bq.o.2).trans (cn.o i hi));have HB:Hid (b<w2.heap.size/\b≠p):=Hm ⟨Tc bq.o.2 hb.size,bq.o.1⟩;replace Y:=Hm (Y.o.keep hb);have bj:=(Y.o.b0 15 HA.o.2.2.1).1;clear hb KS cn bq dl;letI P0:PK:=⟨cells,w2.heap.size⟩
 have cl:=Hm (Y.o.mo.pb (bd:=false) rfl rfl HA.o.2.2.2.1);have KI:=Hm (sri_c p b 0 c s r w2 cl.o HB.o HC.o bz.o (λx hx=>Kf (HL.o x hx) (by decide)) (Kf HN.o (by decide)));rw[<- dq.o]at KI;go_upto_region 8 with fail
 clear bj;go_wp2_with fail
 refine KI.o.mono ?_;rintro e w3 ⟨x,F,E,bd,rfl,bs,c9,c8,hg,c2,cz⟩;have HX:=Hm (And.intro bs (And.intro c2 cz));obtain⟨ln,b9⟩:∃n,n=N x.l:=⟨_,rfl⟩;have HR:Hid (Lb w2 p none [] bd [nR (S F ln E) x.l] w3):=by have h1:=(Lb.start cl.o (a:=none) (ws:=[]) (.inl rfl)).call c8 hg;exact⟨Own.one (by rw[b9];exact c9),h1.pb,h1.g,h1.wv,h1.hi⟩
 unfold inV;rw[<- b9];clear bs c2 cz c9 c8 hg b9 KI;go_upto_region 9 with fail
 obtain⟨g,cb⟩:∃g,g=w3.heap.size:=⟨_,rfl⟩;obtain⟨V1,ce⟩:∃W,W=w3.alloc (Fc #[U O x.op,U O x.a,U O x.b,U Ou x.v,S F ln E] 70):=⟨_,rfl⟩;obtain⟨ak,cc⟩:∃cs,cs=cells.set 19 (G bd):=⟨_,rfl⟩;have bk:=Hm cc;have cm:Hid (Mq D w0 zs (⟨2,1,(Ja q.n).length,kv,I (Ja q.n)⟩::rB p ak::box 70 5 g (xC x (S F ln E))::(nR (S F ln E) x.l::L.flatten)) V1):=by have h1:=(HR.o.box (cur:=#[U O x.op,U O x.a,U O x.b,U Ou x.v,S F ln E]) 70 5 rfl).backq Y.o rfl;rw[ce,cb,cc];rw[HA.o.2.2.2.2.2.2.2]at h1;refine h1.perm ?_;exact(Hp (l₁:=rB p (cells.set 19 (G bd))::box 70 5 w3.heap.size (xC x (S F ln E))::nR (S F ln E) x.l::L.flatten) (l₂:=[⟨2,1,(Ja q.n).length,kv,I (Ja q.n)⟩])).trans (Im _) |> λh=>(by simpa using h)
 rw[<- ce,<- cb];clear ce cb cc Y HR cl;have bt:=cm.o.tail.mo.len;have hk:∀j,j≠19->ak[j]?=cells[j]?:=λj hj=>by rw[bk.o,Kz (λe=>hj e.symm)]
 refine next_9 (op:=x.op) rfl rfl rfl HQ.o.1 HQ.o.2.1 HQ.o.2.2 ((hk 16 (by decide)).trans HA.o.2.2.2.2.1) ((hk 17 (by decide)).trans HA.o.2.2.2.2.2.1) ((hk 18 (by decide)).trans HA.o.2.2.2.2.2.2.1) rfl cm.o ?_;intro va vn vc dn dm X' w4 df b8;obtain⟨d,aq⟩:∃cs,cs=((ak.set 16 (S va vn vc)).set 17 (G dn)).set 18 (G dm):=⟨_,rfl⟩;rw[<- aq]at b8;have a3:Hid (d[16]?=some (S va vn vc)):=Hm (by rw[aq,Kz (by decide),Kz (by decide)];exact Ky (by omega));have aa:Hid (d[17]?=some (G dn)):=Hm (by rw[aq,Kz (by decide)];exact Ky (by simp;omega));have av:Hid (d[18]?=some (G dm)):=Hm (by rw[aq];exact Ky (by simp;omega));have ag:Hid (d[19]?=some (G bd)):=Hm (by rw[aq,Kz (by decide),Kz (by decide),Kz (by decide),bk.o];exact Ky (by have:=bt;rw[bk.o]at this;simp at this;omega));have aw:Hid (d[13]?=some (U O Zz0.last)):=Hm (by rw[aq,Kz (by decide),Kz (by decide),Kz (by decide),hk 13 (by decide)];exact HA.o.2.1);have bo:Hid (MRz zs (Xsz0 Zz0.m q.is q.hd) d L):=Hm (by rw[aq,bk.o];exact(((HA.o.1.set_far (by decide) _).set_far (by decide) _).set_far (by decide) _).set_far (by decide) _);have Y:=Hm b8;obtain⟨d4,d0⟩:=Y.o.b0 18 av.o;obtain⟨d3,dz⟩:=Y.o.b0 19 ag.o;clear b8 aq bt hk bk cm HC HL bz HN;rcases df with ⟨a9,rfl,rfl⟩|⟨n',a9,de,rfl,rfl,rfl⟩
 . have a4:=Hm a9;clear a9;go_simp;have KB:=Hm (bad_mo Y.o.mo ag.o);(go_wp2_with (go_at_call 20;refine KB.o.mono ?_;rintro e w5 ⟨he,bb⟩;subst he;have co:=Hm bb;clear bb KB));refine bodyPost_ret (results_none rfl _ _ _) rfl ?_;refine⟨rfl,.inr ⟨?_,co.o⟩⟩;rintro⟨Z',hz⟩;obtain⟨h0,x',n',e1,-,e3,-⟩:=(a5.o Z').1 hz;rw[e1,<- HX.o.1,a4.o]at e3;cases e3
 have a4:=Hm (And.intro a9 de);clear a9 de;cases bd with
 |true =>
  go_simp
  have KB:=Hm (bad_mo Y.o.mo ag.o)
  go_wp2_with (go_at_call 20;refine KB.o.mono ?_;rintro e w5 ⟨he,bb⟩;subst he;have co:=Hm bb;clear bb KB)
  refine bodyPost_ret (results_none rfl _ _ _) rfl ?_
  refine⟨rfl,.inr ⟨?_,co.o⟩⟩
  rintro⟨Z',hz⟩;obtain⟨h0,x',eo,e1,e2,e3,-⟩:=(a5.o Z').1 hz
  have:=HX.o.2.2 (code_form s h0).1 ⟨x',e2⟩
  cases this
 |false =>
  obtain⟨dd,bw⟩:=HX.o.2.1 rfl;have ab:=Hm (And.intro (form_code _ dd) bw);have ar:=(Y.o.b0 13 aw.o).1;clear dd bw
  go_simp
  go_upto_region 12 with fail
  clear d4 d3 d0 dz;obtain⟨qh,qi,qn⟩:=q
  dsimp only at *
  cases qh with
  |glob t =>
   obtain⟨z,f⟩:∃n,n=N Zz0.m.fq:=⟨_,rfl⟩;have M:Hid (z<=1048576/\N qi<=1048576):=Hm ⟨by rw[f];exact au.o.1,au.o.2.2.2.2.1⟩;have ad:=open_glob bo.o;rw[<- f]at ad;obtain⟨v,vi,c1,ci,R,e5,pm,ei,y⟩:=ad;have B:=(Y.o.perm ((Lm [_,_,_,_] pm)));obtain⟨gE,cE,rfl⟩:=own_some (show w4.ownsRow D 76 3 v (z+1) c1 from B.mo.own.all (⟨76,3,z+1,v,c1⟩:Qb) (by simp));obtain⟨vj,vd,rfl⟩:=Qg (show w4.ownsRow D 70 5 vi (N qi) ci from B.mo.own.all (⟨70,5,N qi,vi,ci⟩:Qb) (by simp));have HE:=Hm (And.intro e5 (And.intro ei y));have a1:Hid (Mq D w0 zs (⟨76,3,z+1,S (some ⟨gE,0,none⟩) (z+1) cE,c1⟩::⟨70,5,N qi,S vj (N qi) vd,ci⟩::box 70 5 g (xC x (S F ln E))::(rB p d::⟨2,1,(Ja n').length,S va vn vc,I (Ja n')⟩::nR (S F ln E) x.l::R)) w4):=Hm (B.perm (perm_in6 _ _ _ _ _ _ _));obtain⟨c5,f5⟩:=Y.o.b0 5 e5;have af:Zz0.last=6:=bp.o;rw[af]at ar;have b6:=M.o.1;clear f B e5 pm ei y af
   go_upto_region 15 with fail
   refine ins_glob (cells:=d) (n:=z) rfl rfl rfl rfl M.o.1 M.o.2 (mS ..) HE.o.1 HE.o.2.1 a1.o ?_
   intro g1 v' w5 A
   have a0:=Hm A;have H:box 51 20 p d∈(⟨76,3,z+1,S (some ⟨gE,0,none⟩) (z+1) cE,c1.set (z*3+2) v'⟩::⟨70,5,N qi+1,v',ci++xC x (S F ln E)⟩::box 70 5 g (xC x (S F ln E))::(rB p d::⟨2,1,(Ja n').length,S va vn vc,I (Ja n')⟩::nR (S F ln E) x.l::R)):=by simp
   have cj:=(A.bx H 17 aa.o).1;obtain⟨b5,C⟩:∃u,d[15]?=some u:=⟨_,Kv (by have:=Y.o.mo.len;omega)⟩;obtain⟨bj,cg⟩:=A.bx H 15 C;clear A H C c5 f5 ar
   go_simp
   go_wp2
   go_end0
   refine⟨rfl,.inl ⟨_,(a5.o _).2 ⟨ab.o.1,x,n',HX.o.1,ab.o.2,a4.o.1,rfl⟩,?_⟩⟩
   obtain⟨L',ae,ay⟩:=HE.o.2.2 x (S F ln E) v'
   exact ms_fin a0.o ay ae aw.o a3.o aa.o av.o ag.o
  |elem t =>
   obtain⟨z,f⟩:∃n,n=N Zz0.m.fw:=⟨_,rfl⟩;have M:Hid (z<=1048576/\N qi<=1048576):=Hm ⟨by rw[f];exact au.o.2.1,au.o.2.2.2.2.1⟩;have ad:=open_elem bo.o;rw[<- f]at ad;obtain⟨v,vi,c1,ci,R,e5,pm,ei,y⟩:=ad;have B:=(Y.o.perm ((Lm [_,_,_,_] pm)));obtain⟨gE,cE,rfl⟩:=own_some (show w4.ownsRow D 78 2 v (z+1) c1 from B.mo.own.all (⟨78,2,z+1,v,c1⟩:Qb) (by simp));obtain⟨vj,vd,rfl⟩:=Qg (show w4.ownsRow D 70 5 vi (N qi) ci from B.mo.own.all (⟨70,5,N qi,vi,ci⟩:Qb) (by simp));have HE:=Hm (And.intro e5 (And.intro ei y));have a1:Hid (Mq D w0 zs (⟨78,2,z+1,S (some ⟨gE,0,none⟩) (z+1) cE,c1⟩::⟨70,5,N qi,S vj (N qi) vd,ci⟩::box 70 5 g (xC x (S F ln E))::(rB p d::⟨2,1,(Ja n').length,S va vn vc,I (Ja n')⟩::nR (S F ln E) x.l::R)) w4):=Hm (B.perm (perm_in6 _ _ _ _ _ _ _));obtain⟨c5,f5⟩:=Y.o.b0 9 e5;have af:Zz0.last=9:=bp.o;rw[af]at ar;have b6:=M.o.1;clear f B e5 pm ei y af
   go_upto_region 18 with fail
   refine ins_elem (cells:=d) (n:=z) rfl rfl rfl rfl M.o.1 M.o.2 (mS ..) HE.o.1 HE.o.2.1 a1.o ?_
   intro g1 v' w5 A
   have a0:=Hm A;have H:box 51 20 p d∈(⟨78,2,z+1,S (some ⟨gE,0,none⟩) (z+1) cE,c1.set (z*2) v'⟩::⟨70,5,N qi+1,v',ci++xC x (S F ln E)⟩::box 70 5 g (xC x (S F ln E))::(rB p d::⟨2,1,(Ja n').length,S va vn vc,I (Ja n')⟩::nR (S F ln E) x.l::R)):=by simp
   have cj:=(A.bx H 17 aa.o).1;obtain⟨b5,C⟩:∃u,d[15]?=some u:=⟨_,Kv (by have:=Y.o.mo.len;omega)⟩;obtain⟨bj,cg⟩:=A.bx H 15 C;clear A H C c5 f5 ar
   go_simp
   go_wp2
   go_end0
   refine⟨rfl,.inl ⟨_,(a5.o _).2 ⟨ab.o.1,x,n',HX.o.1,ab.o.2,a4.o.1,rfl⟩,?_⟩⟩
   obtain⟨L',ae,ay⟩:=HE.o.2.2 x (S F ln E) v'
   exact ms_fin a0.o ay ae aw.o a3.o aa.o av.o ag.o
  |code t =>
   obtain⟨z,f⟩:∃n,n=N Zz0.m.gq:=⟨_,rfl⟩;have M:Hid (z<=1048576/\N qi<=1048576):=Hm ⟨by rw[f];exact au.o.2.2.1,au.o.2.2.2.2.1⟩;have ad:=open_code bo.o;rw[<- f]at ad;obtain⟨v,vi,c1,ci,R,e5,pm,ei,y⟩:=ad;have B:=(Y.o.perm ((Lm [_,_,_,_] pm)));obtain⟨gE,cE,rfl⟩:=own_some (show w4.ownsRow D 81 2 v (z+1) c1 from B.mo.own.all (⟨81,2,z+1,v,c1⟩:Qb) (by simp));obtain⟨vj,vd,rfl⟩:=Qg (show w4.ownsRow D 70 5 vi (N qi) ci from B.mo.own.all (⟨70,5,N qi,vi,ci⟩:Qb) (by simp));have HE:=Hm (And.intro e5 (And.intro ei y));have a1:Hid (Mq D w0 zs (⟨81,2,z+1,S (some ⟨gE,0,none⟩) (z+1) cE,c1⟩::⟨70,5,N qi,S vj (N qi) vd,ci⟩::box 70 5 g (xC x (S F ln E))::(rB p d::⟨2,1,(Ja n').length,S va vn vc,I (Ja n')⟩::nR (S F ln E) x.l::R)) w4):=Hm (B.perm (perm_in6 _ _ _ _ _ _ _));obtain⟨c5,f5⟩:=Y.o.b0 10 e5;have af:Zz0.last=10:=bp.o;rw[af]at ar;have b6:=M.o.1;clear f B e5 pm ei y af
   go_upto_region 21 with fail
   refine ins_code (cells:=d) (n:=z) rfl rfl rfl rfl M.o.1 M.o.2 (mS ..) HE.o.1 HE.o.2.1 a1.o ?_
   intro g1 v' w5 A
   have a0:=Hm A;have H:box 51 20 p d∈(⟨81,2,z+1,S (some ⟨gE,0,none⟩) (z+1) cE,c1.set (z*2+1) v'⟩::⟨70,5,N qi+1,v',ci++xC x (S F ln E)⟩::box 70 5 g (xC x (S F ln E))::(rB p d::⟨2,1,(Ja n').length,S va vn vc,I (Ja n')⟩::nR (S F ln E) x.l::R)):=by simp
   have cj:=(A.bx H 17 aa.o).1;obtain⟨b5,C⟩:∃u,d[15]?=some u:=⟨_,Kv (by have:=Y.o.mo.len;omega)⟩;obtain⟨bj,cg⟩:=A.bx H 15 C;clear A H C c5 f5 ar
   go_simp
   go_wp2
   go_end0
   refine⟨rfl,.inl ⟨_,(a5.o _).2 ⟨ab.o.1,x,n',HX.o.1,ab.o.2,a4.o.1,rfl⟩,?_⟩⟩
   obtain⟨L',ae,ay⟩:=HE.o.2.2 x (S F ln E) v'
   exact ms_fin a0.o ay ae aw.o a3.o aa.o av.o ag.o
  |data t =>
   obtain⟨z,f⟩:∃n,n=N Zz0.m.gj:=⟨_,rfl⟩;have M:Hid (z<=1048576/\N qi<=1048576):=Hm ⟨by rw[f];exact au.o.2.2.2.1,au.o.2.2.2.2.1⟩;have ad:=open_data bo.o;rw[<- f]at ad;obtain⟨v,vi,c1,ci,R,e5,pm,ei,y⟩:=ad;have B:=(Y.o.perm ((Lm [_,_,_,_] pm)));obtain⟨gE,cE,rfl⟩:=own_some (show w4.ownsRow D 83 2 v (z+1) c1 from B.mo.own.all (⟨83,2,z+1,v,c1⟩:Qb) (by simp));obtain⟨vj,vd,rfl⟩:=Qg (show w4.ownsRow D 70 5 vi (N qi) ci from B.mo.own.all (⟨70,5,N qi,vi,ci⟩:Qb) (by simp));have HE:=Hm (And.intro e5 (And.intro ei y));have a1:Hid (Mq D w0 zs (⟨83,2,z+1,S (some ⟨gE,0,none⟩) (z+1) cE,c1⟩::⟨70,5,N qi,S vj (N qi) vd,ci⟩::box 70 5 g (xC x (S F ln E))::(rB p d::⟨2,1,(Ja n').length,S va vn vc,I (Ja n')⟩::nR (S F ln E) x.l::R)) w4):=Hm (B.perm (perm_in6 _ _ _ _ _ _ _));obtain⟨c5,f5⟩:=Y.o.b0 11 e5;have af:Zz0.last=11:=bp.o;rw[af]at ar;have b6:=M.o.1;clear f B e5 pm ei y af
   go_upto_region 24 with fail
   refine ins_data (cells:=d) (n:=z) rfl rfl rfl rfl M.o.1 M.o.2 (mS ..) HE.o.1 HE.o.2.1 a1.o ?_
   intro g1 v' w5 A
   have a0:=Hm A;have H:box 51 20 p d∈(⟨83,2,z+1,S (some ⟨gE,0,none⟩) (z+1) cE,c1.set (z*2) v'⟩::⟨70,5,N qi+1,v',ci++xC x (S F ln E)⟩::box 70 5 g (xC x (S F ln E))::(rB p d::⟨2,1,(Ja n').length,S va vn vc,I (Ja n')⟩::nR (S F ln E) x.l::R)):=by simp
   have cj:=(A.bx H 17 aa.o).1;obtain⟨b5,C⟩:∃u,d[15]?=some u:=⟨_,Kv (by have:=Y.o.mo.len;omega)⟩;obtain⟨bj,cg⟩:=A.bx H 15 C;clear A H C c5 f5 ar
   go_simp
   go_wp2
   go_end0
   refine⟨rfl,.inl ⟨_,(a5.o _).2 ⟨ab.o.1,x,n',HX.o.1,ab.o.2,a4.o.1,rfl⟩,?_⟩⟩
   obtain⟨L',ae,ay⟩:=HE.o.2.2 x (S F ln E) v'
   exact ms_fin a0.o ay ae aw.o a3.o aa.o av.o ag.o
def lnM:Wd->Wd->List Wd × Bool
 |cur,[]=>if cur=[]then([],true)else ([cur],false)
 |cur,c::r=>if c=10 then(cur::(lnM [] r).1,(lnM [] r).2)else lnM (cur++[c]) r
theorem ended_snoc (x:Wd):JY (x++[10])=true:=by simp[Lib.hasSuffix,Bz]
theorem ended_no {x:Wd}(h:10∉x):JY x=false:=by
 cases he:JY x with
 |false=>rfl
 |true =>
  exfalso
  simp only[Lib.hasSuffix,Bz]at he
  obtain⟨y,rfl⟩:=he
  exact h (by simp)
theorem cut_snoc (x:Wd):Xr (x++[10])=x:=by
 have:=ended_snoc x;simp only[Lib.trimSuffix];rw[if_pos this];simp
theorem cut_no {x:Wd}(h:10∉x):Xr x=x:=by
 simp only[Lib.trimSuffix];rw[if_neg (by have:=ended_no h;simpa using this)]
theorem lnM_lns:∀(r cur:Wd),10∉cur->lnM cur r=((lns (cur++r)).map Xr,(lns (cur++r)).all JY)
 |[],cur,h=>by
  unfold lnM;rw[Tb]
  by_cases hc:cur=[]
  . rw[if_pos hc,hc,lns_nil];rfl
  . rw[if_neg hc]
    have j:Lib.indexByte cur 10=-1:=by
     rcases Jc cur 10 with e|⟨o,e,g,ha⟩
     . exact e
     . exact(h (Tj ha)).elim
    rw[lns_no hc j]
    simp only[Mm,List.map_nil,Bm,List.all_nil,cut_no h,ended_no h,Bool.and_true]
 |c::r,cur,h=>by
  unfold lnM
  by_cases hc:c=10
  . rw[if_pos hc];subst hc;have f:cur++10::r≠[]:=by simp
    have a:(cur++10::r)[N cur]?=some 10:=by simp
    rcases Jc (cur++10::r) 10 with e|⟨o,e,g,ha⟩
    . exact(Lib.indexByte_none e _ a).elim
    . have k:=(Lib.indexByte_some e).2
      have d:o=N cur:=by
       rcases Nat.lt_trichotomy o (N cur)with b|b|b
       . rw[Hb b]at ha
         exact(h (Tj ha)).elim
       . exact b
       . exact(k _ b a).elim
      subst d;rw[lns_nl f e]
      have m:(cur++10::r).take (N cur+1)=cur++[10]:=by
       rw[List.take_append,List.take_of_length_le (by omega)];simp
      have l:(cur++10::r).drop (N cur+1)=r:=by
       rw[List.drop_append,Mf (by omega)];simp
      rw[m,l,lnM_lns r [] (by simp)]
      simp only[Hj,Mm,Bm,cut_snoc,ended_snoc,Bool.true_and]
  . rw[if_neg hc,lnM_lns r (cur++[c]) (by simp;exact⟨h,λe=>hc e.symm⟩)]
    simp
theorem lns_mid:∀(n:Nat) (t:Wd),N t<=n->∀(pre:List Wd) (x y:Wd) (r:List Wd),lns t=pre++x::y::r->JY x=true
 |n,t,hn,pre,x,y,r,h=>by
  by_cases ht:t=[]
  . rw[ht,lns_nil]at h;exact(by simp at h)
  rcases Jc t 10 with e|⟨o,e,c,ha⟩
  . rw[lns_no ht e]at h
    have:=congrArg List.length h
    simp at this
    omega
  . rw[lns_nl ht e]at h
    cases pre with
    |nil =>
     simp only[Hj,List.cons.injEq]at h
     obtain⟨b,-⟩:=h;rw[<- b,Iw,ha]
     exact ended_snoc _
    |cons a pre =>
     simp only[List.cons_append,List.cons.injEq]at h
     cases n with
     |zero=>exact(ht (Lk (by omega))).elim
     |succ n=>exact lns_mid n (t.drop (o+1)) (by rw[List.length_drop];omega) pre x y r h.2
theorem lnM_step {cur:Wd}{a:List Wd}(b:k<N t)(h:lnM [] t=(a++(lnM cur (t.drop k)).1,(lnM cur (t.drop k)).2)):(t.getD k 0=10->lnM [] t=((a++[cur])++(lnM [] (t.drop (k+1))).1,(lnM [] (t.drop (k+1))).2))/\(t.getD k 0≠10->lnM [] t=(a++(lnM (cur++[t.getD k 0]) (t.drop (k+1))).1,(lnM (cur++[t.getD k 0]) (t.drop (k+1))).2)):=by
 have e:t.drop k=t.getD k 0::t.drop (k+1):=by rw[Tx b];simp[Ty,Kv b]
 rw[e]at h;constructor
 . intro hc;rw[h,hc];conv=>lhs;unfold lnM
   rw[if_pos rfl];simp
 intro hc;rw[h];conv=>lhs;unfold lnM
 rw[if_neg hc]
theorem lnM_end {cur:Wd}{a:List Wd}(b:k=N t)(h:lnM [] t=(a++(lnM cur (t.drop k)).1,(lnM cur (t.drop k)).2)):(cur=[]->lnM [] t=(a,true))/\(cur≠[]->lnM [] t=(a++[cur],false)):=by
 rw[Mf (by omega)]at h;unfold lnM at h;constructor
 . intro hc;rw[if_pos hc]at h;unfold lnM;simpa using h
 intro hc;rw[if_neg hc]at h;unfold lnM;simpa using h
theorem mline_c (D w0 p)(Zz0:St)(l:Wd)(V)(h:MS D w0 p Zz0 V)(c:StI Zz0)(b:Zz0.sz<=1048576)(hl:N l<=1000000):Ec Q 13 #[ptr p 0,Xs (Sz0 l)] V (LnM Zz0 l D w0 p):=by
 cases hw:QV l with
 |none=>exact mline_no D w0 p Zz0 l V h hl hw
 |some ws =>
  have a:=(XS (N l) l ws lRz hw).1
  cases ws with
  |nil=>exact(a rfl).elim
  |cons s r =>
   cases ho:Zz0.op with
   |some q=>exact mline_op D w0 p Zz0 l V s r q h c b hl hw ho
   |none =>
    have d:Msm Zz0.m:=by
     unfold St.sz at b;unfold Msm
     omega
    exact mline_cl D w0 p Zz0 l V s r h c d hl hw ho
theorem Mo.fresh0 {D w0 V rs}(h:Mo D w0 rs V)(T:Nat):Mo D w0 (⟨T,1,0,S (some ⟨V.heap.size,0,none⟩) 0 0,[]⟩::rs) (V.alloc (Fc #[] T)):=by
 have a:Bw V.heap.size V (V.alloc (Fc #[] T)):=bFz.alloc lRz _;refine h.new (ns:=[_]) a (Own.one ?_);exact⟨by simp,.inr ⟨V.heap.size,0,#[],rfl,lRz,Array.getElem?_push_size,lRz,Hw _,rfl,rfl⟩⟩
def SlP (t:Wd)(w:J)(e:Ending)(w':J):Prop:=∃v,e=Z (.tuple #[v,G (lnM [] t).2])/\Bw w.heap.size w w'/\w'.ownsRow w.heap.size 9 1 v (lnM [] t).1.length (Sv (lnM [] t).1)
theorem mlines_c (w:J)(B:Nat)(a:Option Ad)(c:Nat)(t:Wd)(h:w.ownsRow B 5 1 (S a (N t) c) (N t) (Uz0 (Iy t)))(hl:N t<=1048576):Ec Q 12 #[S a (N t) c] w (SlP t w):=by
 have HT:=Hm h;clear h;go_enter func12,ntmps12;go_wp2;go_loopw [4,5,6] (λvo vc vi wr=>∃(k:Nat) (j:List Wd) (d:Wd),vi=U O (k:Int)/\k<=N t/\N j<=k/\N d<=k/\lnM [] t=(j++(lnM d (t.drop k)).1,(lnM d (t.drop k)).2)/\Mo w.heap.size w [⟨9,1,N j,vo,Sv j⟩,⟨5,1,N d,vc,Uz0 (Iy d)⟩] wr) (λ_ _ vi _=>N t+1-(intOf vi).toNat)
 case atStart=>refine⟨0,[],[],rfl,Hw _,lRz,lRz,by simp,?_⟩;have C:=((⟨Own.nil _ _,bFz,lRz⟩:Mo w.heap.size w [] w).fresh0 9).fresh0 5;rw[show(w.alloc (Fc #[] 9)).heap.size=w.heap.size+1 by simp]at C;exact C.perm (Kq _ _ _)
 obtain⟨k,j,d,rfl,hk,ao,ar,X,V⟩:=hrel;have E:wr.ownsRow w.heap.size 9 1 _ (N j) (Sv j):=V.own.head;have F:wr.ownsRow w.heap.size 5 1 _ (N d) (Uz0 (Iy d)):=V.own.tail.head;have Y:=XF F;have au:=V.le;have I:=Hm V;have HN:=Hm X;obtain⟨va,oc,rfl⟩:=QO E;obtain⟨vb,cc,rfl⟩:=QO F;clear V X;by_cases H:k<N t
 . have ad:(k:Int)<(N t:Int):=by omega
   obtain⟨ga,rfl,q⟩:∃ga,a=some ⟨ga,0,none⟩/\wr.cell? ⟨ga,k,none⟩=some (U .u8 ((t.getD k 0).toNat:Int)):=by
    have h0:=HT.o;rcases h0.2 with ⟨C,h2⟩|⟨g,ax,ak,hv,-⟩
    . exfalso;first|omega|(have:=h0.1;rw[h2]at this;simp at this;omega)
    cases hv;refine⟨g,rfl,?_⟩;have h3:=World.ownsRow.cellAt h0 k (by omega);have h4:g<w.heap.size:=(World.ownsRow.lt h0 g rfl).2;refine(I.o.b.cell (p:=⟨g,k,none⟩) h4).trans (h3.trans ?_);simp[Ty,Kv H]
   (have w1:IntKind.i64.wrap ((k:Int)+1)=(k:Int)+1:=by rw[IntKind.wrap_i64];omega);by_cases hc:t.getD k 0=10
   . have A:=Hm ((lnM_step H HN.o).1 hc);rw[hc]at q;replace q:wr.cell? ⟨ga,k,none⟩=some (U .u8 10):=q;clear hc;(go_wp2_with (at_builtin;refine wal info9 (E.alloc _) [Xs (Sz0 d)] (cell_one_new _ _ _) (oneS _) ?_;intro R w2 f l u n;have s:=Hm (I.o.push (r':=⟨9,1,N j+1,R,Sv j++[Pw (Sz0 d)]⟩) (bFz.alloc lRz _) l f n);obtain⟨M,L,rfl⟩:=QO f;clear f l u n));refine⟨⟨k+1,j++[d],[],(by first|rfl|(congr 1;omega)),by omega,by simp;omega,Hw _,A.o,?_⟩,by simp[intOf];omega⟩;have C:=s.o.perm (Kq _ _ _) |>.tail;have h2:=(C.fresh0 5).perm (Kq _ _ _);rw[show(j++[d]).length=N j+1 by simp,Sv_app];exact h2
   have A:=Hm ((lnM_step H HN.o).2 hc);have ac:¬((t.getD k 0).toNat:Int)=10:=λe=>hc (UInt8.toNat_inj.1 (by have:(10:UInt8).toNat=10:=rfl;omega));obtain⟨yn,D⟩:∃y,y=(t.getD k 0).toNat:=⟨_,rfl⟩;rw[<- D]at q ac;have HY:=Hm D;clear hc Y D;(go_wp2_with (at_builtin;refine wal info5 (F.alloc _) [U .u8 (yn:Int)] (cell_one_new _ _ _) (oneB _) ?_;intro R w2 f l u n;have s:=Hm ((I.o.perm (Kq _ _ _)).push (r':=⟨5,1,N d+1,R,Uz0 (Iy d)++[Value.int .u8 (yn:Int)]⟩) (bFz.alloc lRz _) l f n);obtain⟨M,L,rfl⟩:=QO f;clear f l u n));refine⟨⟨k+1,j,d++[t.getD k 0],(by first|rfl|(congr 1;omega)),by omega,by omega,by simp;omega,A.o,?_⟩,by simp[intOf];omega⟩;have C:=s.o.perm (Kq _ _ _);rw[show(d++[t.getD k 0]).length=N d+1 by simp,Iy_app,U_app];rw[HY.o]at C;exact C
 have ek:k=N t:=by omega
 have ad:¬(k:Int)<(N t:Int):=by omega
 have v:=lnM_end ek HN.o;clear ek;by_cases r:d=[]
 . have A:=Hm (v.1 r);(have ae:¬(0:Int)<(N d:Int):=by rw[r];simp);clear Y v r;go_wp2;(go_ret2);refine⟨_,by rw[A.o];rfl,I.o.b,?_⟩;rw[A.o];exact I.o.own.head
 have aq:0<N d:=List.length_pos_iff.2 r;have ae:(0:Int)<(N d:Int):=by omega
 have A:=Hm (v.2 r);clear r v;go_wp2_with (at_builtin;refine wal info9 (E.alloc _) [Xs (Sz0 d)] (cell_one_new _ _ _) (oneS _) ?_;intro R w2 f l u n;have s:=Hm (I.o.push (r':=⟨9,1,N j+1,R,Sv j++[Pw (Sz0 d)]⟩) (bFz.alloc lRz _) l f n);obtain⟨M,L,rfl⟩:=QO f;clear f l u n)
 go_ret2
 refine⟨_,by rw[A.o];rfl,s.o.b,?_⟩;rw[A.o,show(j++[d]).length=N j+1 by simp,Sv_app];exact s.o.own.head
noncomputable def ptF (t:Wd):Int × Mod:=if 300000<N t then(-1,Mod.z)else match textF St0 (lns t) 0 with
 |(k,some Zz0)=>(k,Zz0.m)
 |(k,none)=>(k,Mod.z)
def zc:List Vu:=[S none 0 0,S none 0 0,S none 0 0,S none 0 0,S none 0 0,S none 0 0,S none 0 0,G false,U O 0,S none 0 0,S none 0 0,S none 0 0,S none 0 0]
theorem mr_zero:MR Mod.z zc (rs0.map λr=>[r]):=by
 refine⟨(show 13<=13 by decide),rfl,rfl,rfl,?_,?_,?_,?_,?_,?_,?_,?_,?_,?_,?_⟩<;>exact⟨_,[],[],rfl,rfl,LR.nil _⟩
theorem own_zero (B:Nat)(W:J):Own B W ((rs0.map λr=>[r]).flatten):=by
 refine⟨λr hr=>?_,by show([]:List Nat).Nodup;simp⟩;have:r.v=S none 0 0/\r.n=0/\r.cs=[]:=by unfold rs0 at hr;simp at hr;rcases hr with rfl|rfl|rfl|rfl|rfl|rfl|rfl|rfl|rfl|rfl|rfl<;>exact⟨rfl,rfl,rfl⟩
 refine⟨?_,.inl ⟨this.1,this.2.1⟩⟩;rw[this.2.1,this.2.2];simp
def PtP (t:Wd)(w:J)(e:Ending)(w':J):Prop:=∃c L,e=Z (Ag (U O (ptF t).1::c).toArray)/\N c=13/\MR (ptF t).2 c L/\Own w.heap.size w' L.flatten/\Bw w.heap.size w w'
theorem MR.cut {m cells L}(h:MR m cells L):MR m (cells.take 13) L:=by
 have ht:∀j,j<13->(cells.take 13)[j]?=cells[j]?:=λj hj=>by rw[Rg,if_pos hj]
 have a:(cells.take 13).length=13:=by rw[Iq];have:=h.cl;omega
 refine⟨by omega,h.ll,by rw[ht _ (by decide)];exact h.hs,by rw[ht _ (by decide)];exact h.st,?_,?_,?_,?_,?_,?_,?_,?_,?_,?_,?_⟩<;>rw[ht _ (by decide)]
 . exact h.types
 . exact h.cj
 . exact h.jv
 . exact h.fk
 . exact h.jj
 . exact h.fq
 . exact h.fj
 . exact h.fw
 . exact h.gq
 . exact h.gj
 exact h.gx
theorem textF_zero (Zz0:St)(ls:List Wd)(n:Nat):((textF Zz0 ls n).2=none/\1<=(textF Zz0 ls n).1)\/∃Z',textF Zz0 ls n=(0,some Z'):=by
 induction ls generalizing Zz0 n with
 |nil =>
  simp only[textF]
  split
  · exact .inr ⟨Zz0,rfl⟩
  . exact .inl ⟨rfl,by dsimp only;omega⟩
 |cons x ls ih =>
  simp only[textF]
  split
  · cases lineF Zz0 (Xr x)with
    |none=>exact .inl ⟨rfl,by dsimp only;omega⟩
    |some Z1=>exact ih Z1 (n+1)
  . exact .inl ⟨rfl,by dsimp only;omega⟩
theorem pt_c (w:J)(B:Nat)(a:Option Ad)(c:Nat)(t:Wd)(h:w.ownsRow B 5 1 (S a (N t) c) (N t) (Uz0 (Iy t)))(hV:Vs w.heap.size w)(hl:N t<=1048576):Ec Q 6 #[S a (N t) c] w (PtP t w):=by
 obtain⟨g,hg⟩:∃g,g=w.heap.size:=⟨_,rfl⟩;obtain⟨W,hW⟩:∃W,W=w.alloc (Fc #[U O 0,S none 0 0,S none 0 0,S none 0 0,S none 0 0,S none 0 0,S none 0 0,S none 0 0,G false,U O 0,S none 0 0,S none 0 0,S none 0 0,S none 0 0] 36):=⟨_,rfl⟩;have hm:Mo g w [box 36 14 g (U O 0::zc)] W:=by have:=(⟨Own.nil _ _,bFz,lRz⟩:Mo w.heap.size w [] w).box (cur:=#[U O 0,S none 0 0,S none 0 0,S none 0 0,S none 0 0,S none 0 0,S none 0 0,S none 0 0,G false,U O 0,S none 0 0,S none 0 0,S none 0 0,S none 0 0]) 36 14 rfl;rw[hW,hg];exact this
 by_cases bd:300000<N t
 . (have d2:(300000:Int)<(N t:Int):=by omega);(have A:ptF t=(-1,Mod.z):=by unfold ptF;rw[if_pos bd]);have HP:=Hm A;have f:=Hm hm;have HG:=Hm hg;clear A hm h hV;go_enter func6,ntmps6;(go_upto_region 1 with fail);rw[<- hW,<- hg];clear hW hg;obtain⟨dh,c4⟩:=f.o.b0 0;obtain⟨dg,c3⟩:=f.o.b0 1;obtain⟨df,c2⟩:=f.o.b0 2;obtain⟨de,c1⟩:=f.o.b0 3;obtain⟨dd,cz⟩:=f.o.b0 4;obtain⟨dc,cy⟩:=f.o.b0 5;obtain⟨db,cx⟩:=f.o.b0 6;obtain⟨da,cw⟩:=f.o.b0 7;obtain⟨c9,ct⟩:=f.o.b0 8;obtain⟨c8,cs⟩:=f.o.b0 9;obtain⟨az,av⟩:=f.o.b0 10;obtain⟨ay,au⟩:=f.o.b0 11;obtain⟨ax,ar⟩:=f.o.b0 12;obtain⟨aw,aq⟩:=f.o.b0 13;have HF:=Hm (((((((((((((((f.o).set 0 (U O (-1))).set 1 (S none 0 0)).set 2 (S none 0 0)).set 3 (S none 0 0)).set 4 (S none 0 0)).set 5 (S none 0 0)).set 6 (S none 0 0)).set 7 (S none 0 0)).set 8 (G false)).set 9 (U O 0)).set 10 (S none 0 0)).set 11 (S none 0 0)).set 12 (S none 0 0)).set 13 (S none 0 0));go_wp2;refine Jp (λW'=>Mo g w (box 36 14 g [U O (-1),S none 0 0,S none 0 0,S none 0 0,S none 0 0,S none 0 0,S none 0 0,S none 0 0,G false,U O 0,S none 0 0,S none 0 0,S none 0 0,S none 0 0]::[]) W') HF.o ?_;intro W' l;have u0:=(l.b0 0).1;have u1:=(l.b0 1).1;have u2:=(l.b0 2).1;have u3:=(l.b0 3).1;have u4:=(l.b0 4).1;have u5:=(l.b0 5).1;have u6:=(l.b0 6).1;have u7:=(l.b0 7).1;have u8:=(l.b0 8).1;have u9:=(l.b0 9).1;have ab:=(l.b0 10).1;have aa:=(l.b0 11).1;have Y:=(l.b0 12).1;have X:=(l.b0 13).1;refine bodyPost_ret (v:=Ag #[U O (-1),S none 0 0,S none 0 0,S none 0 0,S none 0 0,S none 0 0,S none 0 0,S none 0 0,G false,U O 0,S none 0 0,S none 0 0,S none 0 0,S none 0 0]) (by simp[results,results6,go_sem,u0,u1,u2,u3,u4,u5,u6,u7,u8,u9,ab,aa,Y,X]) rfl ?_;refine⟨zc,rs0.map λr=>[r],by rw[HP.o];rfl,rfl,by rw[HP.o];exact mr_zero,own_zero _ _,?_⟩;have:=l.b;rw[HG.o]at this;exact this
 have d3:N t<=300000:=by omega
 have d2:¬(300000:Int)<(N t:Int):=by omega
 have bf:Bw w.heap.size w W:=by rw[hW];exact bFz.alloc lRz _
 have co:W.heap.size=g+1:=by rw[hW,hg];simp
 have cp:Vs W.heap.size W:=(hV.keep bf).up (by omega);have K1:=Hm (new_c W cp);have HO:Hid (Own B W [⟨5,1,N t,S a (N t) c,Uz0 (Iy t)⟩]):=(Own.one (r:=⟨5,1,N t,S a (N t) c,Uz0 (Iy t)⟩) h).keep bf;have f:=Hm hm;have HG:=Hm (And.intro hg co);have eg:=Hm d3;have di:Hid (ptF t=match textF St0 (lns t) 0 with|(k,some Zz0)=>(k,Zz0.m)|(k,none)=>(k,Mod.z)):=by show _=_;unfold ptF;rw[if_neg bd]
 clear hm h hV cp bf bd;go_enter func6,ntmps6;go_upto_region 1 with fail
 rw[<- hW,<- hg];clear hW hg co;go_wp2_with fail
 refine K1.o.mono ?_;rintro e w1 ⟨R,mb,rfl,d6,ag,hE,cr⟩;have d4:=XF (HO.o.keep ag).head;have K2:=Hm (text_c w1 R mb (c0 mb) rs0 St0 t hE cr (sr_new w1 R mb) rfl (by decide) eg.o);have V:=Hm (f.o.keep ag);have ah:Hid (g<R/\g<w1.heap.size):=by refine⟨by have:=HG.o.2;omega,?_⟩;have:=HG.o.2;have:=ag.size;omega
 clear K1 d6 ag hE cr HO;go_wp2_with fail
 refine K2.o.mono ?_;rintro e y ⟨rfl,ad,ae⟩;clear K2 d4;have af:Hid (Mo g w [box 36 14 g (U O 0::zc)] y):=by refine⟨V.o.own.grown ad (λk hk hb=>?_),V.o.b.grown ad V.o.le (λk hk=>by cases hk;have:=ah.o.1;omega),Kf V.o.le ad.size⟩;cases hk;rw[show blk [box 36 14 g (U O 0::zc)]=[g]from rfl]at hb;simp at hb;have:=ah.o.1;omega
 rcases textF_zero St0 (lns t) 0 with ⟨hn,h1⟩|⟨d,hz⟩
 . obtain⟨k,o⟩:∃k,k=(textF St0 (lns t) 0).1:=⟨_,rfl⟩;(have A:ptF t=(k,Mod.z):=by rw[di.o];generalize textF St0 (lns t) 0=q at *;obtain⟨q1,q2⟩:=q;simp only at hn o;subst hn o;rfl);rw[<- o]at h1⊢;have HP:=Hm A;(have fh:(k==0)=false:=by simp;omega);have f:=af;clear ad ae hn o A V h1;obtain⟨dh,c4⟩:=f.o.b0 0;obtain⟨dg,c3⟩:=f.o.b0 1;obtain⟨df,c2⟩:=f.o.b0 2;obtain⟨de,c1⟩:=f.o.b0 3;obtain⟨dd,cz⟩:=f.o.b0 4;obtain⟨dc,cy⟩:=f.o.b0 5;obtain⟨db,cx⟩:=f.o.b0 6;obtain⟨da,cw⟩:=f.o.b0 7;obtain⟨c9,ct⟩:=f.o.b0 8;obtain⟨c8,cs⟩:=f.o.b0 9;obtain⟨az,av⟩:=f.o.b0 10;obtain⟨ay,au⟩:=f.o.b0 11;obtain⟨ax,ar⟩:=f.o.b0 12;obtain⟨aw,aq⟩:=f.o.b0 13;have HF:=Hm (((((((((((((((f.o).set 0 (U O k)).set 1 (S none 0 0)).set 2 (S none 0 0)).set 3 (S none 0 0)).set 4 (S none 0 0)).set 5 (S none 0 0)).set 6 (S none 0 0)).set 7 (S none 0 0)).set 8 (G false)).set 9 (U O 0)).set 10 (S none 0 0)).set 11 (S none 0 0)).set 12 (S none 0 0)).set 13 (S none 0 0));go_wp2;refine Jp (λW'=>Mo g w (box 36 14 g [U O k,S none 0 0,S none 0 0,S none 0 0,S none 0 0,S none 0 0,S none 0 0,S none 0 0,G false,U O 0,S none 0 0,S none 0 0,S none 0 0,S none 0 0]::[]) W') HF.o ?_;intro W' l;have u0:=(l.b0 0).1;have u1:=(l.b0 1).1;have u2:=(l.b0 2).1;have u3:=(l.b0 3).1;have u4:=(l.b0 4).1;have u5:=(l.b0 5).1;have u6:=(l.b0 6).1;have u7:=(l.b0 7).1;have u8:=(l.b0 8).1;have u9:=(l.b0 9).1;have ab:=(l.b0 10).1;have aa:=(l.b0 11).1;have Y:=(l.b0 12).1;have X:=(l.b0 13).1;refine bodyPost_ret (v:=Ag #[U O k,S none 0 0,S none 0 0,S none 0 0,S none 0 0,S none 0 0,S none 0 0,S none 0 0,G false,U O 0,S none 0 0,S none 0 0,S none 0 0,S none 0 0]) (by simp[results,results6,go_sem,u0,u1,u2,u3,u4,u5,u6,u7,u8,u9,ab,aa,Y,X]) rfl ?_;refine⟨zc,rs0.map λr=>[r],by rw[HP.o];rfl,rfl,by rw[HP.o];exact mr_zero,own_zero _ _,?_⟩;have:=l.b;rw[HG.o.1]at this;exact this
 rw[hz];have A:ptF t=(0,d.m):=by rw[di.o,hz]
 have HP:=Hm A;obtain⟨W1,cells,rs,C,cn,hS⟩:=ae d (by rw[hz]);obtain⟨L,P,p,hp,-⟩:=hS.rep;have n:∀r∈L.flatten,r.Ok R y:=λr hr=>C.all r (mC (hp.mem_iff.2 (mL hr)));have s:∀j u,j<18->cells[j]?=some u->y.cell? ⟨R,j,none⟩=some u:=λj u hj hu=>((⟨C,bFz,Kf (Lv (C.lt (k:=R) (by show R∈R::blk rs;simp)).2) lRz⟩:Mo R y (box 62 18 R cells::rs) y).b0 j hu hj).1;obtain⟨v0,ee,fg,q0,-,cm⟩:=p.types.at_;obtain⟨a0,k0,rfl⟩:=Qg (show y.ownsRow R 137 2 v0 (N d.m.types) ee from n _ (cm.mem_iff.2 (mS ..)));clear cm;have e0:=s 0 _ (by decide) q0;obtain⟨v1,ed,ff,q1,-,cl⟩:=p.cj.at_;obtain⟨a1,k1,rfl⟩:=Qg (show y.ownsRow R 143 9 v1 (N d.m.cj) ed from n _ (cl.mem_iff.2 (mS ..)));clear cl;have e1:=s 1 _ (by decide) q1;obtain⟨v2,ec,fe,q2,-,ck⟩:=p.jv.at_;obtain⟨a2,k2,rfl⟩:=Qg (show y.ownsRow R 2 1 v2 (N d.m.jv) ec from n _ (ck.mem_iff.2 (mS ..)));clear ck;have e2:=s 2 _ (by decide) q2;obtain⟨v3,eb,fd,q3,-,ci⟩:=p.fk.at_;obtain⟨a3,k3,rfl⟩:=Qg (show y.ownsRow R 120 3 v3 (N d.m.fk) eb from n _ (ci.mem_iff.2 (mS ..)));clear ci;have e3:=s 3 _ (by decide) q3;obtain⟨v4,ea,fc,q4,-,ch⟩:=p.jj.at_;obtain⟨a4,k4,rfl⟩:=Qg (show y.ownsRow R 120 3 v4 (N d.m.jj) ea from n _ (ch.mem_iff.2 (mS ..)));clear ch;have e4:=s 4 _ (by decide) q4;obtain⟨v5,d9,fb,q5,-,cg⟩:=p.fq.at_;obtain⟨a5,k5,rfl⟩:=Qg (show y.ownsRow R 76 3 v5 (N d.m.fq) d9 from n _ (cg.mem_iff.2 (mS ..)));clear cg;have e5:=s 5 _ (by decide) q5
 obtain⟨v6,d8,fa,q6,-,cf⟩:=p.fj.at_;obtain⟨a6,k6,rfl⟩:=Qg (show y.ownsRow R 157 3 v6 (N d.m.fj) d8 from n _ (cf.mem_iff.2 (mS ..)));clear cf;have e6:=s 6 _ (by decide) q6;obtain⟨v9,d7,ez,q9,-,ce⟩:=p.fw.at_;obtain⟨a9,k9,rfl⟩:=Qg (show y.ownsRow R 78 2 v9 (N d.m.fw) d7 from n _ (ce.mem_iff.2 (mS ..)));clear ce;have e9:=s 9 _ (by decide) q9;obtain⟨dt,c7,ej,bc,-,ak⟩:=p.gq.at_;obtain⟨M,F,rfl⟩:=Qg (show y.ownsRow R 81 2 dt (N d.m.gq) c7 from n _ (ak.mem_iff.2 (mS ..)));clear ak;have fr:=s 10 _ (by decide) bc;obtain⟨ds,c6,ei,bb,-,aj⟩:=p.gj.at_;obtain⟨I,E,rfl⟩:=Qg (show y.ownsRow R 83 2 ds (N d.m.gj) c6 from n _ (aj.mem_iff.2 (mS ..)));clear aj;have fp:=s 11 _ (by decide) bb;obtain⟨dr,c5,eh,ba,-,ai⟩:=p.gx.at_;obtain⟨H,D,rfl⟩:=Qg (show y.ownsRow R 131 3 dr (N d.m.gx) c5 from n _ (ai.mem_iff.2 (mS ..)));clear ai;have fo:=s 12 _ (by decide) ba;have e7:=s 7 _ (by decide) p.hs;have e8:=s 8 _ (by decide) p.st;have ac:Own g y (box 36 14 g (U O 0::zc)::L.flatten):=by
  have h1:Own R y (L.flatten++P):=C.tail.perm hp;have h2:=(h1.left).mono (B':=g) (by have:=ah.o.1;omega);refine Own.app (a:=[box 36 14 g (U O 0::zc)]) af.o.own h2 (λk hk hk2=>?_);rw[show blk [box 36 14 g (U O 0::zc)]=[g]from rfl]at hk;simp at hk;subst hk;have h3:k∈blk rs:=(hp.filterMap _).mem_iff.2 (by
   have:k∈blk (L.flatten++P):=by rw[JD];exact mL hk2
   exact this)
  have:=cn k h3;have:=ah.o.2;omega
 have f:Hid (Mo g w (box 36 14 g (U O 0::zc)::L.flatten) y):=⟨ac,af.o.b,af.o.le⟩;have ef:Hid (MR d.m [S a0 (N d.m.types) k0,S a1 (N d.m.cj) k1,S a2 (N d.m.jv) k2,S a3 (N d.m.fk) k3,S a4 (N d.m.jj) k4,S a5 (N d.m.fq) k5,S a6 (N d.m.fj) k6,G d.m.gk,U O d.m.start,S a9 (N d.m.fw) k9,S M (N d.m.gq) F,S I (N d.m.gj) E,S H (N d.m.gx) D] L):=by
  have h1:=MR.cut p
  have:cells.take 13=[S a0 (N d.m.types) k0,S a1 (N d.m.cj) k1,S a2 (N d.m.jv) k2,S a3 (N d.m.fk) k3,S a4 (N d.m.jj) k4,S a5 (N d.m.fq) k5,S a6 (N d.m.fj) k6,G d.m.gk,U O d.m.start,S a9 (N d.m.fw) k9,S M (N d.m.gq) F,S I (N d.m.gj) E,S H (N d.m.gx) D]:=by
   apply List.ext_getElem?;intro j;rw[Rg];match j with
   |0=>simpa using q0
   |1=>simpa using q1
   |2=>simpa using q2
   |3=>simpa using q3
   |4=>simpa using q4
   |5=>simpa using q5
   |6=>simpa using q6
   |7=>simpa using p.hs
   |8=>simpa using p.st
   |9=>simpa using q9
   |10=>simpa using bc
   |11=>simpa using bb
   |12=>simpa using ba
   |j+13=>rw[if_neg (by omega),Hh (by simp)]
  rw[this]at h1;exact h1
 clear ad ae hz A C cn hS p hp n s ac V af q0 q1 q2 q3 q4 q5 q6 q9 bc bb ba;obtain⟨dh,c4⟩:=f.o.b0 0;obtain⟨dg,c3⟩:=f.o.b0 1;obtain⟨df,c2⟩:=f.o.b0 2;obtain⟨de,c1⟩:=f.o.b0 3;obtain⟨dd,cz⟩:=f.o.b0 4;obtain⟨dc,cy⟩:=f.o.b0 5;obtain⟨db,cx⟩:=f.o.b0 6;obtain⟨da,cw⟩:=f.o.b0 7;obtain⟨c9,ct⟩:=f.o.b0 8;obtain⟨c8,cs⟩:=f.o.b0 9;obtain⟨az,av⟩:=f.o.b0 10;obtain⟨ay,au⟩:=f.o.b0 11;obtain⟨ax,ar⟩:=f.o.b0 12;obtain⟨aw,aq⟩:=f.o.b0 13;have HF:=Hm (((((((((((((((f.o).set 0 (U O 0)).set 1 (S a0 (N d.m.types) k0)).set 2 (S a1 (N d.m.cj) k1)).set 3 (S a2 (N d.m.jv) k2)).set 4 (S a3 (N d.m.fk) k3)).set 5 (S a4 (N d.m.jj) k4)).set 6 (S a5 (N d.m.fq) k5)).set 7 (S a6 (N d.m.fj) k6)).set 8 (G d.m.gk)).set 9 (U O d.m.start)).set 10 (S a9 (N d.m.fw) k9)).set 11 (S M (N d.m.gq) F)).set 12 (S I (N d.m.gj) E)).set 13 (S H (N d.m.gx) D));go_wp2;refine Jp (λW'=>Mo g w (box 36 14 g [U O 0,S a0 (N d.m.types) k0,S a1 (N d.m.cj) k1,S a2 (N d.m.jv) k2,S a3 (N d.m.fk) k3,S a4 (N d.m.jj) k4,S a5 (N d.m.fq) k5,S a6 (N d.m.fj) k6,G d.m.gk,U O d.m.start,S a9 (N d.m.fw) k9,S M (N d.m.gq) F,S I (N d.m.gj) E,S H (N d.m.gx) D]::L.flatten) W') HF.o ?_;intro W' l;have u0:=(l.b0 0).1;have u1:=(l.b0 1).1;have u2:=(l.b0 2).1;have u3:=(l.b0 3).1;have u4:=(l.b0 4).1;have u5:=(l.b0 5).1;have u6:=(l.b0 6).1;have u7:=(l.b0 7).1;have u8:=(l.b0 8).1;have u9:=(l.b0 9).1;have ab:=(l.b0 10).1;have aa:=(l.b0 11).1;have Y:=(l.b0 12).1;have X:=(l.b0 13).1;refine bodyPost_ret (v:=Ag #[U O 0,S a0 (N d.m.types) k0,S a1 (N d.m.cj) k1,S a2 (N d.m.jv) k2,S a3 (N d.m.fk) k3,S a4 (N d.m.jj) k4,S a5 (N d.m.fq) k5,S a6 (N d.m.fj) k6,G d.m.gk,U O d.m.start,S a9 (N d.m.fw) k9,S M (N d.m.gq) F,S I (N d.m.gj) E,S H (N d.m.gx) D]) (by simp[results,results6,go_sem,u0,u1,u2,u3,u4,u5,u6,u7,u8,u9,ab,aa,Y,X]) rfl ?_
 refine⟨[S a0 (N d.m.types) k0,S a1 (N d.m.cj) k1,S a2 (N d.m.jv) k2,S a3 (N d.m.fk) k3,S a4 (N d.m.jj) k4,S a5 (N d.m.fq) k5,S a6 (N d.m.fj) k6,G d.m.gk,U O d.m.start,S a9 (N d.m.fw) k9,S M (N d.m.gq) F,S I (N d.m.gj) E,S H (N d.m.gx) D],L,by rw[HP.o],rfl,by rw[HP.o];exact ef.o,?_,?_⟩
 . have:=l.own.tail;rw[HG.o.1]at this;exact this
 have:=l.b;rw[HG.o.1]at this;exact this
theorem run_step {a:St}(hi:i<(lns t).length)(hr:runF St0 ((lns t).take i)=some Zz0)(b:JY ((lns t).getD i [])=true)(hl:JR Zz0 (Xr ((lns t).getD i [])) a):runF St0 ((lns t).take (i+1))=some a:=by
 have e:(lns t).take (i+1)=(lns t).take i++[(lns t).getD i []]:=by rw[Iw];simp[Ty,Kv hi]
 rw[e,runF_snoc,hr,Pq,if_pos b];exact X5.2 hl
theorem pt_stop (b:N t<=300000)(hi:i<(lns t).length)(hr:runF St0 ((lns t).take i)=some Zz0)(hx:JY ((lns t).getD i [])=false\/¬∃Z',JR Zz0 (Xr ((lns t).getD i [])) Z'):ptF t=((i:Int)+1,Mod.z):=by
 have e:lns t=(lns t).take i++(lns t).getD i []::(lns t).drop (i+1):=by
  conv=>lhs;rw[<- Ld i (lns t)]
  rw[Tx hi];simp[Ty,Kv hi]
 have a:(if JY ((lns t).getD i [])then lineF Zz0 (Xr ((lns t).getD i []))else none)=none:=by
  rcases hx with h|h
  . rw[h];rfl
  split
  · exact lineF_none.2 h
  rfl
 have c:=textF_stop (r:=(lns t).drop (i+1)) hr a 0;rw[<- e,Iq,Nat.min_eq_left (Lv hi),Kk]at c;unfold ptF;rw[if_neg (by omega),c]
theorem pt_end (a:N t<=300000)(hr:runF St0 (lns t)=some Zz0):ptF t=if Xa Zz0 then(0,Zz0.m)else (((lns t).length:Int)+1,Mod.z):=by
 unfold ptF;rw[if_neg (by omega),textF_run hr 0,Kk];cases Xa Zz0<;>rfl
theorem ended_at (hi:i+1<(lns t).length):JY ((lns t).getD i [])=true:=by
 have e:lns t=(lns t).take i++(lns t).getD i []::(lns t).getD (i+1) []::(lns t).drop (i+2):=by
  conv=>lhs;rw[<- Ld i (lns t)]
  rw[Tx (by omega),Tx hi];simp[Ty,Kv hi,Kv (show i<(lns t).length by omega)]
 exact lns_mid (N t) t lRz _ _ _ _ e
theorem ended_all (h:(lnM [] t).2=true)(hi:i<(lns t).length):JY ((lns t).getD i [])=true:=by
 rw[lnM_lns t [] (by simp)]at h;simp only[Hj,Px]at h;have:=h _ (List.getElem_mem hi);simpa[Ty,Kv hi]using this
theorem ended_not (h:(lnM [] t).2=false)(hi:i+1=(lns t).length):JY ((lns t).getD i [])=false:=by
 cases he:JY ((lns t).getD i [])with
 |false=>rfl
 |true =>
  exfalso
  rw[lnM_lns t [] (by simp)]at h
  simp only[Hj]at h
  have:(lns t).all JY=true:=by
   rw[Px]
   intro x hx
   obtain⟨j,a,rfl⟩:=List.getElem_of_mem hx
   by_cases e:j=i
   . subst e;simpa[Ty,Kv a]using he
   . have:=ended_at (t:=t) (i:=j) (by omega)
     simpa[Ty,Kv a]using this
  rw[this]at h;cases h
theorem lnM_fst (t:Wd):(lnM [] t).1=(lns t).map Xr:=by rw[lnM_lns t [] (by simp)];rfl
def z20:List Vu:=[S none 0 0,S none 0 0,S none 0 0,S none 0 0,S none 0 0,S none 0 0,S none 0 0,G false,U O 0,S none 0 0,S none 0 0,S none 0 0,S none 0 0,U O 0,U O 0,G false,S none 0 0,G false,G false,G false]
theorem mrz_zero (zs:List (Nat × Obj))(c:List Vu)(h:∀j,j<13->c[j]?=zc[j]?)(hl:13<=N c):MRz zs Mod.z c (rs0.map λr=>[r]):=by
 refine⟨hl,rfl,(h 7 (by decide)).trans rfl,(h 8 (by decide)).trans rfl,?_,?_,?_,?_,?_,?_,?_,?_,?_,?_,?_⟩<;>exact⟨_,[],[],(h _ (by decide)).trans rfl,rfl,LR.nil _⟩
theorem stI_zero:StI St0:=⟨λh=>by simp[St0]at h,λh=>by simp[St0,Mod.z]at h,λp h=>by simp[St0]at h⟩
def F11 (D:Nat)(w0:J)(zs:List (Nat × Obj))(p:Nat)(cells:List Vu)(rs:List Qb)(b:Bool)(x y:Vu)(k:Nat)(us:List Vu)(W:J):Prop:=Rp.Fz (λW=>W.cell? ⟨p,15,none⟩=some (G b)/\W.cell? ⟨p,10,none⟩=some x/\W.cell? ⟨p,2,none⟩=some y) 0 [λus W=>us=[]/\Mq D w0 zs (rB p cells::rs) W] k us W
theorem last_open {zs:List (Nat × Obj)}{l o j n:Nat}{r q:Option Ad}{cells:List Vu}(hN:a0.tmps.size=76)(v:a0.tmps[5]?.getD undef=ptr p 0)(d:cells[15]?=some (G true))(g:cells[10]?=some (S r l o))(y:cells[2]?=some (S q j n))(b:Mq D w0 zs (rB p cells::rs) W0)(u:∀W,Mq D w0 zs (rB p cells::rs) W->Qz0 .normal (((((((((((((((((((a0.put (some 48) (ptr p 0)).put (some 49) (ptr p 0)).put (some 50) (ptr p 15)).put (some 51) (G true)).put (some 52) (G true)).put (some 53) (undef)).put (some 54) (undef)).put (some 55) (undef)).put (some 56) (undef)).put (some 57) (undef)).put (some 58) (undef)).put (some 59) (undef)).put (some 60) (undef)).put (some 61) (undef)).put (some 62) (undef)).put (some 63) (undef)).put (some 64) (undef)).put (some 65) (undef)).put (some 66) (G true)) W):Code.wp Q (regO 11 f4.body) Qz0 a0 W0:=by
 simp only[f4,regO,regC,hasR,Av,Ew,Ev,Ac,Ab,cond_true,cond_false];refine Rp.rg (nN:=76) [ptr p 0,ptr p 0,ptr p 15,G true,G true,undef,undef,undef,undef,undef,undef,undef,undef,undef,undef,undef,undef,undef,G true] [] 0 (F11 D w0 zs p cells rs true (S r l o) (S q j n)) ?_ ?_ ?_ (hN:=hN)
 . exact⟨λ_=>⟨(b.b0 15 d).1,(b.b0 10 g).1,(b.b0 2 y).1⟩,rfl,b.keep bFz.drew⟩
 . refine Rp.os 5 (ptr p 0) ?_ (hx:=v);refine Rp.o1 0 48 ?_;refine Rp.o1 1 49 ?_;refine Rp.l1 2 50 (λk s W hk c=>(c.1 hk).1) ?_;refine Rp.o1 3 51 ?_;refine Rp.gn (Rp.wv 4 52) ?_;refine Rp.gn (Rp.wv 4 52) ?_;refine Rp.gn (Rp.wv 4 52) ?_;refine Rp.gn (Rp.wv 4 52) ?_;refine Rp.gn (Rp.wv 4 52) ?_;refine Rp.gn (Rp.wv 4 52) ?_;refine Rp.gn (Rp.wv 4 52) ?_;refine Rp.gn (Rp.wv 4 52) ?_;refine Rp.gn (Rp.wv 4 52) ?_;refine Rp.gn (Rp.wv 4 52) ?_;refine Rp.gn (Rp.wv 4 52) ?_;refine Rp.gn (Rp.wv 4 52) ?_;refine Rp.gn (Rp.wv 4 52) ?_;refine Rp.o2 4 52 17 65 ?_;exact Rp.Qj.nil
 intro s a W f;have m:=Rp.ca f [48,49,50,51,52,53,54,55,56,57,58,59,60,61,62,63,64,65,66] (hN:=hN);have c:=f.ph;simp only[Km,Tq,Rp.cv f 0 48,Rp.cv f 1 49,Rp.cv f 2 50,Rp.cv f 3 51,Rp.cv f 4 52,Rp.cv f 5 53,Rp.cv f 6 54,Rp.cv f 7 55,Rp.cv f 8 56,Rp.cv f 9 57,Rp.cv f 10 58,Rp.cv f 11 59,Rp.cv f 12 60,Rp.cv f 13 61,Rp.cv f 14 62,Rp.cv f 15 63,Rp.cv f 16 64,Rp.cv f 17 65,Rp.cv f 18 66]at m;clear f;subst m;obtain⟨-,rfl,t⟩:=c;exact u W t
theorem last_shut {zs:List (Nat × Obj)}{d n b m:Nat}{q o:Option Ad}{cells:List Vu}(hN:a0.tmps.size=76)(r:a0.tmps[5]?.getD undef=ptr p 0)(s:cells[15]?=some (G false))(t:cells[10]?=some (S q d n))(A:cells[2]?=some (S o b m))(l:Mq D w0 zs (rB p cells::rs) W0)(z:∀W,Mq D w0 zs (rB p cells::rs) W->Qz0 .normal (((((((((((((((((((a0.put (some 48) (ptr p 0)).put (some 49) (ptr p 0)).put (some 50) (ptr p 15)).put (some 51) (G false)).put (some 52) (G false)).put (some 53) (ptr p 0)).put (some 54) (ptr p 0)).put (some 55) (ptr p 0)).put (some 56) (ptr p 10)).put (some 57) ((S q d n))).put (some 58) (U O (d:Int))).put (some 59) (ptr p 0)).put (some 60) (ptr p 0)).put (some 61) (ptr p 0)).put (some 62) (ptr p 2)).put (some 63) ((S o b m))).put (some 64) (U O (b:Int))).put (some 65) (G ((d:Int) != (b:Int)))).put (some 66) (G ((d:Int) != (b:Int)))) W):Code.wp Q (regO 11 f4.body) Qz0 a0 W0:=by
 simp only[f4,regO,regC,hasR,Av,Ew,Ev,Ac,Ab,cond_true,cond_false];refine Rp.rg (nN:=76) [ptr p 0,ptr p 0,ptr p 15,G false,G false,ptr p 0,ptr p 0,ptr p 0,ptr p 10,(S q d n),U O (d:Int),ptr p 0,ptr p 0,ptr p 0,ptr p 2,(S o b m),U O (b:Int),G ((d:Int) != (b:Int)),G ((d:Int) != (b:Int))] [] 0 (F11 D w0 zs p cells rs false (S q d n) (S o b m)) ?_ ?_ ?_ (hN:=hN)
 . exact⟨λ_=>⟨(l.b0 15 s).1,(l.b0 10 t).1,(l.b0 2 A).1⟩,rfl,l.keep bFz.drew⟩
 . refine Rp.os 5 (ptr p 0) ?_ (hx:=r);refine Rp.o1 0 48 ?_;refine Rp.o1 1 49 ?_;refine Rp.l1 2 50 (λk j W hk g=>(g.1 hk).1) ?_;refine Rp.o1 3 51 ?_;refine Rp.gs (Rp.wv 4 52) 5 (ptr p 0) ?_ (hx:=r);refine Rp.g1 (Rp.wv 4 52) 5 53 ?_;refine Rp.g1 (Rp.wv 4 52) 6 54 ?_;refine Rp.g1 (Rp.wv 4 52) 7 55 ?_;refine Rp.gl (Rp.wv 4 52) 8 56 (λk j W hk g=>(g.1 hk).2.1) ?_;refine Rp.g1 (Rp.wv 4 52) 9 57 ?_;refine Rp.gs (Rp.wv 4 52) 5 (ptr p 0) ?_ (hx:=r);refine Rp.g1 (Rp.wv 4 52) 11 59 ?_;refine Rp.g1 (Rp.wv 4 52) 12 60 ?_;refine Rp.g1 (Rp.wv 4 52) 13 61 ?_;refine Rp.gl (Rp.wv 4 52) 14 62 (λk j W hk g=>(g.1 hk).2.2) ?_;refine Rp.g1 (Rp.wv 4 52) 15 63 ?_;refine Rp.Qj.c (by kernel_rfl) (λa W kk j Kc f hk hb hu g hK=>?_) ?_
   . have C:=Rp.va f 10 58;have B:=Rp.va f 16 64;have u:=Rp.va f 4 52;refine Rp.QA (G ((d:Int) != (b:Int))) (Rp.want_is rfl rfl (Nat.lt_of_lt_of_eq (show 52<76 by decide) f.sz.symm) u rfl) rfl ?_ hK;clear f hK g hu hb;go_simp;try rfl
   refine Rp.o2 4 52 17 65 ?_;exact Rp.Qj.nil
 intro j a W f;have v:=Rp.ca f [48,49,50,51,52,53,54,55,56,57,58,59,60,61,62,63,64,65,66] (hN:=hN);have g:=f.ph;simp only[Km,Tq,Rp.cv f 0 48,Rp.cv f 1 49,Rp.cv f 2 50,Rp.cv f 3 51,Rp.cv f 4 52,Rp.cv f 5 53,Rp.cv f 6 54,Rp.cv f 7 55,Rp.cv f 8 56,Rp.cv f 9 57,Rp.cv f 10 58,Rp.cv f 11 59,Rp.cv f 12 60,Rp.cv f 13 61,Rp.cv f 14 62,Rp.cv f 15 63,Rp.cv f 16 64,Rp.cv f 17 65,Rp.cv f 18 66]at v;clear f;subst v;obtain⟨-,rfl,y⟩:=g;exact z W y
