import Derived.Test.YtedcmcdbejjgcaaGreatGaa
import Derived.Test.YtedcmcdbejjgcaaGreatGay
set_option linter.all false
set_option maxHeartbeats 400000000
set_option maxRecDepth 100000
namespace Go.Proofs.YtedcmcdbejjgcaaGreat
open Go.RowKit Go.Sort
theorem info_bsIm:(Tryz.prog.info? 100).map (λi=>(i.zero,i.size,i.bytes))=some (some (.agg #[.string ByteArray.empty,.string ByteArray.empty,.int .i64 0,.int .i64 0,.int .i64 0,.int .i64 0,.bool false,.int .i64 0,.bool false]),9,88):=by kernel_rfl
theorem info_bsEx:(Tryz.prog.info? 111).map (λi=>(i.zero,i.size,i.bytes))=some (some (.agg #[.string ByteArray.empty,.int .i64 0,.int .i64 0]),3,32):=by kernel_rfl
theorem info_bsGl:(Tryz.prog.info? 107).map (λi=>(i.zero,i.size,i.bytes))=some (some (.agg #[.int .i64 0,.bool false,.slice none 0 0]),3,40):=by kernel_rfl
theorem info_bsFT:(Tryz.prog.info? 92).map (λi=>(i.zero,i.size,i.bytes))=some (some (.agg #[.slice none 0 0,.slice none 0 0]),2,48):=by kernel_rfl
theorem info_bsMe:(Tryz.prog.info? 96).map (λi=>(i.zero,i.size,i.bytes))=some (some (.agg #[.int .i64 0,.int .i64 0,.bool false]),3,24):=by kernel_rfl
theorem info_bsFu:(Tryz.prog.info? 2).map (λi=>(i.zero,i.size,i.bytes))=some (some (.int .i64 0),1,8):=by kernel_rfl
theorem bs_all {α:Type}(F:Nat->Rs α)(m:α->List Value->List Qc->Prop)(kv:List Value->Value)(fn T sz j fE:Nat)(NO:Int)(B w0 q ba bc bs p)(H:List α)(va:Option Addr)(z:Nat)(c0:List Value)(k0 os:List Qc)(w)(h:Sm B w0 q ba bc bs p (⟨T,sz,H.length,.slice va H.length z,c0⟩::(os++k0)) w)(hB:B<=w.heap.size)(af:LR m H c0 k0)(hA:Qm bs)(hl:bs.length<=1099511627776)(hv:bc.rest[j]?=some (.slice va H.length z))(dn:H.length<=p)(hj:j<11)
    (hk:(fn=230/\Hid (T=92)/\Hid (sz=2)/\Hid (kv=agV)/\(∀ x y v B W,m x y v->Own B W v->∃ a b c d e f,y=[.slice a b c,.slice d e f])/\Hid (fE=231))\/(fn=232/\Hid (T=100)/\Hid (sz=9)/\Hid (kv=agV)/\(∀ x y v B W,m x y v->Own B W v->∃ a b c d e f g h i,y=[.string a,.string b,.int .i64 c,.int .i64 d,.int .i64 e,.int .i64 f,.bool g,.int .i64 h,.bool i])/\Hid (fE=233))\/(fn=234/\Hid (T=2)/\Hid (sz=1)/\Hid (kv=oneV')/\(∀ x y v B W,m x y v->Own B W v->∃ a,y=[.int .i64 a])/\Hid (fE=235))\/(fn=236/\Hid (T=96)/\Hid (sz=3)/\Hid (kv=agV)/\(∀ x y v B W,m x y v->Own B W v->∃ a b c,y=[.int .i64 a,.int .i64 b,.bool c])/\Hid (fE=238))\/(fn=236/\Hid (T=96)/\Hid (sz=3)/\Hid (kv=agV)/\(∀ x y v B W,m x y v->Own B W v->∃ a b c,y=[.int .i64 a,.int .i64 b,.bool c])/\Hid (fE=237))\/(fn=239/\Hid (T=107)/\Hid (sz=3)/\Hid (kv=agV)/\(∀ x y v B W,m x y v->Own B W v->∃ a b c d e,y=[.int .i64 a,.bool b,.slice c d e])/\Hid (fE=240))\/(fn=241/\Hid (T=111)/\Hid (sz=3)/\Hid (kv=agV)/\(∀ x y v B W,m x y v->Own B W v->∃ a b c,y=[.string a,.int .i64 b,.int .i64 c])/\Hid (fE=242))) (ck:∀ G x p2,F G=.ok x p2->G<p2) (bq:∀ bk G V,bk.E=bc.E->Rd V q ba bk bs G->Calls Tryz.prog fE #[.pointer (some ⟨q,0,none⟩)] V (ReP (F G) m kv V q ba bk bs)) :
    Calls Tryz.prog fn #[.pointer (some ⟨q,0,none⟩),.int .i64 NO,.pointer (some ⟨q,3+j,none⟩),.func (.func fE) #[.pointer (some ⟨q,0,none⟩)] #[]] w (BsP (Jj F bs p) m H j T sz B w0 q ba bc bs os):=by
 have K:=Hm (JR q ba bc bs p w h.r hA hl);have HA:=Hm hA;have ao:=Hm h;have cw:=Hm af;clear h hA af;have cf:bc.rest.length=15:=ao.o.r.rl;unfold Jj
 rcases hk with ⟨rfl,t0,O,S,R,A⟩|⟨rfl,t1,O,S,R,A⟩|⟨rfl,t2,O,S,R,A⟩|⟨rfl,t3,O,S,R,A⟩|⟨rfl,t4,O,S,R,A⟩|⟨rfl,t5,O,S,R,A⟩|⟨rfl,t6,O,S,R,A⟩
 all_goals
  first|(replace t0:=t0;go_enter Tryz.func230,Tryz.ntmps230)|(replace t1:=t1;go_enter Tryz.func232,Tryz.ntmps232)|(replace t2:=t2;go_enter Tryz.func234,Tryz.ntmps234)|(replace t3:=t3;go_enter Tryz.func236,Tryz.ntmps236)|(replace t4:=t4;go_enter Tryz.func236,Tryz.ntmps236)|(replace t5:=t5;go_enter Tryz.func239,Tryz.ntmps239)|(replace t6:=t6;go_enter Tryz.func241,Tryz.ntmps241)
  go_wp2_with fail
  refine (K.o).mono ?_
  rintro e w1 ⟨hg,hm⟩
  rcases U:Qy false 32 bs p with ⟨er,at_⟩|⟨n,p0⟩
  . rw [U] at hm;subst hm
    refine ⟨rfl,?_⟩
    simp only [U,Rs.bind]
    exact ⟨rfl,ao.o.bl hg⟩
  have HM:=Hm U;have cg:=Jq HA.o U;have dl:=Xo (by omega) U;obtain ⟨N,rfl⟩:=Int.eq_ofNat_of_zero_le cg.1;rw [U] at hm;obtain ⟨rfl,hr⟩:=hm;have H1:=Hm (ao.o.step hg hr hB);have cn:B<=w1.heap.size:=Nat.le_trans hB hg.size;clear hg hr U K ao
  go_wp2_with fail
  go_loopw [10] (λi wr=>∃ (k:Nat) (l:List α) (va:Option Addr) (z:Nat) (c:List Value) (ks:List Qc) (bk:Bf) (G:Nat),k<=N/\i=.int .i64 (k:Int)/\Q7 F N [] p0=Q7 F (N-k) l G/\(H++l).length<=G/\LR m (H++l) c ks/\bk={ bc with rest:=bc.rest.set j (.slice va (H++l).length z) }/\Sm B w0 q ba bk bs G (⟨T,sz,(H++l).length,.slice va (H++l).length z,c⟩::(os++ks)) wr/\B<=wr.heap.size) (λi _=>N-(intOf i).toNat)
  case atStart=>exact ⟨0,[],va,z,c0,k0,bc,p0,Nat.zero_le _,rfl,rfl,by simp;omega,by simpa using cw.o,by rw [List.append_nil,set_self hv],by simpa using H1.o,cn⟩
  case round =>
   obtain ⟨k,l,va,z,c,ks,bk,G,hk,rfl,U,ci,af,ak,hs,a5⟩:=hrel;have D:=Hm hs;have bx:=Hm af;have dj:=hs.r.le;have bn:bk.rest[j]?=some (.slice va (H++l).length z):=by rw [ak];exact List.getElem?_set_self (by rw [cf];omega)
   have ch:bk.E=bc.E:=by rw [ak]
   have a8:=Hm ak;generalize hL:(H++l).length=L at *;have a6:=Hm hL;clear hs af ak hL
   by_cases dm:k<N
   . have dp:(k:Int)<(N:Int):=by omega
     have c3:wr.cell? ⟨q,3+j,none⟩=some (.slice va L z):=D.o.r.rst j _ bn;have f3:=D.o.r.fz (3+j);have KD:=Hm (λV (hV:Rd V q ba bk bs G)=>bq bk G V ch hV)
     rcases hX:F G with ⟨er,at_⟩|⟨x,p2⟩
     . rw [hX] at KD
       have cv:Hid (Q7 F N [] p0=.bad er at_):=by
        show _=_
        rw [U,show N-k=(N-(k+1))+1 by omega]
        simp only [Q7,hX,Rs.bind]
       clear hX U
       go_wp2_with fail
       refine Rp.qg_list (N:=25) (gs:=[Rp.is (.pointer (some ⟨q,3+j,none⟩)),Rp.is (.pointer (some ⟨q,3+j,none⟩)),Rp.is (.pointer (some ⟨q,3+j,none⟩)),Rp.is (.slice va L z),Rp.is (.func (.func fE) #[.pointer (some ⟨q,0,none⟩)] #[]),λ_ _=>False,λ_ _=>False,λ_ _=>False,Rp.is (.pointer (some ⟨q,3+j,none⟩)),λ_ _=>False]) (by kernel_rfl) (by kernel_rfl) rfl ?_ ?_ ?_
       . exact .cons (Rp.QC _) (.cons (Rp.QC _) (.cons (Rp.QC _) (.cons (Rp.QC _) (.cons (Rp.QC _) (.cons (Rp.Gk) (.cons (Rp.Gk) (.cons (Rp.Gk) (.cons (Rp.QC _) (.cons (Rp.Gk) (.nil))))))))))
       . refine Rp.Jw.cons (λa W K f df hK=>?_) ?_
         . have e2:a.tmps[2]?.getD undef=.pointer (some ⟨q,3+j,none⟩):=(Rp.Xu f 2 (by kernel_rfl)).trans rfl
           refine Rp.QD (.pointer (some ⟨q,3+j,none⟩)) (Rp.Qe rfl) bF ?_ rfl hK
           clear f hK df
           go_simp
           try rfl
         refine Rp.Jw.cons (λa W K f df hK=>?_) ?_
         . have e2:a.tmps[2]?.getD undef=.pointer (some ⟨q,3+j,none⟩):=(Rp.Xu f 2 (by kernel_rfl)).trans rfl
           refine Rp.QD (.pointer (some ⟨q,3+j,none⟩)) (Rp.Qe rfl) bF ?_ rfl hK
           clear f hK df
           go_simp
           try rfl
         refine Rp.Jw.cons (λa W K f df hK=>?_) ?_
         . have du:a.tmps[13]?.getD undef=.pointer (some ⟨q,3+j,none⟩):=Rp.Q0 f 2 1 13 (by kernel_rfl)
           refine Rp.QD (.pointer (some ⟨q,3+j,none⟩)) (Rp.Qe rfl) bF ?_ rfl hK
           clear f hK df
           go_simp
           try rfl
         refine Rp.Jw.cons (λa W K f df hK=>?_) ?_
         . have dt:a.tmps[14]?.getD undef=.pointer (some ⟨q,3+j,none⟩):=Rp.Q0 f 2 2 14 (by kernel_rfl);have dw:W.cell? ⟨q,3+j,none⟩=some (.slice va L z):=((show Below wr.heap.size wr W from f.kp).cell (p:=⟨q,3+j,none⟩) D.o.r.lt).trans c3
           refine Rp.QD (.slice va L z) (Rp.Qe rfl) bF ?_ rfl hK
           clear f hK df
           go_simp
           try rfl
         refine Rp.Jw.cons (λa W K f df hK=>?_) ?_
         . have e3:a.tmps[3]?.getD undef=.func (.func fE) #[.pointer (some ⟨q,0,none⟩)] #[]:=(Rp.Xu f 3 (by kernel_rfl)).trans rfl
           refine Rp.QD (.func (.func fE) #[.pointer (some ⟨q,0,none⟩)] #[]) (Rp.Qe rfl) bF ?_ rfl hK
           clear f hK df
           go_simp
           try rfl
         refine Rp.Jw.cons (λa W K f df hK=>?_) ?_
         . have ds:a.tmps[16]?.getD undef=.func (.func fE) #[.pointer (some ⟨q,0,none⟩)] #[]:=Rp.Q0 f 2 4 16 (by kernel_rfl);have bo:Below wr.heap.size wr W:=f.kp;have cj:Rd W q ba bk bs G:=D.o.r.keep bo
           refine Rp.st_fall (Rp.Qe rfl) ?_ (Calls.mono (KD.o W cj) (by
            rintro e w2 ⟨t,a1⟩
            refine ⟨_,a1,df,?_⟩
            simp only [BsP,HM.o,Rs.bind,Int.toNat_natCast,cv.o]
            exact ⟨(by rw [a8.o];rfl),(D.o.keep bo a5).bl t⟩))
           clear f hK df;have q9:=A.o;subst q9
           go_simp
           try rfl
         refine Rp.Jw.cons (λa W K f df hK=>?_) ?_
         . exact (Rp.Q0 f 4 5 17 (by kernel_rfl)).elim
         refine Rp.Jw.cons (λa W K f df hK=>?_) ?_
         . exact (Rp.Q0 f 4 5 17 (by kernel_rfl)).elim
         refine Rp.Jw.cons (λa W K f df hK=>?_) ?_
         . have dv:a.tmps[12]?.getD undef=.pointer (some ⟨q,3+j,none⟩):=Rp.Q0 f 2 0 12 (by kernel_rfl)
           refine Rp.QD (.pointer (some ⟨q,3+j,none⟩)) (Rp.Qe rfl) bF ?_ rfl hK
           clear f hK df
           go_simp
           try rfl
         refine Rp.Jw.cons (λa W K f df hK=>?_) ?_
         . exact (Rp.Q0 f 4 5 17 (by kernel_rfl)).elim
         exact Rp.Jw.nil
       . intro a V F
         exact (F.va 5 (show 5<10 by decide)).elim
     have ct:Hid (Q7 F N [] p0=Q7 F (N-(k+1)) (l++[x]) p2):=by
      show _=_
      rw [U,show N-k=(N-(k+1))+1 by omega]
      simp only [Q7,hX,Rs.bind]
     have dk:=ck _ x p2 hX;rw [hX] at KD;have OW:=Hm D.o.o.head;clear hX U
     go_wp2_with fail
     go_cut [10] from 11 (λs V=>s=.int .i64 (k:Int)/\∃ Y X c' aj ah,LR m (H++(l++[x])) c' aj/\ah={ bc with rest:=bc.rest.set j (.slice Y (L+1) X) }/\Sm B w0 q ba ah bs p2 (⟨T,sz,L+1,.slice Y (L+1) X,c'⟩::(os++aj)) V/\B<=V.heap.size)
     case first =>
      first|(replace t0:=t0;obtain ⟨i0,hi,M,J,I⟩:=info_parts info_bsFT)|(replace t1:=t1;obtain ⟨i0,hi,M,J,I⟩:=info_parts info_bsIm)|(replace t2:=t2;obtain ⟨i0,hi,M,J,I⟩:=info_parts info_bsFu)|(replace t3:=t3;obtain ⟨i0,hi,M,J,I⟩:=info_parts info_bsMe)|(replace t4:=t4;obtain ⟨i0,hi,M,J,I⟩:=info_parts info_bsMe)|(replace t5:=t5;obtain ⟨i0,hi,M,J,I⟩:=info_parts info_bsGl)|(replace t6:=t6;obtain ⟨i0,hi,M,J,I⟩:=info_parts info_bsEx)
      first|(have Z:=t0.o;subst Z)|(have Z:=t1.o;subst Z)|(have Z:=t2.o;subst Z)|(have Z:=t3.o;subst Z)|(have Z:=t4.o;subst Z)|(have Z:=t5.o;subst Z)|(have Z:=t6.o;subst Z)
      have q2:=O.o;have q3:=S.o;have q4:=A.o;subst q2 q3 q4
      go_region_law (first|(go_simp;refine Calls.mono (KD.o _ ?hh) ?_;(case hh=>first|exact D.o.r|exact D.o.r.drewN _);rintro e w2 ⟨t,a1⟩;obtain ⟨y,v,he,aw,C,ae⟩:=a1;replace t:wr.grownBy w2 (some q):=⟨t.os,t.tape,t.output,t.size,t.block⟩;replace C:Own wr.heap.size w2 v:=C;have bt:=Hm aw;have bv:=Hm C;have ad:=R _ _ _ _ _ aw C;(first|(obtain ⟨y0,u⟩:=ad;rw [u] at he)|(obtain ⟨y0,y1,y2,u⟩:=ad;rw [u] at he)|(obtain ⟨y0,y1,y2,y3,y4,u⟩:=ad;rw [u] at he)|(obtain ⟨y0,y1,y2,y3,y4,y5,u⟩:=ad;rw [u] at he)|(obtain ⟨y0,y1,y2,y3,y4,y5,y6,y7,y8,u⟩:=ad;rw [u] at he));(first|unfold agV at he|simp only [oneV',List.getD_cons_zero] at he);subst he;have a7:=Hm u;clear u;have c3:w2.cell? ⟨q,3+j,none⟩=some (.slice va L z):=ae.rst j _ bn;have bu:=Hm ae;have cx:=Hm t;have cp:Hid (∀ o,(w2.alloc o).ownsRow B _ _ (.slice va L z) L c):=(λo=>World.ownsRow.alloc (D.o.step t ae a5).o.head o);have di:=t.size;have c4:∀ o,(w2.alloc o).cell? ⟨q,3+j,none⟩=some (.slice va L z):=(λo=>(World.cell?_of_block (QF w2 o q ae.lt)).trans c3);clear t ae C)|(refine Qv rfl (.tmp 15) (.tmp 18) _ rfl B _ i0 _ _ _ (by first|exact Tryz.underlying23|exact Tryz.underlying24|exact Tryz.underlying25|exact Tryz.underlying26|exact Tryz.underlying27|exact Tryz.underlying28) hi M J I rfl (by decide) (.slice va L z) L c (by simp [Act.eval,Act.put]) (show World.ownsRow _ _ _ _ _ _ _ from cp.o _) ⟨w2.heap.size,0,none⟩ 1 1 y (by simp [Act.eval,Act.put]) (by rw [a7.o];rfl) ?hcl (by rw [a7.o];simp [Value.oneCell']) (by unfold maxLen;omega) (by omega) (by simp;omega) ?_;(case hcl=>rw [a7.o];exact Jd _ _ _);intro v3 w3 ac ag bp;have HE:=Hm (D.o.put (i:=j) (r':=⟨_,_,L+1,v3,_⟩) a5 (by omega) cx.o bu.o bv.o ag ac bp);have e3:w3.cell? ⟨q,3+j,none⟩=some (.slice va L z):=ag.cell ((World.cell?_of_block (QF w2 _ q (by have:=D.o.r.lt;omega))).trans c3) (λe=>D.o.qn (Qn.2 ⟨_,mS,e.symm⟩));have dq:w3.frozen? ⟨q,3+j,none⟩=false:=GV ag (by have:=D.o.r.lt;simp;omega) (λe=>D.o.qn (Qn.2 ⟨_,mS,e.symm⟩)) ((World.frozen?_of_block (QF w2 _ q (by have:=D.o.r.lt;omega))).trans (bu.o.fz (3+j)));have cd:B<=w3.heap.size:=(by have:=ag.size;simp at this;omega);obtain ⟨Y,X,rfl⟩:∃ a c,v3=.slice a (L+1) c:=Qc.Ok.slice (r:=⟨_,_,L+1,v3,_⟩) ac;clear ac ag bp))
      all_goals go_wp2_with fail
      all_goals go_meet
      all_goals exact ⟨rfl,Y,X,_,_,_,(show LR m _ _ _ from by have:=bx.o.snoc bt.o;rwa [List.append_assoc] at this),rfl,(by have:=HE.o;rw [a8.o] at this;simpa using this),by simpa using cd⟩
     case rest =>
      obtain ⟨rfl,Y,X,c',aj,ah,ar,av,a0,ax⟩:=hcut;have KT:=Hm (X6 q ba ah bs p2 3 NO _ a0.r);have cr:=Hm a0;have bw:=Hm ar;have bz:=Hm av;clear a0 ar av KD OW
      go_wp2_with fail
      refine (KT.o).mono ?_
      rintro e w4 ⟨rfl,a3⟩;have cq:=Hm (cr.o.keep a3 ax);have cl:B<=w4.heap.size:=Nat.le_trans ax a3.size;clear a3 KT
      go_wp2_with fail
      go_roundw
      case rel =>
       have a4:(H++(l++[x])).length=L+1:=by have:=a6.o;simp at this⊢;omega
       exact ⟨k+1,l++[x],Y,X,c',aj,ah,p2,by omega,by go_num,ct.o,by rw [a4];omega,bw.o,by rw [a4];exact bz.o,by rw [a4];exact cq.o,cl⟩
      case measure=>simp [intOf];omega
   . have e:k=N:=by omega
     subst e;have cu:Hid (Q7 F k [] p0=.ok l G):=by show _=_;rw [U,Nat.sub_self];rfl
     clear U
     go_wp2_with fail
     go_end0
     simp only [BsP,HM.o,Rs.bind,Int.toNat_natCast,cu.o]
     exact ⟨_,c,ks,by first|rfl|trivial,bx.o,by have:=D.o;rw [a8.o] at this;rw [a6.o];exact this,by rw [a6.o];exact ci⟩
theorem bsIm_c (B w0 q ba bc bs p)(a:List Imp)(va:Option Addr)(b:Nat)(c0:List Value)(d c:List Qc)(w)(h:Sm B w0 q ba bc bs p (⟨100,9,a.length,.slice va a.length b,c0⟩::(c++d)) w)(hB:B<=w.heap.size)(g:LR RImp a c0 d)(k:Qm bs)(hl:bs.length<=1099511627776)(hv:bc.rest[1]?=some (.slice va a.length b))(j:a.length<=p)(l:bc.E<=9223372036854775807) :
    Calls Tryz.prog 232 #[.pointer (some ⟨q,0,none⟩),.int .i64 2,.pointer (some ⟨q,4,none⟩),.func (.func 233) #[.pointer (some ⟨q,0,none⟩)] #[]] w (BsP (Jj (λp_=>XK bs bc.E p_) bs p) RImp a 1 100 9 B w0 q ba bc bs c) :=
 bs_all (λp_=>XK bs bc.E p_) RImp agV 232 100 9 1 233 2 B w0 q ba bc bs p a va b c0 d c w h hB g k hl hv j (by decide) (.inr (.inl ⟨rfl,rfl,rfl,rfl,(λx cs rs B W h _=>by obtain ⟨rfl,rfl⟩:=h;exact ⟨_,_,_,_,_,_,_,_,_,rfl⟩),rfl⟩)) (λp1 x p2 hX=>Og _ _ _ x p2 hX) (λbk p1 V hbE hV=>by rw [<- hbE];exact Calls.mono (imp_c q ba bk bs p1 V hV k hl (by rw [hbE];exact l)) (λe w' hm=>rd_re (f:=λ(x:Imp)=>[.string x.mod,.string x.nm,.int .i64 x.kind,.int .i64 x.ty,.int .i64 x.lim.min,.int .i64 x.lim.max,.bool x.lim.has,.int .i64 x.gl.ty,.bool x.gl.mu]) (λx=>⟨rfl,rfl⟩) (λx=>rfl) hm))
theorem bsEx_c (B w0 q ba bc bs p)(a:List Exp)(va:Option Addr)(b:Nat)(c0:List Value)(d c:List Qc)(w)(h:Sm B w0 q ba bc bs p (⟨111,3,a.length,.slice va a.length b,c0⟩::(c++d)) w)(hB:B<=w.heap.size)(g:LR RExp a c0 d)(k:Qm bs)(hl:bs.length<=1099511627776)(hv:bc.rest[6]?=some (.slice va a.length b))(j:a.length<=p)(l:bc.E<=9223372036854775807) :
    Calls Tryz.prog 241 #[.pointer (some ⟨q,0,none⟩),.int .i64 7,.pointer (some ⟨q,9,none⟩),.func (.func 242) #[.pointer (some ⟨q,0,none⟩)] #[]] w (BsP (Jj (λp_=>expM bs bc.E p_) bs p) RExp a 6 111 3 B w0 q ba bc bs c) :=
 bs_all (λp_=>expM bs bc.E p_) RExp agV 241 111 3 6 242 7 B w0 q ba bc bs p a va b c0 d c w h hB g k hl hv j (by decide) (.inr (.inr (.inr (.inr (.inr (.inr (⟨rfl,rfl,rfl,rfl,(λx cs rs B W h _=>by obtain ⟨rfl,rfl⟩:=h;exact ⟨_,_,_,rfl⟩),rfl⟩))))))) (λp1 x p2 hX=>nx_exp _ _ _ x p2 hX) (λbk p1 V hbE hV=>by rw [<- hbE];exact Calls.mono (exp_c q ba bk bs p1 V hV k hl (by rw [hbE];exact l)) (λe w' hm=>rd_re (f:=λ(x:Exp)=>[.string x.nm,.int .i64 x.kind,.int .i64 x.ix]) (λx=>⟨rfl,rfl⟩) (λx=>rfl) hm))
theorem bsGl_c (B w0 q ba bc bs p)(b:List Jv)(va:Option Addr)(d:Nat)(c0:List Value)(g f:List Qc)(w)(h:Sm B w0 q ba bc bs p (⟨107,3,b.length,.slice va b.length d,c0⟩::(f++g)) w)(hB:B<=w.heap.size)(j:LR X5 b c0 g)(l:Qm bs)(hl:bs.length<=1099511627776)(hv:bc.rest[5]?=some (.slice va b.length d))(k:b.length<=p) :
    Calls Tryz.prog 239 #[.pointer (some ⟨q,0,none⟩),.int .i64 6,.pointer (some ⟨q,8,none⟩),.func (.func 240) #[.pointer (some ⟨q,0,none⟩)] #[]] w (BsP (Jj (λp_=>XH bs p_) bs p) X5 b 5 107 3 B w0 q ba bc bs f) :=
 bs_all (λp_=>XH bs p_) X5 agV 239 107 3 5 240 6 B w0 q ba bc bs p b va d c0 g f w h hB j l hl hv k (by decide) (.inr (.inr (.inr (.inr (.inr (.inl ⟨rfl,rfl,rfl,rfl,(λx cs rs B W h ho=>by obtain ⟨m,rfl,s,r,n,rfl⟩:=h;obtain ⟨t,o,rfl⟩:∃ a c,m=.slice a x.ini.length c:=Qc.Ok.slice ho.head;exact ⟨_,_,_,_,_,rfl⟩),rfl⟩)))))) (λp1 x p2 hX=>nx_glob _ _ x p2 hX) (λbk p1 V hbE hV=>glob_c q ba bk bs p1 V hV l hl)
theorem bsFT_c (B w0 q ba bc bs p)(b:List Q1)(va:Option Addr)(d:Nat)(c0:List Value)(g f:List Qc)(w)(h:Sm B w0 q ba bc bs p (⟨92,2,b.length,.slice va b.length d,c0⟩::(f++g)) w)(hB:B<=w.heap.size)(j:LR RFT b c0 g)(l:Qm bs)(hl:bs.length<=1099511627776)(hv:bc.rest[0]?=some (.slice va b.length d))(k:b.length<=p) :
    Calls Tryz.prog 230 #[.pointer (some ⟨q,0,none⟩),.int .i64 1,.pointer (some ⟨q,3,none⟩),.func (.func 231) #[.pointer (some ⟨q,0,none⟩)] #[]] w (BsP (Jj (λp_=>ftM bs p_) bs p) RFT b 0 92 2 B w0 q ba bc bs f) :=
 bs_all (λp_=>ftM bs p_) RFT agV 230 92 2 0 231 1 B w0 q ba bc bs p b va d c0 g f w h hB j l hl hv k (by decide) (.inl ⟨rfl,rfl,rfl,rfl,(λx cs rs B W h ho=>by obtain ⟨n,m,rfl,rfl⟩:=h;obtain ⟨t,r,rfl⟩:∃ a c,n=.slice a x.ps.length c:=Qc.Ok.slice ho.head;obtain ⟨s,o,rfl⟩:∃ a c,m=.slice a x.rs.length c:=Qc.Ok.slice ho.tail.head;exact ⟨_,_,_,_,_,_,rfl⟩),rfl⟩) (λp1 x p2 hX=>nx_ft _ _ x p2 hX) (λbk p1 V hbE hV=>ft_c q ba bk bs p1 V hV l hl)
theorem bsMe_c (B w0 q ba bc bs p)(a:List Qq)(va:Option Addr)(b:Nat)(c0:List Value)(d c:List Qc)(w)(h:Sm B w0 q ba bc bs p (⟨96,3,a.length,.slice va a.length b,c0⟩::(c++d)) w)(hB:B<=w.heap.size)(g:LR Gz a c0 d)(k:Qm bs)(hl:bs.length<=1099511627776)(hv:bc.rest[4]?=some (.slice va a.length b))(j:a.length<=p) :
    Calls Tryz.prog 236 #[.pointer (some ⟨q,0,none⟩),.int .i64 5,.pointer (some ⟨q,7,none⟩),.func (.func 238) #[.pointer (some ⟨q,0,none⟩)] #[]] w (BsP (Jj (λp_=>XR bs p_) bs p) Gz a 4 96 3 B w0 q ba bc bs c) :=
 bs_all (λp_=>XR bs p_) Gz agV 236 96 3 4 238 5 B w0 q ba bc bs p a va b c0 d c w h hB g k hl hv j (by decide) (.inr (.inr (.inr (.inl ⟨rfl,rfl,rfl,rfl,(λx cs rs B W h _=>by obtain ⟨rfl,rfl⟩:=h;exact ⟨_,_,_,rfl⟩),rfl⟩)))) (λp1 x p2 hX=>nx_lim _ _ x p2 hX) (λbk p1 V hbE hV=>Calls.mono (lim_c q ba bk bs p1 V hV k hl) (λe w' hm=>rd_re (f:=λ(x:Qq)=>[.int .i64 x.min,.int .i64 x.max,.bool x.has]) (λx=>⟨rfl,rfl⟩) (λx=>rfl) hm))
theorem bsTa_c (B w0 q ba bc bs p)(a:List Qq)(va:Option Addr)(b:Nat)(c0:List Value)(d c:List Qc)(w)(h:Sm B w0 q ba bc bs p (⟨96,3,a.length,.slice va a.length b,c0⟩::(c++d)) w)(hB:B<=w.heap.size)(g:LR Gz a c0 d)(k:Qm bs)(hl:bs.length<=1099511627776)(hv:bc.rest[3]?=some (.slice va a.length b))(j:a.length<=p) :
    Calls Tryz.prog 236 #[.pointer (some ⟨q,0,none⟩),.int .i64 4,.pointer (some ⟨q,6,none⟩),.func (.func 237) #[.pointer (some ⟨q,0,none⟩)] #[]] w (BsP (Jj (λp_=>GC bs p_) bs p) Gz a 3 96 3 B w0 q ba bc bs c) :=
 bs_all (λp_=>GC bs p_) Gz agV 236 96 3 3 237 4 B w0 q ba bc bs p a va b c0 d c w h hB g k hl hv j (by decide) (.inr (.inr (.inr (.inr (.inl ⟨rfl,rfl,rfl,rfl,(λx cs rs B W h _=>by obtain ⟨rfl,rfl⟩:=h;exact ⟨_,_,_,rfl⟩),rfl⟩))))) (λp1 x p2 hX=>nx_tab _ _ x p2 hX) (λbk p1 V hbE hV=>Calls.mono (tab_c q ba bk bs p1 V hV k hl) (λe w' hm=>rd_re (f:=λ(x:Qq)=>[.int .i64 x.min,.int .i64 x.max,.bool x.has]) (λx=>⟨rfl,rfl⟩) (λx=>rfl) hm))
theorem bsFu_c (B w0 q ba bc bs p)(a:List Int)(va:Option Addr)(b:Nat)(c0:List Value)(d c:List Qc)(w)(h:Sm B w0 q ba bc bs p (⟨2,1,a.length,.slice va a.length b,c0⟩::(c++d)) w)(hB:B<=w.heap.size)(g:LR RInt a c0 d)(k:Qm bs)(hl:bs.length<=1099511627776)(hv:bc.rest[2]?=some (.slice va a.length b))(j:a.length<=p) :
    Calls Tryz.prog 234 #[.pointer (some ⟨q,0,none⟩),.int .i64 3,.pointer (some ⟨q,5,none⟩),.func (.func 235) #[.pointer (some ⟨q,0,none⟩)] #[]] w (BsP (Jj (λp_=>QK bs p_) bs p) RInt a 2 2 1 B w0 q ba bc bs c) :=
 bs_all (λp_=>QK bs p_) RInt oneV' 234 2 1 2 235 3 B w0 q ba bc bs p a va b c0 d c w h hB g k hl hv j (by decide) (.inr (.inr (.inl ⟨rfl,rfl,rfl,rfl,(λx cs rs B W h _=>by obtain ⟨rfl,rfl⟩:=h;exact ⟨_,rfl⟩),rfl⟩))) (λp1 x p2 hX=>JC _ _ x p2 hX) (λbk p1 V hbE hV=>Calls.mono (JR q ba bk bs p1 V hV k hl) (λe w' hm=>rd_re (f:=λ(x:Int)=>[.int .i64 x]) (λx=>⟨rfl,rfl⟩) (λx=>rfl) hm))
end Go.Proofs.YtedcmcdbejjgcaaGreat
