import Derived.Test.YtedcmcdbejjgcaaGreatGaa
import Derived.Test.YtedcmcdbejjgcaaGreatGbc
set_option linter.all false
set_option maxHeartbeats 400000000
set_option maxRecDepth 100000
namespace Go.Proofs.YtedcmcdbejjgcaaGreat
open Go.RowKit Go.Sort
theorem Sm.far {B w0 q ba bc bs p rs V}(h:Sm B w0 q ba bc bs p rs V){X:Nat}(hB:B<=X)(d:X ∉ blk rs)(j:Nat)(v:Value):Sm B w0 q ba bc bs p rs (V.setCell ⟨X,j,none⟩ v):=by
 have c:=Qp V X j v;have f:=h.qB
 exact ⟨h.r.grown c (by simp;omega) (λa e hx he=>by have:=h.by_ a e hx;injection he with he;omega),h.b.past h.sz c (λk e=>by injection e with e;omega),h.o.grown c (λk e hk=>by injection e with e;subst e;exact d hk),h.by_,h.qB,by have:=h.sz;simpa using this⟩
theorem blk_cons_not {B:Nat}{W:World}{r:Qc}{rs:List Qc}{X:Nat}(h:r.Ok B W)(d:X<B)(c:X ∉ blk rs):X ∉ blk (r::rs):=λhk=>by
 obtain ⟨y,a,b⟩:=Qn.1 hk
 rcases List.mem_cons.1 a with rfl|a
 . have:=(World.ownsRow.lt h X b).1;omega
 . exact c (Qn.2 ⟨y,a,b⟩)
theorem cus_a {B w0 q ba bc bs p p1 rs}{w w2:World}{xs:List Value}{t:TypeId}(h:Sm B w0 q ba bc bs p rs w)(hg:w.grownBy w2 (some q))(hr:Rd w2 q ba bc bs p1) :
    ∃ X,Value.pointer (some ⟨w2.heap.size,0,none⟩)=.pointer (some ⟨X,0,none⟩)/\Sm B w0 q ba bc bs p1 rs (w2.alloc (.cells xs.toArray t))/\Bk (w2.alloc (.cells xs.toArray t)) X xs/\B<=X/\X≠q/\X ∉ blk rs/\X<(w2.alloc (.cells xs.toArray t)).heap.size:=by
 have a:=h.step hg hr h.sz;have b:=a.r.lt
 exact ⟨_,rfl,a.keep (bF.alloc lR _) a.sz,Bk.new,a.sz,by omega,λhk=>by have:=(a.o.lt hk).2;omega,by simp⟩
theorem cus_b {B w0 q ba bc bs p p1 rs w w2}{x y z g f d:Value}{o:Obj}(h:Sm B w0 q ba bc bs p rs w)(b:Bk w2 w.heap.size [g,f,d])(hg:(w.alloc o).grownBy w2 (some q))(hr:Rd w2 q ba bc bs p1) :
    ∃ X,Value.pointer (some ⟨w.heap.size,0,none⟩)=.pointer (some ⟨X,0,none⟩)/\Sm B w0 q ba bc bs p1 rs (((w2.setCell ⟨w.heap.size,0,none⟩ x).setCell ⟨w.heap.size,1,none⟩ y).setCell ⟨w.heap.size,2,none⟩ z)/\Bk (((w2.setCell ⟨w.heap.size,0,none⟩ x).setCell ⟨w.heap.size,1,none⟩ y).setCell ⟨w.heap.size,2,none⟩ z) X [x,y,z]/\B<=X/\X≠q/\X ∉ blk rs/\X<(((w2.setCell ⟨w.heap.size,0,none⟩ x).setCell ⟨w.heap.size,1,none⟩ y).setCell ⟨w.heap.size,2,none⟩ z).heap.size:=by
 have c:=h.keep ((Below.refl w.heap.size w).alloc lR o) h.sz;have l:=c.step hg hr c.sz;have k:=h.r.lt;have a:w.heap.size ∉ blk rs:=λhk=>by have:=(h.o.lt hk).2;omega
 refine ⟨_,rfl,((l.far h.sz a 0 x).far h.sz a 1 y).far h.sz a 2 z,?_,h.sz,by omega,a,by have:=b.1;simpa using this⟩
 have:=((b.set (j:=0) (v:=x)).set (j:=1) (v:=y)).set (j:=2) (v:=z)
 simpa using this
theorem info_cus:(Tryz.prog.info? 72).map (λi=>(i.zero,i.size,i.bytes))=some (some (.agg #[.int .i64 0,.string ByteArray.empty,.slice none 0 0]),3,48):=by kernel_rfl
theorem custom_c (B w0 q ba bc bs p m)(L:List (List Qc))(d:Int)(w)(h:Sm B w0 q ba bc bs p L.flatten w)(hR:MR m bc.rest L)(g:MB m p)(hA:Qm bs)(hl:bs.length<=1099511627776)(hE:bc.E<=9223372036854775807)(a4:bc.rest[14]?=some (.int .i64 d)) :
    Calls Tryz.prog 150 #[.pointer (some ⟨q,0,none⟩)] w (SeP (Jk 0 d m bs bc.E p) B w0 q ba bc bs):=by
 obtain ⟨i0,hi,bj,bh,bg⟩:=info_parts info_cus;have KN:=Hm (λV (hV:Rd V q ba bc bs p)=>name_c q ba bc bs p V hV hA hl hE);have HM:Hid (Jk 0 d m bs bc.E p=(Gy d bs bc.E p).bind λc z=>.ok { m with customs:=m.customs++[c] } z):=rfl;have Z:=Hm h;have HR:=Hm hR;have HA:=Hm hA;have cb:=Hm a4;have ca:w.cell? ⟨q,17,none⟩=some (.int .i64 d):=h.r.rst 14 _ a4;obtain ⟨v0,c0,k0,ay,ae,ai⟩:=hR.customs.at_;obtain ⟨va,vc,rfl⟩:∃ a c,v0=.slice a m.customs.length c:=Qc.Ok.slice (h.perm ai).o.head;have b3:=Hm ai;have b5:=Hm ae;have cl:=g.customs;clear h hR hA ai ae
 rcases hX:Xa bs bc.E p with ⟨er,at_⟩|⟨a,z⟩
 . have ao:Hid (Jk 0 d m bs bc.E p=.bad er at_):=by show _=_;rw [HM.o];simp only [Gy,hX,Rs.bind]
   rw [hX] at KN;clear hX HM
   go_enter Tryz.func150,Tryz.ntmps150
   go_wp2_with fail
   refine Rp.qg_list (N:=34) (gs:=[Rp.is (.pointer (some ⟨q,0,none⟩)),Rp.is (.pointer (some ⟨q,0,none⟩)),Rp.is (.pointer (some ⟨q,17,none⟩)),Rp.is (.int .i64 d),Rp.is (.pointer (some ⟨q,0,none⟩)),λ_ _=>False,λ_ _=>False,λ_ _=>True,λ_ _=>False]) (by kernel_rfl) (by kernel_rfl) rfl ?_ ?_ ?_
   . exact .cons (Rp.QC _) (.cons (Rp.QC _) (.cons (Rp.QC _) (.cons (Rp.QC _) (.cons (Rp.QC _) (.cons (Rp.Gk) (.cons (Rp.Gk) (.cons (Rp.stb_any) (.cons (Rp.Gk) (.nil)))))))))
   . refine Rp.Jw.cons (λa W K f df hK=>?_) ?_
     . have e0:a.tmps[0]?.getD undef=.pointer (some ⟨q,0,none⟩):=(Rp.Xu f 0 (by kernel_rfl)).trans rfl
       refine Rp.QD (.pointer (some ⟨q,0,none⟩)) (Rp.Qe rfl) bF ?_ rfl hK
       clear f hK df
       go_simp
       try rfl
     refine Rp.Jw.cons (λa W K f df hK=>?_) ?_
     . have e3:a.tmps[3]?.getD undef=.pointer (some ⟨q,0,none⟩):=Rp.Q0 f 2 0 3 (by kernel_rfl)
       refine Rp.QD (.pointer (some ⟨q,0,none⟩)) (Rp.Qe rfl) bF ?_ rfl hK
       clear f hK df
       go_simp
       try rfl
     refine Rp.Jw.cons (λa W K f df hK=>?_) ?_
     . have e4:a.tmps[4]?.getD undef=.pointer (some ⟨q,0,none⟩):=Rp.Q0 f 2 1 4 (by kernel_rfl)
       refine Rp.QD (.pointer (some ⟨q,17,none⟩)) (Rp.Qe rfl) bF ?_ rfl hK
       clear f hK df
       go_simp
       try rfl
     refine Rp.Jw.cons (λa W K f df hK=>?_) ?_
     . have e5:a.tmps[5]?.getD undef=.pointer (some ⟨q,17,none⟩):=Rp.Q0 f 2 2 5 (by kernel_rfl);have di:W.cell? ⟨q,17,none⟩=some (.int .i64 d):=((show Below w.heap.size w W from f.kp).cell (p:=⟨q,17,none⟩) Z.o.r.lt).trans ca
       refine Rp.QD (.int .i64 d) (Rp.Qe rfl) bF ?_ rfl hK
       clear f hK df
       go_simp
       try rfl
     refine Rp.Jw.cons (λa W K f df hK=>?_) ?_
     . have e0:a.tmps[0]?.getD undef=.pointer (some ⟨q,0,none⟩):=(Rp.Xu f 0 (by kernel_rfl)).trans rfl
       refine Rp.QD (.pointer (some ⟨q,0,none⟩)) (Rp.Qe rfl) bF ?_ rfl hK
       clear f hK df
       go_simp
       try rfl
     refine Rp.Jw.cons (λa W K f df hK=>?_) ?_
     . have e7:a.tmps[7]?.getD undef=.pointer (some ⟨q,0,none⟩):=Rp.Q0 f 2 4 7 (by kernel_rfl);have Y:Below w.heap.size w W:=f.kp;have ak:Rd W q ba bc bs p:=Z.o.r.keep Y
       refine Rp.st_fall (Rp.Qe rfl) ?_ (Calls.mono (KN.o W ak) (by
        rintro e w2 ⟨J,aj⟩
        refine ⟨_,aj,df,?_⟩
        rw [ao.o]
        exact ⟨rfl,(Z.o.keep Y Z.o.lt).bl J⟩))
       clear f hK df
       go_simp
       try rfl
     refine Rp.Jw.cons (λa W K f df hK=>?_) ?_
     . exact (Rp.Q0 f 4 5 8 (by kernel_rfl)).elim
     refine Rp.Jw.cons (λa W K f df hK=>?_) ?_
     . refine Rp.st_valw (.pointer (some ⟨W.heap.size,0,none⟩)) (W.alloc (.cells #[.int .i64 0,.string ByteArray.empty,.slice none 0 0] 72)) (Rp.Qe rfl) (bF.alloc lR _) ?_ trivial hK
       clear f hK df
       go_simp
       try rfl
     refine Rp.Jw.cons (λa W K f df hK=>?_) ?_
     . exact (Rp.Q0 f 4 5 8 (by kernel_rfl)).elim
     exact Rp.Jw.nil
   . intro a V F
     exact (F.va 5 (show 5<9 by decide)).elim
 have cj:=X9 bs bc.E p a z hX
 have aa:Hid (Jk 0 d m bs bc.E p=(JF bs (bc.E-z).toNat z).bind λb p2=>.ok { m with customs:=m.customs++[⟨d,a,b⟩] } p2):=by
  show _=_
  rw [HM.o]
  simp only [Gy,hX,Rs.bind]
  cases JF bs (bc.E-z).toNat z<;>rfl
 rw [hX] at KN;clear hX HM
 go_enter Tryz.func150,Tryz.ntmps150
 go_wp2_with fail
 go_cut [2] from 3 (λt2 V=>∃ X,t2=.pointer (some ⟨X,0,none⟩)/\Sm B w0 q ba bc bs z L.flatten V/\Bk V X [.int .i64 d,.string a,.slice none 0 0]/\B<=X/\X≠q/\X ∉ blk L.flatten/\X<V.heap.size)
 case first =>
  have b9:Hid (∀ o,Below w.heap.size w ((w.alloc o).drew)):=λo=>⟨rfl,rfl,rfl,by show w.heap.size<=(w.alloc o).heap.size;simp,λk hk=>QF w o k hk⟩;have kd:∀ o,(w.alloc o).cell? ⟨q,17,none⟩=some (.int .i64 d):=λo=>(World.cell?_of_block (QF w o q Z.o.r.lt)).trans ca;have b6:Hid (∀ t,Bk ((w.alloc (.cells #[.int .i64 0,.string ByteArray.empty,.slice none 0 0] t)).drew) w.heap.size [.int .i64 0,.string ByteArray.empty,.slice none 0 0]):=λt=>Bk.keep (Bk.new (w:=w) (cs:=[.int .i64 0,.string ByteArray.empty,.slice none 0 0]) (t:=t)) ⟨rfl,rfl,rfl,lR,λ_ _=>rfl⟩
  go_region_law (first|(go_simp;refine Calls.mono (KN.o _ (by first|exact Z.o.r|exact Z.o.r.drewN _|exact Z.o.r.keep (b9.o _))) ?_;rintro e w2 ⟨J,rfl,ac⟩;have bz:w2.cell? ⟨q,17,none⟩=some (.int .i64 d):=ac.rst 14 _ cb.o;have dj:∀ o,(w2.alloc o).cell? ⟨q,17,none⟩=some (.int .i64 d):=(λo=>(World.cell?_of_block (QF w2 o q ac.lt)).trans bz);(try (have G:Bk w2 w.heap.size [.int .i64 0,.string ByteArray.empty,.slice none 0 0]:=Bk.grownR (b6.o _) J (by have:=Z.o.r.lt;simp;omega);have dh:=G.2.1 0 _ rfl;have dg:=G.2.1 1 _ rfl;have de:=G.2.1 2 _ rfl;have cv:=G.2.2 0;have cu:=G.2.2 1;have ct:=G.2.2 2;have b7:=Hm G;clear G));have y:=Hm J;have a7:=Hm ac;clear J ac))
  all_goals go_wp2_with fail
  all_goals go_meet
  all_goals first
   |exact cus_a Z.o ⟨y.o.os,y.o.tape,y.o.output,y.o.size,y.o.block⟩ a7.o
   |exact cus_b Z.o b7.o ⟨y.o.os,y.o.tape,y.o.output,y.o.size,y.o.block⟩ a7.o
 case rest =>
  obtain ⟨X,rfl,I,af,bv,bo,bp,bq⟩:=hcut;have H1:=Hm I;have a8:=Hm af;have c1:=I.r.c1;have c2:=I.r.c2;have ci:=I.r.le;have co:=I.r.e0;have bn:bs.length=min bc.E.toNat bc.fs.length:=by rw [I.r.win];simp
  obtain ⟨n,hn⟩:∃ n:Nat,bc.E-(z:Int)=n:=Int.eq_ofNat_of_zero_le (by omega);have hw:IntKind.i64.wrap (bc.E-(z:Int))=(n:Int):=by rw [IntKind.wrap_i64];omega
  have a0:(bc.E-(z:Int)).toNat=n:=by omega
  rw [a0] at aa;have KB:=Hm (λV (hV:Rd V q ba bc bs z)=>bytes_c q ba bc bs z n V hV HA.o hl (by omega));clear I af KN hn a0 bn
  rcases hY:JF bs n z with ⟨er,at_⟩|⟨l,p2⟩
  . have ao:Hid (Jk 0 d m bs bc.E p=.bad er at_):=by show _=_;rw [aa.o,hY];rfl
    rw [hY] at KB;clear hY aa
    go_wp2_with fail
    refine Rp.qg_list (N:=34) (gs:=[Rp.is (.pointer (some ⟨q,0,none⟩)),Rp.is (.pointer (some ⟨q,0,none⟩)),Rp.is (.pointer (some ⟨q,0,none⟩)),Rp.is (.pointer (some ⟨q,2,none⟩)),Rp.is (.int .i64 bc.E),Rp.is (.pointer (some ⟨q,0,none⟩)),Rp.is (.pointer (some ⟨q,0,none⟩)),Rp.is (.pointer (some ⟨q,1,none⟩)),Rp.is (.int .i64 z),Rp.is (.int .i64 (n:Int)),λ_ _=>False,Rp.is (.pointer (some ⟨X,2,none⟩)),λ_ _=>False]) (by kernel_rfl) (by kernel_rfl) rfl ?_ ?_ ?_
    . exact .cons (Rp.QC _) (.cons (Rp.QC _) (.cons (Rp.QC _) (.cons (Rp.QC _) (.cons (Rp.QC _) (.cons (Rp.QC _) (.cons (Rp.QC _) (.cons (Rp.QC _) (.cons (Rp.QC _) (.cons (Rp.QC _) (.cons (Rp.Gk) (.cons (Rp.QC _) (.cons (Rp.Gk) (.nil)))))))))))))
    . refine Rp.Jw.cons (λa W K f df hK=>?_) ?_
      . have e0:a.tmps[0]?.getD undef=.pointer (some ⟨q,0,none⟩):=(Rp.Xu f 0 (by kernel_rfl)).trans rfl
        refine Rp.QD (.pointer (some ⟨q,0,none⟩)) (Rp.Qe rfl) bF ?_ rfl hK
        clear f hK df
        go_simp
        try rfl
      refine Rp.Jw.cons (λa W K f df hK=>?_) ?_
      . have e0:a.tmps[0]?.getD undef=.pointer (some ⟨q,0,none⟩):=(Rp.Xu f 0 (by kernel_rfl)).trans rfl
        refine Rp.QD (.pointer (some ⟨q,0,none⟩)) (Rp.Qe rfl) bF ?_ rfl hK
        clear f hK df
        go_simp
        try rfl
      refine Rp.Jw.cons (λa W K f df hK=>?_) ?_
      . have da:a.tmps[11]?.getD undef=.pointer (some ⟨q,0,none⟩):=Rp.Q0 f 2 1 11 (by kernel_rfl)
        refine Rp.QD (.pointer (some ⟨q,0,none⟩)) (Rp.Qe rfl) bF ?_ rfl hK
        clear f hK df
        go_simp
        try rfl
      refine Rp.Jw.cons (λa W K f df hK=>?_) ?_
      . have c9:a.tmps[12]?.getD undef=.pointer (some ⟨q,0,none⟩):=Rp.Q0 f 2 2 12 (by kernel_rfl)
        refine Rp.QD (.pointer (some ⟨q,2,none⟩)) (Rp.Qe rfl) bF ?_ rfl hK
        clear f hK df
        go_simp
        try rfl
      refine Rp.Jw.cons (λa W K f df hK=>?_) ?_
      . have c8:a.tmps[13]?.getD undef=.pointer (some ⟨q,2,none⟩):=Rp.Q0 f 2 3 13 (by kernel_rfl);have dk:W.cell? ⟨q,2,none⟩=some (.int .i64 bc.E):=((show Below wc.heap.size wc W from f.kp).cell (p:=⟨q,2,none⟩) H1.o.r.lt).trans c2
        refine Rp.QD (.int .i64 bc.E) (Rp.Qe rfl) bF ?_ rfl hK
        clear f hK df
        go_simp
        try rfl
      refine Rp.Jw.cons (λa W K f df hK=>?_) ?_
      . have e0:a.tmps[0]?.getD undef=.pointer (some ⟨q,0,none⟩):=(Rp.Xu f 0 (by kernel_rfl)).trans rfl
        refine Rp.QD (.pointer (some ⟨q,0,none⟩)) (Rp.Qe rfl) bF ?_ rfl hK
        clear f hK df
        go_simp
        try rfl
      refine Rp.Jw.cons (λa W K f df hK=>?_) ?_
      . have c6:a.tmps[15]?.getD undef=.pointer (some ⟨q,0,none⟩):=Rp.Q0 f 2 5 15 (by kernel_rfl)
        refine Rp.QD (.pointer (some ⟨q,0,none⟩)) (Rp.Qe rfl) bF ?_ rfl hK
        clear f hK df
        go_simp
        try rfl
      refine Rp.Jw.cons (λa W K f df hK=>?_) ?_
      . have c5:a.tmps[16]?.getD undef=.pointer (some ⟨q,0,none⟩):=Rp.Q0 f 2 6 16 (by kernel_rfl)
        refine Rp.QD (.pointer (some ⟨q,1,none⟩)) (Rp.Qe rfl) bF ?_ rfl hK
        clear f hK df
        go_simp
        try rfl
      refine Rp.Jw.cons (λa W K f df hK=>?_) ?_
      . have c4:a.tmps[17]?.getD undef=.pointer (some ⟨q,1,none⟩):=Rp.Q0 f 2 7 17 (by kernel_rfl);have dm:W.cell? ⟨q,1,none⟩=some (.int .i64 z):=((show Below wc.heap.size wc W from f.kp).cell (p:=⟨q,1,none⟩) H1.o.r.lt).trans c1
        refine Rp.QD (.int .i64 z) (Rp.Qe rfl) bF ?_ rfl hK
        clear f hK df
        go_simp
        try rfl
      refine Rp.Jw.cons (λa W K f df hK=>?_) ?_
      . have c7:a.tmps[14]?.getD undef=.int .i64 bc.E:=Rp.Q0 f 2 4 14 (by kernel_rfl);have cz:a.tmps[18]?.getD undef=.int .i64 z:=Rp.Q0 f 2 8 18 (by kernel_rfl)
        refine Rp.QD (.int .i64 (n:Int)) (Rp.Qe rfl) bF ?_ rfl hK
        clear f hK df
        go_simp
        try rfl
      refine Rp.Jw.cons (λa W K f df hK=>?_) ?_
      . have db:a.tmps[10]?.getD undef=.pointer (some ⟨q,0,none⟩):=Rp.Q0 f 2 0 10 (by kernel_rfl);have cy:a.tmps[19]?.getD undef=.int .i64 (n:Int):=Rp.Q0 f 2 9 19 (by kernel_rfl);have Y:Below wc.heap.size wc W:=f.kp;have ak:Rd W q ba bc bs z:=H1.o.r.keep Y
        refine Rp.st_fall (Rp.Qe rfl) ?_ (Calls.mono (KB.o W ak) (by
         rintro e w2 ⟨J,aj⟩
         refine ⟨_,aj,df,?_⟩
         rw [ao.o]
         exact ⟨rfl,(H1.o.keep Y H1.o.lt).bl J⟩))
        clear f hK df
        go_simp
        try rfl
      refine Rp.Jw.cons (λa W K f df hK=>?_) ?_
      . have e2:a.tmps[2]?.getD undef=.pointer (some ⟨X,0,none⟩):=(Rp.Xu f 2 (by kernel_rfl)).trans rfl
        refine Rp.QD (.pointer (some ⟨X,2,none⟩)) (Rp.Qe rfl) bF ?_ rfl hK
        clear f hK df
        go_simp
        try rfl
      refine Rp.Jw.cons (λa W K f df hK=>?_) ?_
      . exact (Rp.Q0 f 4 10 20 (by kernel_rfl)).elim
      exact Rp.Jw.nil
    . intro a V F
      exact (F.va 10 (show 10<13 by decide)).elim
  have b4:Hid (Jk 0 d m bs bc.E p=.ok { m with customs:=m.customs++[⟨d,a,l⟩] } p2):=by show _=_;rw [aa.o,hY];rfl
  have cd:=up_bytes bs n z l p2 hY;rw [hY] at KB;clear hY aa
  go_wp2_with fail
  go_cut [2] from 3 (λt2 V=>t2=.pointer (some ⟨X,0,none⟩)/\∃ v,Sm B w0 q ba bc bs p2 (bR v l::L.flatten) V/\Bk V X [.int .i64 d,.string a,v])
  case first =>
   go_region_law (first|(go_simp;refine Calls.mono (KB.o _ (by first|exact H1.o.r|exact H1.o.r.drewN _)) ?_;rintro e w3 ⟨D,v3,rfl,C,az⟩;obtain ⟨av,ar,rfl⟩:∃ a c,v3=.slice a l.length c:=Qc.Ok.slice C.head;replace D:wc.grownBy w3 (some q):=⟨D.os,D.tape,D.output,D.size,D.block⟩;have H3:=Hm ((H1.o.rows H1.o.sz D az C).perm List.perm_append_comm);have M:=a8.o.grownR D (by simpa using λe=>bo e.symm);have dc:=M.2.1 2 _ rfl;have cq:=M.2.2 2;have b8:=Hm M;have a3:X ∉ blk (bR (.slice av l.length ar) l::L.flatten):=blk_cons_not C.head bq bp;have b2:=Hm a3;clear D az C M a3))
   all_goals go_wp2_with fail
   all_goals go_meet
   all_goals exact ⟨rfl,_,H3.o.far bv b2.o 2 _,by have:=b8.o.set (j:=2) (v:=.slice av l.length ar);simpa using this⟩
  case rest =>
   obtain ⟨rfl,v,A,O⟩:=hcut;obtain ⟨S,R,rfl⟩:∃ a c,v=.slice a l.length c:=Qc.Ok.slice A.o.head
   have ah:=A.perm (show (bR (.slice S l.length R) l::L.flatten).Perm (⟨72,3,m.customs.length,.slice va m.customs.length vc,c0⟩::((L.eraseIdx 10).flatten++(k0++[bR (.slice S l.length R) l]))) from ((b3.o.cons _).trans (by
    rw [show (⟨72,3,m.customs.length,.slice va m.customs.length vc,c0⟩:Qc)::((L.eraseIdx 10).flatten++(k0++[bR (.slice S l.length R) l]))=((⟨72,3,m.customs.length,.slice va m.customs.length vc,c0⟩:Qc)::((L.eraseIdx 10).flatten++k0))++[bR (.slice S l.length R) l] by simp]
    exact (List.perm_append_comm (l₁:=[bR (.slice S l.length R) l]))))) 
   have H2:=Hm ah;have y0:=O.2.1 0 _ rfl;have y1:=O.2.1 1 _ rfl;have y2:=O.2.1 2 _ rfl;have cc:wc.cell? ⟨q,15,none⟩=some (.slice va m.customs.length vc):=A.r.rst 12 _ ay;have fc:=A.r.fz 15;have bx:∀ o,(wc.alloc o).cell? ⟨q,15,none⟩=some (.slice va m.customs.length vc):=λo=>(World.cell?_of_block (QF wc o q A.r.lt)).trans cc;have OW:Hid (∀ o,(wc.alloc o).ownsRow B 72 3 (.slice va m.customs.length vc) m.customs.length c0):=λo=>World.ownsRow.alloc ah.o.head o;have bk:=A.r.lt;have bu:=A.sz;have ce:=A.r.le;clear A ah O H1 a8 KB ay
   go_wp2_with fail
   go_region_law (first|(refine Qv rfl (.tmp 27) (.tmp 29) 32 rfl B 72 i0 (.agg #[.int .i64 0,.string ByteArray.empty,.slice none 0 0]) 3 48 Tryz.underlying32 hi bj bh bg rfl (by decide) (.slice va m.customs.length vc) m.customs.length c0 (by first|rfl|simp [Act.eval,Act.put]) (OW.o _) ⟨wc.heap.size,0,none⟩ 1 1 [.int .i64 d,.string a,.slice S l.length R] (by first|rfl|simp [Act.eval,Act.put]) rfl (Jd wc [.int .i64 d,.string a,.slice S l.length R] 72) (by simp [Value.oneCell']) (by unfold maxLen;omega) (by omega) (by show B<=(wc.alloc _).heap.size;simp;omega) ?_;intro v3 w3 U H a2;have HE:=Hm (Sm.put (i:=12) (r':=⟨72,3,m.customs.length+1,v3,c0++([.int .i64 d,.string a,.slice S l.length R]:List Value)⟩) H2.o bu (by decide) (World.grownBy.refl _ _) H2.o.r (Own.nil _ _) (show (wc.alloc _).grownBy w3 _ from ⟨H.os,H.tape,H.output,H.size,H.block⟩) U a2);have e3:w3.cell? ⟨q,15,none⟩=some (.slice va m.customs.length vc):=H.cell (bx _) (λe=>H2.o.qn (Qn.2 ⟨_,mS,e.symm⟩));have cw:w3.frozen? ⟨q,15,none⟩=false:=GV H (by show q<(wc.alloc _).heap.size;simp;omega) (λe=>H2.o.qn (Qn.2 ⟨_,mS,e.symm⟩)) ((World.frozen?_of_block (QF wc _ q bk)).trans fc);obtain ⟨aw,au,rfl⟩:∃ a c,v3=.slice a (m.customs.length+1) c:=Qc.Ok.slice (r:=⟨72,3,m.customs.length+1,v3,c0++([.int .i64 d,.string a,.slice S l.length R]:List Value)⟩) U;clear U H a2))
   all_goals go_wp2_with fail
   all_goals go_end0
   all_goals
    rw [b4.o];have s:p<=p2:=by omega
    have bm:(m.customs++[(⟨d,a,l⟩:Cus)]).length<=p2:=by simp;omega
    have bt:LR RCus (m.customs++[(⟨d,a,l⟩:Cus)]) _ _:=b5.o.snoc (show RCus ⟨d,a,l⟩ [.int .i64 d,.string a,.slice S l.length R] [bR (.slice S l.length R) l] from ⟨_,rfl,rfl⟩)
    refine ⟨_,_,rfl,HR.o.set_customs (u:=.slice aw (m.customs.length+1) au) bt,by rw [List.getElem?_set_ne (by decide)],by rw [List.getElem?_set_ne (by decide)],⟨Nat.le_trans g.types s,Nat.le_trans g.imps s,Nat.le_trans g.funcs s,Nat.le_trans g.tabs s,Nat.le_trans g.mems s,Nat.le_trans g.globs s,Nat.le_trans g.exps s,Nat.le_trans g.elems s,Nat.le_trans g.codes s,Nat.le_trans g.datas s,bm⟩,?_⟩
    have a1:=HE.o.perm (rs':=(L.set 10 (⟨72,3,(m.customs++[(⟨d,a,l⟩:Cus)]).length,.slice aw (m.customs.length+1) au,c0++([.int .i64 d,.string a,.slice S l.length R]:List Value)⟩::(k0++[bR (.slice S l.length R) l]))).flatten) (by
     rw [List.append_nil,show (m.customs++[(⟨d,a,l⟩:Cus)]).length=m.customs.length+1 by simp]
     exact JO.back (by rw [HR.o.ll];decide))
    exact a1
end Go.Proofs.YtedcmcdbejjgcaaGreat
