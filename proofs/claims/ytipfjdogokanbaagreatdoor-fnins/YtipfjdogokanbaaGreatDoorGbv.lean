import Derived.Test.YtipfjdogokanbaaGreatDoorGaa
import Derived.Test.YtipfjdogokanbaaGreatDoorGbu
set_option linter.all false
set_option maxHeartbeats 400000000
set_option maxRecDepth 100000
set_option linter.all false
namespace Go.Proofs.YtipfjdogokanbaaGreatDoor.Yz
open Go.RowKit Go.Sort
theorem form_op (op:Int):(Qd (Qb op)=7->op=65)/\(Qd (Qb op)=8->op=66)/\(Qd (Qb op)=9->op=67)/\(Qd (Qb op)=10->op=68):=by
 by_cases h:0<=op/\op<192
 . have e:=of_decide_eq_true (rng 0 192 (λi=>decide ((Qd (tbl.getD i Z0)=7->i=65)/\(Qd (tbl.getD i Z0)=8->i=66)/\(Qd (tbl.getD i Z0)=9->i=67)/\(Qd (tbl.getD i Z0)=10->i=68))) (by decide +kernel) op (by omega) (by omega));have er:Qb op=tbl.getD op.toNat Z0:=by simp only [Qb,h,and_self,if_true]
   rw [<- er] at e
   exact ⟨λk=>by have:=e.1 k;omega,λk=>by have:=e.2.1 k;omega,λk=>by have:=e.2.2.1 k;omega,λk=>by have:=e.2.2.2 k;omega⟩
 . have er:Qb op=Z0:=by simp only [Qb,h,if_false]
   have e0:Qd Z0=-1:=by decide
   rw [er,e0]
   exact ⟨λk=>absurd k (by decide),λk=>absurd k (by decide),λk=>absurd k (by decide),λk=>absurd k (by decide)⟩
theorem Sx.drew {w:World}{p X:Nat}{ra:Option Addr}{r:List Wd}{bd:Bool}{a b c d e:Value}{V:World}(h:Sx w p X ra r bd a b c d e V):Sx w p X ra r bd a b c d e V.drew:=h.call (QD (Below.refl _ _).drew) (h.pb.keep (Below.refl _ _).drew)
theorem sri_1 (p b o c:Nat)(s:Wd)(r:List Wd)(w:World)(h:Pb w p false)(hb:b<p)(hc:∀ i,i<(s::r).length->w.cell? ⟨b,o+i,none⟩=some (.string (S ((s::r).getD i []))))(hcap:(s::r).length<=c)(hl:∀ x ∈ s::r,x.length<=1099511627776)(hrl:r.length<=1099511627776)(hf:Qd (Qb (Qz s))=1) :
    Calls Tryz.prog 42 #[.pointer (some ⟨p,0,none⟩),.slice (some ⟨b,o,none⟩) (s::r).length c] w (SiP 1 (Qz s) r w p):=by
 have cx:=hc 0 (by simp)
 simp only [Nat.add_zero,List.getD_cons_zero] at cx
 obtain ⟨W,hW⟩:∃ W,W=w.alloc (.cells #[.int .i64 0,.int .i64 0,.int .i64 0,.int .u64 0,.slice none 0 0] 26):=⟨_,rfl⟩;have hbW:Below w.heap.size w W:=by rw [hW];exact (Below.refl _ _).alloc (Nat.le_refl _) _
 have hsW:Hid (W.heap.size=w.heap.size+1):=by show _=_;rw [hW];simp
 have hzW:C5 W w.heap.size 0 (.int .i64 0) (.int .i64 0) (.int .i64 0) (.int .u64 0) (.slice none 0 0):=by rw [hW];exact C5.new
 have cxW:W.cell? ⟨b,o,none⟩=some (.string (S s)):=(hbW.cell (p:=⟨b,o,none⟩) (World.block_lt_of_cell? w _ cx)).trans cx;have KC:=Hm (scode_c (S s) W);rw [QO] at KC;have HW:=Hm hW
 simp only [List.length_cons] at hcap⊢
 have HWV:=Hm (wv_rest hb hc hcap);have hlr:∀ x ∈ r,x.length<=1099511627776:=λx hx=>hl x (by simp [hx]);have HL:=Hm hlr;have HPB:=Hm h;have hplt:=h.lt;have KF:=Hm (λU=>Qr (Qz s) U);rw [hf] at KF;clear cx hW hc hl hlr h hf;generalize Qz s=op at *
 go_enter Tryz.func42,Tryz.ntmps42
 go_upto_region 1 with fail
 rw [<- HW.o]
 go_wp2_with fail
 refine KC.o.mono ?_
 rintro e w1 ⟨rfl,hb1⟩
 go_upto_region 3 with fail
 generalize (if c=1 then (some ⟨b,o,none⟩:Option Addr) else some ⟨b,o+1,none⟩)=ra at *;generalize c-1=rc at *;have hx1:w.heap.size<w1.heap.size:=by have:=hb1.size;have:=hsW.o;omega
 have hbU:Below w.heap.size w w1:=hbW.trans (hb1.mono (by have:=hsW.o;omega));have hz1:C5 w1 w.heap.size 0 (.int .i64 0) (.int .i64 0) (.int .i64 0) (.int .u64 0) (.slice none 0 0):=hzW.keep hb1
 refine Qj (λU=>Sx w p w1.heap.size ra r false (.int .i64 op) (.int .i64 0) (.int .i64 0) (.int .u64 0) (.slice none 0 0) U) ⟨C5.new,hz1.past,HPB.o.keep (hbU.alloc hbU.size _),QD (hbU.alloc hbU.size _),HWV.o.keep (hbU.alloc hbU.size _) hplt,hplt,hx1⟩ ?_
 rintro U SU0;have SU:=Hm SU0;have x0:=SU0.x.1.1;clear SU0 HWV HPB hbW hsW hzW cxW KC HW hcap hb1 hbU hz1 hx1
 go_wp2_with fail
 refine (KF.o _).mono ?_
 rintro e w2 ⟨rfl,rfl⟩;clear KF x0;have x1:=SU.o.x.1.2.1;have xf1:=SU.o.x.2 1
 simp only [Nat.zero_add] at x1 xf1
 go_upto_region 11 with fail
 refine Qj (λV=>Sx w p w1.heap.size ra r false (.int .i64 op) (.int .i64 64) (.int .i64 0) (.int .u64 0) (.slice none 0 0) V) SU.o.set1 ?_
 rintro V4 SV0;have SV:=Hm SV0;clear SV0 x1 xf1 SU
 match r,hrl,HL,SV with
 |[],hrl,HL,SV =>
  obtain ⟨⟨x0,x1,x2,x3,x4⟩,-⟩:=SV.o.x;obtain ⟨⟨z0,z1,z2,z3,z4⟩,zf⟩:=SV.o.z
  simp only [Nat.zero_add] at x0 x1 x2 x3 x4 z0 z1 z2 z3 z4
  have zf0:=zf 0;have zf1:=zf 1;have zf2:=zf 2;have zf3:=zf 3;have zf4:=zf 4;clear zf
  go_wp2
  refine Qf (λV=>C5 V w.heap.size 0 (.int .i64 op) (.int .i64 64) (.int .i64 0) (.int .u64 0) (.slice none 0 0)/\Pb V p false/\w.grownBy V (some p)) (SV.o.fin _ _ _ _ _) ?_
  rintro V ⟨⟨⟨t0,t1,t2,t3,t4⟩,-⟩,tU,gU⟩
  simp only [Nat.zero_add] at t0 t1 t2 t3 t4
  have HU:=Hm (And.intro tU gU);clear tU gU x0 x1 x2 x3 x4 z0 z1 z2 z3 z4 zf0 zf1 zf2 zf3 zf4
  exact bodyPost_ret (v:=inV ⟨op,64,0,0,[]⟩ none 0) (by simp [results,Tryz.results42,go_sem,t0,t1,t2,t3,t4]) rfl ⟨⟨op,64,0,0,[]⟩,none,0,false,rfl,rfl,QI _,HU.o.1,HU.o.2,λ_=>⟨by decide,by rw [arg_1];exact .inl ⟨rfl,rfl⟩⟩,λ_ _=>rfl⟩
 |[t],hrl,HL,SV =>
  rcases SV.o.wv with e|⟨b5,o5,rfl,hb5,hc5⟩
  . cases e
  have ct:=hc5 0 (by simp)
  simp only [Nat.add_zero,List.getD_cons_zero] at ct
  clear hc5;have KT:=Hm (sty_c t V4)
  simp only [List.length_cons,List.length_nil]
  cases hty:(tyN t==0) with
  |false =>
   rw [hty] at KT;have HTY:=Hm hty;clear hty
   go_wp2_with fail
   refine KT.o.mono ?_
   rintro e w5 ⟨rfl,rfl⟩;have x1:=SV.o.x.1.2.1;have xf1:=SV.o.x.2 1
   simp only [Nat.zero_add] at x1 xf1
   clear KT
   go_upto_region 46 with fail
   refine Qj (λV=>Sx w p w1.heap.size (some ⟨b5,o5,none⟩) [t] false (.int .i64 op) (.int .i64 (tyN t)) (.int .i64 0) (.int .u64 0) (.slice none 0 0) V) SV.o.set1 ?_
   rintro V6 SY0;have SY:=Hm SY0;clear SY0 x1 xf1 SV;obtain ⟨⟨x0,x1,x2,x3,x4⟩,-⟩:=SY.o.x;obtain ⟨⟨z0,z1,z2,z3,z4⟩,zf⟩:=SY.o.z
   simp only [Nat.zero_add] at x0 x1 x2 x3 x4 z0 z1 z2 z3 z4
   have zf0:=zf 0;have zf1:=zf 1;have zf2:=zf 2;have zf3:=zf 3;have zf4:=zf 4;clear zf
   go_wp2
   refine Qf (λV=>C5 V w.heap.size 0 (.int .i64 op) (.int .i64 (tyN t)) (.int .i64 0) (.int .u64 0) (.slice none 0 0)/\Pb V p false/\w.grownBy V (some p)) (SY.o.fin _ _ _ _ _) ?_
   rintro V ⟨⟨⟨t0,t1,t2,t3,t4⟩,-⟩,tU,gU⟩
   simp only [Nat.zero_add] at t0 t1 t2 t3 t4
   have HU:=Hm (And.intro tU gU);clear tU gU x0 x1 x2 x3 x4 z0 z1 z2 z3 z4 zf0 zf1 zf2 zf3 zf4
   exact bodyPost_ret (v:=inV ⟨op,tyN t,0,0,[]⟩ none 0) (by simp [results,Tryz.results42,go_sem,t0,t1,t2,t3,t4]) rfl ⟨⟨op,tyN t,0,0,[]⟩,none,0,false,rfl,rfl,QI _,HU.o.1,HU.o.2,λ_=>⟨by decide,by rw [arg_1];exact .inr ⟨t,rfl,by simpa using HTY.o,rfl⟩⟩,λ_ _=>rfl⟩
  |true =>
   rw [hty] at KT;have HTY:=Hm hty;clear hty
   go_wp2_with fail
   refine KT.o.mono ?_
   rintro e w5 ⟨rfl,rfl⟩;have x1:=SV.o.x.1.2.1;have xf1:=SV.o.x.2 1
   simp only [Nat.zero_add] at x1 xf1
   clear KT
   go_upto_region 14 with fail
   refine Qj (λV=>Sx w p w1.heap.size (some ⟨b5,o5,none⟩) [t] false (.int .i64 op) (.int .i64 (tyN t)) (.int .i64 0) (.int .u64 0) (.slice none 0 0) V) SV.o.set1 ?_
   rintro V6 SY0;have SY:=Hm SY0;clear SY0 x1 xf1 SV;have KB:=Hm (JP p _ _ SY.o.pb)
   go_wp2_with fail
   refine KB.o.mono ?_
   rintro e w9 ⟨rfl,hpb,hgb⟩;have S9:=Hm (SY.o.call hgb hpb);clear hpb hgb KB SY;obtain ⟨⟨x0,x1,x2,x3,x4⟩,-⟩:=S9.o.x;obtain ⟨⟨z0,z1,z2,z3,z4⟩,zf⟩:=S9.o.z
   simp only [Nat.zero_add] at x0 x1 x2 x3 x4 z0 z1 z2 z3 z4
   have zf0:=zf 0;have zf1:=zf 1;have zf2:=zf 2;have zf3:=zf 3;have zf4:=zf 4;clear zf
   go_wp2
   refine Qf (λV=>C5 V w.heap.size 0 (.int .i64 op) (.int .i64 (tyN t)) (.int .i64 0) (.int .u64 0) (.slice none 0 0)/\Pb V p true/\w.grownBy V (some p)) (S9.o.fin _ _ _ _ _) ?_
   rintro V ⟨⟨⟨t0,t1,t2,t3,t4⟩,-⟩,tU,gU⟩
   simp only [Nat.zero_add] at t0 t1 t2 t3 t4
   have HU:=Hm (And.intro tU gU);clear tU gU x0 x1 x2 x3 x4 z0 z1 z2 z3 z4 zf0 zf1 zf2 zf3 zf4
   exact bodyPost_ret (v:=inV ⟨op,tyN t,0,0,[]⟩ none 0) (by simp [results,Tryz.results42,go_sem,t0,t1,t2,t3,t4]) rfl ⟨⟨op,tyN t,0,0,[]⟩,none,0,true,rfl,rfl,QI _,HU.o.1,HU.o.2,λh=>absurd h (by decide),λ_ ⟨y,hy⟩=>by rw [arg_1] at hy;exact hy.elim (λh=>absurd h.1 (by simp)) (λ⟨t2,h,hn,_⟩=>by cases h;exact absurd (by simpa using HTY.o) hn)⟩
 |t::t2::r,hrl,HL,SV =>
  have hl2:(1:Int)<(r.length:Int)+1+1:=by omega
  simp only [List.length_cons]
  have KB:=Hm (JP p _ _ SV.o.pb)
  go_wp2_with fail
  refine KB.o.mono ?_
  rintro e w9 ⟨rfl,hpb,hgb⟩;have S9:=Hm (SV.o.call hgb hpb);clear hpb hgb KB SV;obtain ⟨⟨x0,x1,x2,x3,x4⟩,-⟩:=S9.o.x;obtain ⟨⟨z0,z1,z2,z3,z4⟩,zf⟩:=S9.o.z
  simp only [Nat.zero_add] at x0 x1 x2 x3 x4 z0 z1 z2 z3 z4
  have zf0:=zf 0;have zf1:=zf 1;have zf2:=zf 2;have zf3:=zf 3;have zf4:=zf 4;clear zf
  go_wp2
  refine Qf (λV=>C5 V w.heap.size 0 (.int .i64 op) (.int .i64 64) (.int .i64 0) (.int .u64 0) (.slice none 0 0)/\Pb V p true/\w.grownBy V (some p)) (S9.o.fin _ _ _ _ _) ?_
  rintro V ⟨⟨⟨t0,t1,t2,t3,t4⟩,-⟩,tU,gU⟩
  simp only [Nat.zero_add] at t0 t1 t2 t3 t4
  have HU:=Hm (And.intro tU gU);clear tU gU x0 x1 x2 x3 x4 z0 z1 z2 z3 z4 zf0 zf1 zf2 zf3 zf4
  exact bodyPost_ret (v:=inV ⟨op,64,0,0,[]⟩ none 0) (by simp [results,Tryz.results42,go_sem,t0,t1,t2,t3,t4]) rfl ⟨⟨op,64,0,0,[]⟩,none,0,true,rfl,rfl,QI _,HU.o.1,HU.o.2,λh=>absurd h (by decide),λ_ ⟨y,hy⟩=>by rw [arg_1] at hy;exact hy.elim (λh=>absurd h.1 (by simp)) (λ⟨t2,h,_⟩=>absurd h (by simp))⟩
end Go.Proofs.YtipfjdogokanbaaGreatDoor.Yz
set_option linter.all false
namespace Go.Proofs.YtipfjdogokanbaaGreatDoor.Yz
open Go.RowKit Go.Sort
theorem own_cells {w:World}{B:Nat}{v:Value}{vs:List Int}(h:w.ownsRow B 2 1 v vs.length (I vs))(hn:1<=vs.length):∃ g cap,v=.slice (some ⟨g,0,none⟩) vs.length cap/\B<=g/\vs.length<=cap/\∀ i,i<vs.length->w.cell? ⟨g,i,none⟩=some (.int .i64 (vs.getD i 0)):=by
 rcases h.2 with ⟨_,h0⟩|⟨g,cap,cur,hv,hB,hg,hc,_⟩
 . omega
 . subst hv
   refine ⟨g,cap,rfl,hB,hc,λi hi=>?_⟩
   rw [h.cellAt i (by omega)]
   simp [I,List.getD,hi]
theorem sri_5 (p b o c:Nat)(s:Wd)(r:List Wd)(w:World)(h:Pb w p false)(hb:b<p)(hc:∀ i,i<(s::r).length->w.cell? ⟨b,o+i,none⟩=some (.string (S ((s::r).getD i []))))(hcap:(s::r).length<=c)(hl:∀ x ∈ s::r,x.length<=1099511627776)(hrl:r.length<=1099511627776)(hf:Qd (Qb (Qz s))=5) :
    Calls Tryz.prog 42 #[.pointer (some ⟨p,0,none⟩),.slice (some ⟨b,o,none⟩) (s::r).length c] w (SiP 5 (Qz s) r w p):=by
 have cx:=hc 0 (by simp)
 simp only [Nat.add_zero,List.getD_cons_zero] at cx
 obtain ⟨W,hW⟩:∃ W,W=w.alloc (.cells #[.int .i64 0,.int .i64 0,.int .i64 0,.int .u64 0,.slice none 0 0] 26):=⟨_,rfl⟩;have hbW:Below w.heap.size w W:=by rw [hW];exact (Below.refl _ _).alloc (Nat.le_refl _) _
 have hsW:Hid (W.heap.size=w.heap.size+1):=by show _=_;rw [hW];simp
 have hzW:C5 W w.heap.size 0 (.int .i64 0) (.int .i64 0) (.int .i64 0) (.int .u64 0) (.slice none 0 0):=by rw [hW];exact C5.new
 have cxW:W.cell? ⟨b,o,none⟩=some (.string (S s)):=(hbW.cell (p:=⟨b,o,none⟩) (World.block_lt_of_cell? w _ cx)).trans cx;have KC:=Hm (scode_c (S s) W);rw [QO] at KC;have HW:=Hm hW
 simp only [List.length_cons] at hcap⊢
 have HWV:=Hm (wv_rest hb hc hcap);have hlr:∀ x ∈ r,x.length<=1099511627776:=λx hx=>hl x (by simp [hx]);have HL:=Hm hlr;have HPB:=Hm h;have hplt:=h.lt;have KF:=Hm (λU=>Qr (Qz s) U);rw [hf] at KF;clear cx hW hc hl hlr h hf;generalize Qz s=op at *
 go_enter Tryz.func42,Tryz.ntmps42
 go_upto_region 1 with fail
 rw [<- HW.o]
 go_wp2_with fail
 refine KC.o.mono ?_
 rintro e w1 ⟨rfl,hb1⟩
 go_upto_region 3 with fail
 generalize (if c=1 then (some ⟨b,o,none⟩:Option Addr) else some ⟨b,o+1,none⟩)=ra at *;generalize c-1=rc at *;have hx1:w.heap.size<w1.heap.size:=by have:=hb1.size;have:=hsW.o;omega
 have hbU:Below w.heap.size w w1:=hbW.trans (hb1.mono (by have:=hsW.o;omega));have hz1:C5 w1 w.heap.size 0 (.int .i64 0) (.int .i64 0) (.int .i64 0) (.int .u64 0) (.slice none 0 0):=hzW.keep hb1
 refine Qj (λU=>Sx w p w1.heap.size ra r false (.int .i64 op) (.int .i64 0) (.int .i64 0) (.int .u64 0) (.slice none 0 0) U) ⟨C5.new,hz1.past,HPB.o.keep (hbU.alloc hbU.size _),QD (hbU.alloc hbU.size _),HWV.o.keep (hbU.alloc hbU.size _) hplt,hplt,hx1⟩ ?_
 rintro U SU0;have SU:=Hm SU0;have x0:=SU0.x.1.1;clear SU0 HWV HPB hbW hsW hzW cxW KC HW hcap hb1 hbU hz1 hx1
 go_wp2_with fail
 refine (KF.o _).mono ?_
 rintro e w2 ⟨rfl,rfl⟩;clear KF x0;have KR:=Hm (srn_c p ra rc r false _ SU.o.pb SU.o.wv HL.o hrl)
 go_wp2_with fail
 refine KR.o.mono ?_
 rintro e w3 ⟨v,vs,b2,rfl,hown,hvl,hpb,hgb,A1,A2⟩;have S3:=Hm (SU.o.call hgb hpb);have HA:=Hm (And.intro hvl (And.intro A1 A2));have hXU:w1.heap.size<U.heap.size:=World.block_lt_of_cell? U _ SU.o.x.1.1;obtain ⟨va,vc,rfl⟩:=Qw hown;clear hpb hgb A1 A2 KR SU hvl
 by_cases h2:vs.length=2
 . obtain ⟨v1,v2,rfl⟩:∃ v1 v2,vs=[v1,v2]:=by
     match vs,h2 with
     |[a,b],_=>exact ⟨a,b,rfl⟩
   obtain ⟨g,cap,e,hg,hcap2,hcc⟩:=own_cells hown (by simp)
   cases e
   have d0:=hcc 0 (by simp);have d1:=hcc 1 (by simp)
   simp only [List.getD_cons_zero,List.getD_cons_succ] at d0 d1
   simp only [List.length_cons,List.length_nil,Nat.zero_add,Nat.reduceAdd] at hcap2⊢
   have x1:=S3.o.x.1.2.1;have xf1:=S3.o.x.2 1
   simp only [Nat.zero_add] at x1 xf1
   clear hcc hown h2
   go_upto_region 34 with fail
   refine Qj (λV=>Sx w p w1.heap.size ra r b2 (.int .i64 op) (.int .i64 v1) (.int .i64 0) (.int .u64 0) (.slice none 0 0) V/\V.cell? ⟨g,1,none⟩=some (.int .i64 v2)) ⟨S3.o.set1,by rw [World.cell?_setCell_other _ _ _ _ (λe=>by have e2:w1.heap.size=g:=congrArg Addr.block e;omega)];exact d1⟩ ?_
   rintro V4 ⟨SV0,e1⟩;have SV:=Hm SV0;have y1:=SV0.x.1.2.2.1;have yf1:=SV0.x.2 2
   simp only [Nat.zero_add] at y1 yf1
   clear SV0 x1 xf1 d0 d1 S3
   go_upto_region 46 with fail
   refine Qj (λV=>Sx w p w1.heap.size ra r b2 (.int .i64 op) (.int .i64 v1) (.int .i64 v2) (.int .u64 0) (.slice none 0 0) V) SV.o.set2 ?_
   rintro V6 SY0;have SY:=Hm SY0;clear SY0 y1 yf1 e1 SV;obtain ⟨⟨x0,x1,x2,x3,x4⟩,-⟩:=SY.o.x;obtain ⟨⟨z0,z1,z2,z3,z4⟩,zf⟩:=SY.o.z
   simp only [Nat.zero_add] at x0 x1 x2 x3 x4 z0 z1 z2 z3 z4
   have zf0:=zf 0;have zf1:=zf 1;have zf2:=zf 2;have zf3:=zf 3;have zf4:=zf 4;clear zf
   go_wp2
   refine Qf (λV=>C5 V w.heap.size 0 (.int .i64 op) (.int .i64 v1) (.int .i64 v2) (.int .u64 0) (.slice none 0 0)/\Pb V p b2/\w.grownBy V (some p)) (SY.o.fin _ _ _ _ _) ?_
   rintro V ⟨⟨⟨t0,t1,t2,t3,t4⟩,-⟩,tU,gU⟩
   simp only [Nat.zero_add] at t0 t1 t2 t3 t4
   have HU:=Hm (And.intro tU gU);clear tU gU x0 x1 x2 x3 x4 z0 z1 z2 z3 z4 zf0 zf1 zf2 zf3 zf4
   exact bodyPost_ret (v := inV ⟨op, v1, v2, 0, []⟩ none 0) (by simp [results, Tryz.results42, go_sem, t0, t1, t2, t3, t4]) rfl ⟨⟨op, v1, v2, 0, []⟩, none, 0, b2, rfl, rfl, QI _, HU.o.1, HU.o.2, fun h => ⟨by decide, by
         rw [arg_5];have hn:=(HA.o.2.1 h).2
         match r,hn with
         | [s1,s2],hn=>exact ⟨s1,s2,v1,v2,rfl,hn.1,hn.2.1,rfl⟩⟩,fun _ ⟨y,hy⟩=>by
         rw [arg_5] at hy;obtain ⟨s1,s2,u1,u2,rfl,n1,n2,-⟩:=hy
         exact HA.o.2.2 trivial (fun t ht=>by
          simp at ht
          rcases ht with rfl|rfl
          . exact n1.1
          . exact n2.1)⟩
 . have hl1:¬ (vs.length:Int)=2:=by omega
   have H2:=Hm h2;clear h2 hown;have KB:=Hm (JP p _ _ S3.o.pb)
   go_wp2_with fail
   refine KB.o.mono ?_
   rintro e w9 ⟨rfl,hpb,hgb⟩;have S9:=Hm (S3.o.call hgb hpb);clear hpb hgb KB S3;obtain ⟨⟨x0,x1,x2,x3,x4⟩,-⟩:=S9.o.x;obtain ⟨⟨z0,z1,z2,z3,z4⟩,zf⟩:=S9.o.z
   simp only [Nat.zero_add] at x0 x1 x2 x3 x4 z0 z1 z2 z3 z4
   have zf0:=zf 0;have zf1:=zf 1;have zf2:=zf 2;have zf3:=zf 3;have zf4:=zf 4;clear zf
   go_wp2
   refine Qf (λV=>C5 V w.heap.size 0 (.int .i64 op) (.int .i64 0) (.int .i64 0) (.int .u64 0) (.slice none 0 0)/\Pb V p true/\w.grownBy V (some p)) (S9.o.fin _ _ _ _ _) ?_
   rintro V ⟨⟨⟨t0,t1,t2,t3,t4⟩,-⟩,tU,gU⟩
   simp only [Nat.zero_add] at t0 t1 t2 t3 t4
   have HU:=Hm (And.intro tU gU);clear tU gU x0 x1 x2 x3 x4 z0 z1 z2 z3 z4 zf0 zf1 zf2 zf3 zf4
   exact bodyPost_ret (v := inV ⟨op, 0, 0, 0, []⟩ none 0) (by simp [results, Tryz.results42, go_sem, t0, t1, t2, t3, t4]) rfl ⟨⟨op, 0, 0, 0, []⟩, none, 0, true, rfl, rfl, QI _, HU.o.1, HU.o.2, fun h => absurd h (by decide), fun _ ⟨y, hy⟩ => by
         rw [arg_5] at hy;obtain ⟨s1,s2,u1,u2,rfl,-⟩:=hy
         exact absurd HA.o.1 H2.o⟩
end Go.Proofs.YtipfjdogokanbaaGreatDoor.Yz
