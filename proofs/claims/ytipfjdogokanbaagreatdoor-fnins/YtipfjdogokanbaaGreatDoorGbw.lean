import Derived.Test.YtipfjdogokanbaaGreatDoorGaa
import Derived.Test.YtipfjdogokanbaaGreatDoorGbv
import Derived.Deep.RegionLaw
set_option linter.all false
set_option maxHeartbeats 400000000
set_option maxRecDepth 100000
set_option linter.all false
namespace Go.Proofs.YtipfjdogokanbaaGreatDoor.Yz
open Go.RowKit Go.Sort
theorem sri_z (p b o c:Nat)(s:Wd)(r:List Wd)(w:World)(h:Pb w p false)(hb:b<p)(hc:∀ i,i<(s::r).length->w.cell? ⟨b,o+i,none⟩=some (.string (S ((s::r).getD i []))))(hcap:(s::r).length<=c)(hl:∀ x ∈ s::r,x.length<=1099511627776)(hrl:r.length<=1099511627776)(kk_:Int)(hk_:kk_=7\/kk_=8\/kk_=9\/kk_=10)(hf:Qd (Qb (Qz s))=kk_) :
    Calls Tryz.prog 42 #[.pointer (some ⟨p,0,none⟩),.slice (some ⟨b,o,none⟩) (s::r).length c] w (SiP kk_ (Qz s) r w p):=by
 have cx:=hc 0 (by simp)
 simp only [Nat.add_zero,List.getD_cons_zero] at cx
 obtain ⟨W,hW⟩:∃ W,W=w.alloc (.cells #[.int .i64 0,.int .i64 0,.int .i64 0,.int .u64 0,.slice none 0 0] 26):=⟨_,rfl⟩;have hbW:Below w.heap.size w W:=by rw [hW];exact (Below.refl _ _).alloc (Nat.le_refl _) _
 have hsW:Hid (W.heap.size=w.heap.size+1):=by show _=_;rw [hW];simp
 have hzW:C5 W w.heap.size 0 (.int .i64 0) (.int .i64 0) (.int .i64 0) (.int .u64 0) (.slice none 0 0):=by rw [hW];exact C5.new
 have cxW:W.cell? ⟨b,o,none⟩=some (.string (S s)):=(hbW.cell (p:=⟨b,o,none⟩) (World.block_lt_of_cell? w _ cx)).trans cx;have KC:=Hm (scode_c (S s) W);rw [QO] at KC;have HW:=Hm hW
 simp only [List.length_cons] at hcap⊢
 have HWV:=Hm (wv_rest hb hc hcap);have hlr:∀ x ∈ r,x.length<=1099511627776:=λx hx=>hl x (by simp [hx]);have HL:=Hm hlr;have HPB:=Hm h;have hplt:=h.lt;have KF:=Hm (λU=>Qr (Qz s) U);rw [hf] at KF
 rcases hk_ with rfl|rfl|rfl|rfl
 . have hop:=(form_op (Qz s)).1 hf;clear cx hW hc hl hlr h hf;generalize Qz s=op at *;subst hop
   go_enter Tryz.func42,Tryz.ntmps42
   go_upto_region 1 with fail
   rw [<- HW.o]
   go_wp2_with fail
   refine KC.o.mono ?_
   rintro e w1 ⟨rfl,hb1⟩
   go_upto_region 3 with fail
   generalize (if c=1 then (some ⟨b,o,none⟩:Option Addr) else some ⟨b,o+1,none⟩)=ra at *;generalize c-1=rc at *;have hx1:w.heap.size<w1.heap.size:=by have:=hb1.size;have:=hsW.o;omega
   have hbU:Below w.heap.size w w1:=hbW.trans (hb1.mono (by have:=hsW.o;omega));have hz1:C5 w1 w.heap.size 0 (.int .i64 0) (.int .i64 0) (.int .i64 0) (.int .u64 0) (.slice none 0 0):=hzW.keep hb1
   refine Qj (λU=>Sx w p w1.heap.size ra r false (.int .i64 65) (.int .i64 0) (.int .i64 0) (.int .u64 0) (.slice none 0 0) U) ⟨C5.new,hz1.past,HPB.o.keep (hbU.alloc hbU.size _),QD (hbU.alloc hbU.size _),HWV.o.keep (hbU.alloc hbU.size _) hplt,hplt,hx1⟩ ?_
   rintro U SU0;have SU:=Hm SU0;have x0:=SU0.x.1.1;clear SU0 HWV HPB hbW hsW hzW cxW KC HW hcap hb1 hbU hz1 hx1
   go_wp2_with fail
   refine (KF.o _).mono ?_
   rintro e w2 ⟨rfl,rfl⟩;clear KF x0
   match r,hrl,HL,SU with
   |[],hrl,HL,SU =>
    simp only [List.length_nil]
    have KB:=Hm (JP p _ _ SU.o.pb)
    go_wp2_with fail
    refine KB.o.mono ?_
    rintro e w9 ⟨rfl,hpb,hgb⟩;have S9:=Hm (SU.o.call hgb hpb);clear hpb hgb KB SU;obtain ⟨⟨x0,x1,x2,x3,x4⟩,-⟩:=S9.o.x;obtain ⟨⟨z0,z1,z2,z3,z4⟩,zf⟩:=S9.o.z
    simp only [Nat.zero_add] at x0 x1 x2 x3 x4 z0 z1 z2 z3 z4
    have zf0:=zf 0;have zf1:=zf 1;have zf2:=zf 2;have zf3:=zf 3;have zf4:=zf 4;clear zf
    go_wp2
    refine Qf (λV=>C5 V w.heap.size 0 (.int .i64 65) (.int .i64 0) (.int .i64 0) (.int .u64 0) (.slice none 0 0)/\Pb V p true/\w.grownBy V (some p)) (S9.o.fin _ _ _ _ _) ?_
    rintro V ⟨⟨⟨t0,t1,t2,t3,t4⟩,-⟩,tU,gU⟩
    simp only [Nat.zero_add] at t0 t1 t2 t3 t4
    have HU:=Hm (And.intro tU gU);clear tU gU x0 x1 x2 x3 x4 z0 z1 z2 z3 z4 zf0 zf1 zf2 zf3 zf4
    exact bodyPost_ret (v:=inV ⟨65,0,0,0,[]⟩ none 0) (by simp [results,Tryz.results42,go_sem,t0,t1,t2,t3,t4]) rfl ⟨⟨65,0,0,0,[]⟩,none,0,true,rfl,rfl,QI _,HU.o.1,HU.o.2,λh=>absurd h (by decide),λ_ ⟨y,hy⟩=>by rw [arg_7] at hy;obtain ⟨s2,v2,e2,-⟩:=hy;cases e2⟩
   |t::t2::r,hrl,HL,SU =>
    simp only [List.length_cons]
    have KB:=Hm (JP p _ _ SU.o.pb)
    go_wp2_with fail
    refine KB.o.mono ?_
    rintro e w9 ⟨rfl,hpb,hgb⟩;have S9:=Hm (SU.o.call hgb hpb);clear hpb hgb KB SU;obtain ⟨⟨x0,x1,x2,x3,x4⟩,-⟩:=S9.o.x;obtain ⟨⟨z0,z1,z2,z3,z4⟩,zf⟩:=S9.o.z
    simp only [Nat.zero_add] at x0 x1 x2 x3 x4 z0 z1 z2 z3 z4
    have zf0:=zf 0;have zf1:=zf 1;have zf2:=zf 2;have zf3:=zf 3;have zf4:=zf 4;clear zf
    go_wp2
    refine Qf (λV=>C5 V w.heap.size 0 (.int .i64 65) (.int .i64 0) (.int .i64 0) (.int .u64 0) (.slice none 0 0)/\Pb V p true/\w.grownBy V (some p)) (S9.o.fin _ _ _ _ _) ?_
    rintro V ⟨⟨⟨t0,t1,t2,t3,t4⟩,-⟩,tU,gU⟩
    simp only [Nat.zero_add] at t0 t1 t2 t3 t4
    have HU:=Hm (And.intro tU gU);clear tU gU x0 x1 x2 x3 x4 z0 z1 z2 z3 z4 zf0 zf1 zf2 zf3 zf4
    exact bodyPost_ret (v:=inV ⟨65,0,0,0,[]⟩ none 0) (by simp [results,Tryz.results42,go_sem,t0,t1,t2,t3,t4]) rfl ⟨⟨65,0,0,0,[]⟩,none,0,true,rfl,rfl,QI _,HU.o.1,HU.o.2,λh=>absurd h (by decide),λ_ ⟨y,hy⟩=>by rw [arg_7] at hy;obtain ⟨s2,v2,e2,-⟩:=hy;cases e2⟩
   |[t],hrl,HL,SU =>
    rcases SU.o.wv with e|⟨b5,o5,rfl,hb5,hc5⟩
    . cases e
    have ct:=hc5 0 (by simp)
    simp only [Nat.add_zero,List.getD_cons_zero] at ct
    clear hc5;have KN:=Hm (λV=>con65_c t V (HL.o t (by simp)));have x0:=SU.o.x.1.1;have x3:=SU.o.x.1.2.2.2.1;have xf3:=SU.o.x.2 3
    simp only [Nat.zero_add] at x3 xf3
    have S5:=Hm SU.o.drew
    simp only [List.length_cons,List.length_nil]
    cases hok:okN (-2147483648) 2147483647 t with
    |true =>
     rw [hok] at KN;have HOK:=Hm hok;clear hok
     go_upto_region 42 with fail
     go_region_law (first
      | (go_simp
         refine (KN.o _).mono ?_
         rintro e w5 ⟨rfl,v,rfl,hv⟩;have HV:=Hm hv;clear hv))
     all_goals
      go_upto_region 44 with fail
      refine Qj (λV=>Sx w p w1.heap.size (some ⟨b5,o5,none⟩) [t] false (.int .i64 65) (.int .i64 0) (.int .i64 0) (.int .u64 v) (.slice none 0 0) V) S5.o.set3 ?_
      rintro V6 SY0;have SY:=Hm SY0;clear SY0 x0 x3 xf3 S5 SU;obtain ⟨⟨x0,x1,x2,x3,x4⟩,-⟩:=SY.o.x;obtain ⟨⟨z0,z1,z2,z3,z4⟩,zf⟩:=SY.o.z
      simp only [Nat.zero_add] at x0 x1 x2 x3 x4 z0 z1 z2 z3 z4
      have zf0:=zf 0;have zf1:=zf 1;have zf2:=zf 2;have zf3:=zf 3;have zf4:=zf 4;clear zf
      go_wp2
      refine Qf (λV=>C5 V w.heap.size 0 (.int .i64 65) (.int .i64 0) (.int .i64 0) (.int .u64 v) (.slice none 0 0)/\Pb V p false/\w.grownBy V (some p)) (SY.o.fin _ _ _ _ _) ?_
      rintro V ⟨⟨⟨t0,t1,t2,t3,t4⟩,-⟩,tU,gU⟩
      simp only [Nat.zero_add] at t0 t1 t2 t3 t4
      have HU:=Hm (And.intro tU gU);clear tU gU x0 x1 x2 x3 x4 z0 z1 z2 z3 z4 zf0 zf1 zf2 zf3 zf4
      exact bodyPost_ret (v:=inV ⟨65,0,0,v,[]⟩ none 0) (by simp [results,Tryz.results42,go_sem,t0,t1,t2,t3,t4]) rfl ⟨⟨65,0,0,v,[]⟩,none,0,false,rfl,rfl,QI _,HU.o.1,HU.o.2,λ_=>⟨by decide,by rw [arg_7];obtain ⟨v',h1,rfl⟩:=HV.o trivial;exact ⟨t,v',rfl,⟨HOK.o,h1⟩,rfl⟩⟩,λ_ _=>rfl⟩
    |false =>
     rw [hok] at KN;have HOK:=Hm hok;clear hok
     go_upto_region 42 with fail
     go_region_law (first
      | (go_simp
         refine (KN.o _).mono ?_
         rintro e w5 ⟨rfl,v,rfl,hv⟩;have HV:=Hm hv;clear hv))
     all_goals
      go_upto_region 44 with fail
      refine Qj (λV=>Sx w p w1.heap.size (some ⟨b5,o5,none⟩) [t] false (.int .i64 65) (.int .i64 0) (.int .i64 0) (.int .u64 v) (.slice none 0 0) V) S5.o.set3 ?_
      rintro V6 SY0;have SY:=Hm SY0;clear SY0 x0 x3 xf3 S5 SU;have KB:=Hm (JP p _ _ SY.o.pb)
      go_wp2_with fail
      refine KB.o.mono ?_
      rintro e w9 ⟨rfl,hpb,hgb⟩;have S9:=Hm (SY.o.call hgb hpb);clear hpb hgb KB SY;obtain ⟨⟨x0,x1,x2,x3,x4⟩,-⟩:=S9.o.x;obtain ⟨⟨z0,z1,z2,z3,z4⟩,zf⟩:=S9.o.z
      simp only [Nat.zero_add] at x0 x1 x2 x3 x4 z0 z1 z2 z3 z4
      have zf0:=zf 0;have zf1:=zf 1;have zf2:=zf 2;have zf3:=zf 3;have zf4:=zf 4;clear zf
      go_wp2
      refine Qf (λV=>C5 V w.heap.size 0 (.int .i64 65) (.int .i64 0) (.int .i64 0) (.int .u64 v) (.slice none 0 0)/\Pb V p true/\w.grownBy V (some p)) (S9.o.fin _ _ _ _ _) ?_
      rintro V ⟨⟨⟨t0,t1,t2,t3,t4⟩,-⟩,tU,gU⟩
      simp only [Nat.zero_add] at t0 t1 t2 t3 t4
      have HU:=Hm (And.intro tU gU);clear tU gU x0 x1 x2 x3 x4 z0 z1 z2 z3 z4 zf0 zf1 zf2 zf3 zf4
      exact bodyPost_ret (v:=inV ⟨65,0,0,v,[]⟩ none 0) (by simp [results,Tryz.results42,go_sem,t0,t1,t2,t3,t4]) rfl ⟨⟨65,0,0,v,[]⟩,none,0,true,rfl,rfl,QI _,HU.o.1,HU.o.2,λh=>absurd h (by decide),λ_ ⟨y,hy⟩=>by rw [arg_7] at hy;obtain ⟨s2,v2,e2,hn,-⟩:=hy;cases e2;exact absurd hn.1 (by rw [HOK.o];decide)⟩
 . have hop:=(form_op (Qz s)).2.1 hf;clear cx hW hc hl hlr h hf;generalize Qz s=op at *;subst hop
   go_enter Tryz.func42,Tryz.ntmps42
   go_upto_region 1 with fail
   rw [<- HW.o]
   go_wp2_with fail
   refine KC.o.mono ?_
   rintro e w1 ⟨rfl,hb1⟩
   go_upto_region 3 with fail
   generalize (if c=1 then (some ⟨b,o,none⟩:Option Addr) else some ⟨b,o+1,none⟩)=ra at *;generalize c-1=rc at *;have hx1:w.heap.size<w1.heap.size:=by have:=hb1.size;have:=hsW.o;omega
   have hbU:Below w.heap.size w w1:=hbW.trans (hb1.mono (by have:=hsW.o;omega));have hz1:C5 w1 w.heap.size 0 (.int .i64 0) (.int .i64 0) (.int .i64 0) (.int .u64 0) (.slice none 0 0):=hzW.keep hb1
   refine Qj (λU=>Sx w p w1.heap.size ra r false (.int .i64 66) (.int .i64 0) (.int .i64 0) (.int .u64 0) (.slice none 0 0) U) ⟨C5.new,hz1.past,HPB.o.keep (hbU.alloc hbU.size _),QD (hbU.alloc hbU.size _),HWV.o.keep (hbU.alloc hbU.size _) hplt,hplt,hx1⟩ ?_
   rintro U SU0;have SU:=Hm SU0;have x0:=SU0.x.1.1;clear SU0 HWV HPB hbW hsW hzW cxW KC HW hcap hb1 hbU hz1 hx1
   go_wp2_with fail
   refine (KF.o _).mono ?_
   rintro e w2 ⟨rfl,rfl⟩;clear KF x0
   match r,hrl,HL,SU with
   |[],hrl,HL,SU =>
    simp only [List.length_nil]
    have KB:=Hm (JP p _ _ SU.o.pb)
    go_wp2_with fail
    refine KB.o.mono ?_
    rintro e w9 ⟨rfl,hpb,hgb⟩;have S9:=Hm (SU.o.call hgb hpb);clear hpb hgb KB SU;obtain ⟨⟨x0,x1,x2,x3,x4⟩,-⟩:=S9.o.x;obtain ⟨⟨z0,z1,z2,z3,z4⟩,zf⟩:=S9.o.z
    simp only [Nat.zero_add] at x0 x1 x2 x3 x4 z0 z1 z2 z3 z4
    have zf0:=zf 0;have zf1:=zf 1;have zf2:=zf 2;have zf3:=zf 3;have zf4:=zf 4;clear zf
    go_wp2
    refine Qf (λV=>C5 V w.heap.size 0 (.int .i64 66) (.int .i64 0) (.int .i64 0) (.int .u64 0) (.slice none 0 0)/\Pb V p true/\w.grownBy V (some p)) (S9.o.fin _ _ _ _ _) ?_
    rintro V ⟨⟨⟨t0,t1,t2,t3,t4⟩,-⟩,tU,gU⟩
    simp only [Nat.zero_add] at t0 t1 t2 t3 t4
    have HU:=Hm (And.intro tU gU);clear tU gU x0 x1 x2 x3 x4 z0 z1 z2 z3 z4 zf0 zf1 zf2 zf3 zf4
    exact bodyPost_ret (v:=inV ⟨66,0,0,0,[]⟩ none 0) (by simp [results,Tryz.results42,go_sem,t0,t1,t2,t3,t4]) rfl ⟨⟨66,0,0,0,[]⟩,none,0,true,rfl,rfl,QI _,HU.o.1,HU.o.2,λh=>absurd h (by decide),λ_ ⟨y,hy⟩=>by rw [arg_8] at hy;obtain ⟨s2,v2,e2,-⟩:=hy;cases e2⟩
   |t::t2::r,hrl,HL,SU =>
    simp only [List.length_cons]
    have KB:=Hm (JP p _ _ SU.o.pb)
    go_wp2_with fail
    refine KB.o.mono ?_
    rintro e w9 ⟨rfl,hpb,hgb⟩;have S9:=Hm (SU.o.call hgb hpb);clear hpb hgb KB SU;obtain ⟨⟨x0,x1,x2,x3,x4⟩,-⟩:=S9.o.x;obtain ⟨⟨z0,z1,z2,z3,z4⟩,zf⟩:=S9.o.z
    simp only [Nat.zero_add] at x0 x1 x2 x3 x4 z0 z1 z2 z3 z4
    have zf0:=zf 0;have zf1:=zf 1;have zf2:=zf 2;have zf3:=zf 3;have zf4:=zf 4;clear zf
    go_wp2
    refine Qf (λV=>C5 V w.heap.size 0 (.int .i64 66) (.int .i64 0) (.int .i64 0) (.int .u64 0) (.slice none 0 0)/\Pb V p true/\w.grownBy V (some p)) (S9.o.fin _ _ _ _ _) ?_
    rintro V ⟨⟨⟨t0,t1,t2,t3,t4⟩,-⟩,tU,gU⟩
    simp only [Nat.zero_add] at t0 t1 t2 t3 t4
    have HU:=Hm (And.intro tU gU);clear tU gU x0 x1 x2 x3 x4 z0 z1 z2 z3 z4 zf0 zf1 zf2 zf3 zf4
    exact bodyPost_ret (v:=inV ⟨66,0,0,0,[]⟩ none 0) (by simp [results,Tryz.results42,go_sem,t0,t1,t2,t3,t4]) rfl ⟨⟨66,0,0,0,[]⟩,none,0,true,rfl,rfl,QI _,HU.o.1,HU.o.2,λh=>absurd h (by decide),λ_ ⟨y,hy⟩=>by rw [arg_8] at hy;obtain ⟨s2,v2,e2,-⟩:=hy;cases e2⟩
   |[t],hrl,HL,SU =>
    rcases SU.o.wv with e|⟨b5,o5,rfl,hb5,hc5⟩
    . cases e
    have ct:=hc5 0 (by simp)
    simp only [Nat.add_zero,List.getD_cons_zero] at ct
    clear hc5;have KN:=Hm (λV=>con66_c t V (HL.o t (by simp)));have x0:=SU.o.x.1.1;have x3:=SU.o.x.1.2.2.2.1;have xf3:=SU.o.x.2 3
    simp only [Nat.zero_add] at x3 xf3
    have S5:=Hm SU.o.drew
    simp only [List.length_cons,List.length_nil]
    cases hok:okN (-9223372036854775808) 9223372036854775807 t with
    |true =>
     rw [hok] at KN;have HOK:=Hm hok;clear hok
     go_upto_region 42 with fail
     go_region_law (first
      | (go_simp
         refine (KN.o _).mono ?_
         rintro e w5 ⟨rfl,v,rfl,hv⟩;have HV:=Hm hv;clear hv))
     all_goals
      go_upto_region 44 with fail
      refine Qj (λV=>Sx w p w1.heap.size (some ⟨b5,o5,none⟩) [t] false (.int .i64 66) (.int .i64 0) (.int .i64 0) (.int .u64 v) (.slice none 0 0) V) S5.o.set3 ?_
      rintro V6 SY0;have SY:=Hm SY0;clear SY0 x0 x3 xf3 S5 SU;obtain ⟨⟨x0,x1,x2,x3,x4⟩,-⟩:=SY.o.x;obtain ⟨⟨z0,z1,z2,z3,z4⟩,zf⟩:=SY.o.z
      simp only [Nat.zero_add] at x0 x1 x2 x3 x4 z0 z1 z2 z3 z4
      have zf0:=zf 0;have zf1:=zf 1;have zf2:=zf 2;have zf3:=zf 3;have zf4:=zf 4;clear zf
      go_wp2
      refine Qf (λV=>C5 V w.heap.size 0 (.int .i64 66) (.int .i64 0) (.int .i64 0) (.int .u64 v) (.slice none 0 0)/\Pb V p false/\w.grownBy V (some p)) (SY.o.fin _ _ _ _ _) ?_
      rintro V ⟨⟨⟨t0,t1,t2,t3,t4⟩,-⟩,tU,gU⟩
      simp only [Nat.zero_add] at t0 t1 t2 t3 t4
      have HU:=Hm (And.intro tU gU);clear tU gU x0 x1 x2 x3 x4 z0 z1 z2 z3 z4 zf0 zf1 zf2 zf3 zf4
      exact bodyPost_ret (v:=inV ⟨66,0,0,v,[]⟩ none 0) (by simp [results,Tryz.results42,go_sem,t0,t1,t2,t3,t4]) rfl ⟨⟨66,0,0,v,[]⟩,none,0,false,rfl,rfl,QI _,HU.o.1,HU.o.2,λ_=>⟨by decide,by rw [arg_8];obtain ⟨v',h1,rfl⟩:=HV.o trivial;exact ⟨t,v',rfl,⟨HOK.o,h1⟩,rfl⟩⟩,λ_ _=>rfl⟩
    |false =>
     rw [hok] at KN;have HOK:=Hm hok;clear hok
     go_upto_region 42 with fail
     go_region_law (first
      | (go_simp
         refine (KN.o _).mono ?_
         rintro e w5 ⟨rfl,v,rfl,hv⟩;have HV:=Hm hv;clear hv))
     all_goals
      go_upto_region 44 with fail
      refine Qj (λV=>Sx w p w1.heap.size (some ⟨b5,o5,none⟩) [t] false (.int .i64 66) (.int .i64 0) (.int .i64 0) (.int .u64 v) (.slice none 0 0) V) S5.o.set3 ?_
      rintro V6 SY0;have SY:=Hm SY0;clear SY0 x0 x3 xf3 S5 SU;have KB:=Hm (JP p _ _ SY.o.pb)
      go_wp2_with fail
      refine KB.o.mono ?_
      rintro e w9 ⟨rfl,hpb,hgb⟩;have S9:=Hm (SY.o.call hgb hpb);clear hpb hgb KB SY;obtain ⟨⟨x0,x1,x2,x3,x4⟩,-⟩:=S9.o.x;obtain ⟨⟨z0,z1,z2,z3,z4⟩,zf⟩:=S9.o.z
      simp only [Nat.zero_add] at x0 x1 x2 x3 x4 z0 z1 z2 z3 z4
      have zf0:=zf 0;have zf1:=zf 1;have zf2:=zf 2;have zf3:=zf 3;have zf4:=zf 4;clear zf
      go_wp2
      refine Qf (λV=>C5 V w.heap.size 0 (.int .i64 66) (.int .i64 0) (.int .i64 0) (.int .u64 v) (.slice none 0 0)/\Pb V p true/\w.grownBy V (some p)) (S9.o.fin _ _ _ _ _) ?_
      rintro V ⟨⟨⟨t0,t1,t2,t3,t4⟩,-⟩,tU,gU⟩
      simp only [Nat.zero_add] at t0 t1 t2 t3 t4
      have HU:=Hm (And.intro tU gU);clear tU gU x0 x1 x2 x3 x4 z0 z1 z2 z3 z4 zf0 zf1 zf2 zf3 zf4
      exact bodyPost_ret (v:=inV ⟨66,0,0,v,[]⟩ none 0) (by simp [results,Tryz.results42,go_sem,t0,t1,t2,t3,t4]) rfl ⟨⟨66,0,0,v,[]⟩,none,0,true,rfl,rfl,QI _,HU.o.1,HU.o.2,λh=>absurd h (by decide),λ_ ⟨y,hy⟩=>by rw [arg_8] at hy;obtain ⟨s2,v2,e2,hn,-⟩:=hy;cases e2;exact absurd hn.1 (by rw [HOK.o];decide)⟩
 . have hop:=(form_op (Qz s)).2.2.1 hf;clear cx hW hc hl hlr h hf;generalize Qz s=op at *;subst hop
   go_enter Tryz.func42,Tryz.ntmps42
   go_upto_region 1 with fail
   rw [<- HW.o]
   go_wp2_with fail
   refine KC.o.mono ?_
   rintro e w1 ⟨rfl,hb1⟩
   go_upto_region 3 with fail
   generalize (if c=1 then (some ⟨b,o,none⟩:Option Addr) else some ⟨b,o+1,none⟩)=ra at *;generalize c-1=rc at *;have hx1:w.heap.size<w1.heap.size:=by have:=hb1.size;have:=hsW.o;omega
   have hbU:Below w.heap.size w w1:=hbW.trans (hb1.mono (by have:=hsW.o;omega));have hz1:C5 w1 w.heap.size 0 (.int .i64 0) (.int .i64 0) (.int .i64 0) (.int .u64 0) (.slice none 0 0):=hzW.keep hb1
   refine Qj (λU=>Sx w p w1.heap.size ra r false (.int .i64 67) (.int .i64 0) (.int .i64 0) (.int .u64 0) (.slice none 0 0) U) ⟨C5.new,hz1.past,HPB.o.keep (hbU.alloc hbU.size _),QD (hbU.alloc hbU.size _),HWV.o.keep (hbU.alloc hbU.size _) hplt,hplt,hx1⟩ ?_
   rintro U SU0;have SU:=Hm SU0;have x0:=SU0.x.1.1;clear SU0 HWV HPB hbW hsW hzW cxW KC HW hcap hb1 hbU hz1 hx1
   go_wp2_with fail
   refine (KF.o _).mono ?_
   rintro e w2 ⟨rfl,rfl⟩;clear KF x0
   match r,hrl,HL,SU with
   |[],hrl,HL,SU =>
    simp only [List.length_nil]
    have KB:=Hm (JP p _ _ SU.o.pb)
    go_wp2_with fail
    refine KB.o.mono ?_
    rintro e w9 ⟨rfl,hpb,hgb⟩;have S9:=Hm (SU.o.call hgb hpb);clear hpb hgb KB SU;obtain ⟨⟨x0,x1,x2,x3,x4⟩,-⟩:=S9.o.x;obtain ⟨⟨z0,z1,z2,z3,z4⟩,zf⟩:=S9.o.z
    simp only [Nat.zero_add] at x0 x1 x2 x3 x4 z0 z1 z2 z3 z4
    have zf0:=zf 0;have zf1:=zf 1;have zf2:=zf 2;have zf3:=zf 3;have zf4:=zf 4;clear zf
    go_wp2
    refine Qf (λV=>C5 V w.heap.size 0 (.int .i64 67) (.int .i64 0) (.int .i64 0) (.int .u64 0) (.slice none 0 0)/\Pb V p true/\w.grownBy V (some p)) (S9.o.fin _ _ _ _ _) ?_
    rintro V ⟨⟨⟨t0,t1,t2,t3,t4⟩,-⟩,tU,gU⟩
    simp only [Nat.zero_add] at t0 t1 t2 t3 t4
    have HU:=Hm (And.intro tU gU);clear tU gU x0 x1 x2 x3 x4 z0 z1 z2 z3 z4 zf0 zf1 zf2 zf3 zf4
    exact bodyPost_ret (v:=inV ⟨67,0,0,0,[]⟩ none 0) (by simp [results,Tryz.results42,go_sem,t0,t1,t2,t3,t4]) rfl ⟨⟨67,0,0,0,[]⟩,none,0,true,rfl,rfl,QI _,HU.o.1,HU.o.2,λh=>absurd h (by decide),λ_ ⟨y,hy⟩=>by rw [arg_9] at hy;obtain ⟨s2,v2,e2,-⟩:=hy;cases e2⟩
   |t::t2::r,hrl,HL,SU =>
    simp only [List.length_cons]
    have KB:=Hm (JP p _ _ SU.o.pb)
    go_wp2_with fail
    refine KB.o.mono ?_
    rintro e w9 ⟨rfl,hpb,hgb⟩;have S9:=Hm (SU.o.call hgb hpb);clear hpb hgb KB SU;obtain ⟨⟨x0,x1,x2,x3,x4⟩,-⟩:=S9.o.x;obtain ⟨⟨z0,z1,z2,z3,z4⟩,zf⟩:=S9.o.z
    simp only [Nat.zero_add] at x0 x1 x2 x3 x4 z0 z1 z2 z3 z4
    have zf0:=zf 0;have zf1:=zf 1;have zf2:=zf 2;have zf3:=zf 3;have zf4:=zf 4;clear zf
    go_wp2
    refine Qf (λV=>C5 V w.heap.size 0 (.int .i64 67) (.int .i64 0) (.int .i64 0) (.int .u64 0) (.slice none 0 0)/\Pb V p true/\w.grownBy V (some p)) (S9.o.fin _ _ _ _ _) ?_
    rintro V ⟨⟨⟨t0,t1,t2,t3,t4⟩,-⟩,tU,gU⟩
    simp only [Nat.zero_add] at t0 t1 t2 t3 t4
    have HU:=Hm (And.intro tU gU);clear tU gU x0 x1 x2 x3 x4 z0 z1 z2 z3 z4 zf0 zf1 zf2 zf3 zf4
    exact bodyPost_ret (v:=inV ⟨67,0,0,0,[]⟩ none 0) (by simp [results,Tryz.results42,go_sem,t0,t1,t2,t3,t4]) rfl ⟨⟨67,0,0,0,[]⟩,none,0,true,rfl,rfl,QI _,HU.o.1,HU.o.2,λh=>absurd h (by decide),λ_ ⟨y,hy⟩=>by rw [arg_9] at hy;obtain ⟨s2,v2,e2,-⟩:=hy;cases e2⟩
   |[t],hrl,HL,SU =>
    rcases SU.o.wv with e|⟨b5,o5,rfl,hb5,hc5⟩
    . cases e
    have ct:=hc5 0 (by simp)
    simp only [Nat.add_zero,List.getD_cons_zero] at ct
    clear hc5;have KN:=Hm (λV=>con67_c t V (HL.o t (by simp)));have x0:=SU.o.x.1.1;have x3:=SU.o.x.1.2.2.2.1;have xf3:=SU.o.x.2 3
    simp only [Nat.zero_add] at x3 xf3
    have S5:=Hm SU.o.drew
    simp only [List.length_cons,List.length_nil]
    cases hok:(Xp 8 t).isSome with
    |true =>
     rw [hok] at KN;have HOK:=Hm hok;clear hok
     go_upto_region 42 with fail
     go_region_law (first
      | (go_simp
         refine (KN.o _).mono ?_
         rintro e w5 ⟨rfl,v,rfl,hv⟩;have HV:=Hm hv;clear hv))
     all_goals
      go_upto_region 44 with fail
      refine Qj (λV=>Sx w p w1.heap.size (some ⟨b5,o5,none⟩) [t] false (.int .i64 67) (.int .i64 0) (.int .i64 0) (.int .u64 v) (.slice none 0 0) V) S5.o.set3 ?_
      rintro V6 SY0;have SY:=Hm SY0;clear SY0 x0 x3 xf3 S5 SU;obtain ⟨⟨x0,x1,x2,x3,x4⟩,-⟩:=SY.o.x;obtain ⟨⟨z0,z1,z2,z3,z4⟩,zf⟩:=SY.o.z
      simp only [Nat.zero_add] at x0 x1 x2 x3 x4 z0 z1 z2 z3 z4
      have zf0:=zf 0;have zf1:=zf 1;have zf2:=zf 2;have zf3:=zf 3;have zf4:=zf 4;clear zf
      go_wp2
      refine Qf (λV=>C5 V w.heap.size 0 (.int .i64 67) (.int .i64 0) (.int .i64 0) (.int .u64 v) (.slice none 0 0)/\Pb V p false/\w.grownBy V (some p)) (SY.o.fin _ _ _ _ _) ?_
      rintro V ⟨⟨⟨t0,t1,t2,t3,t4⟩,-⟩,tU,gU⟩
      simp only [Nat.zero_add] at t0 t1 t2 t3 t4
      have HU:=Hm (And.intro tU gU);clear tU gU x0 x1 x2 x3 x4 z0 z1 z2 z3 z4 zf0 zf1 zf2 zf3 zf4
      exact bodyPost_ret (v:=inV ⟨67,0,0,v,[]⟩ none 0) (by simp [results,Tryz.results42,go_sem,t0,t1,t2,t3,t4]) rfl ⟨⟨67,0,0,v,[]⟩,none,0,false,rfl,rfl,QI _,HU.o.1,HU.o.2,λ_=>⟨by decide,by rw [arg_9];obtain ⟨u,h1,rfl⟩:=HV.o trivial;obtain ⟨k1,k2⟩:=(Xm 8 t u).1 h1;exact ⟨t,u,rfl,by rw [okB_iff 8 4294967295 t (by decide) (by decide) (by decide)];exact HOK.o,Nat.le_of_lt_succ (by simpa using k1),k2,rfl⟩⟩,λ_ _=>rfl⟩
    |false =>
     rw [hok] at KN;have HOK:=Hm hok;clear hok
     go_upto_region 42 with fail
     go_region_law (first
      | (go_simp
         refine (KN.o _).mono ?_
         rintro e w5 ⟨rfl,v,rfl,hv⟩;have HV:=Hm hv;clear hv))
     all_goals
      go_upto_region 44 with fail
      refine Qj (λV=>Sx w p w1.heap.size (some ⟨b5,o5,none⟩) [t] false (.int .i64 67) (.int .i64 0) (.int .i64 0) (.int .u64 v) (.slice none 0 0) V) S5.o.set3 ?_
      rintro V6 SY0;have SY:=Hm SY0;clear SY0 x0 x3 xf3 S5 SU;have KB:=Hm (JP p _ _ SY.o.pb)
      go_wp2_with fail
      refine KB.o.mono ?_
      rintro e w9 ⟨rfl,hpb,hgb⟩;have S9:=Hm (SY.o.call hgb hpb);clear hpb hgb KB SY;obtain ⟨⟨x0,x1,x2,x3,x4⟩,-⟩:=S9.o.x;obtain ⟨⟨z0,z1,z2,z3,z4⟩,zf⟩:=S9.o.z
      simp only [Nat.zero_add] at x0 x1 x2 x3 x4 z0 z1 z2 z3 z4
      have zf0:=zf 0;have zf1:=zf 1;have zf2:=zf 2;have zf3:=zf 3;have zf4:=zf 4;clear zf
      go_wp2
      refine Qf (λV=>C5 V w.heap.size 0 (.int .i64 67) (.int .i64 0) (.int .i64 0) (.int .u64 v) (.slice none 0 0)/\Pb V p true/\w.grownBy V (some p)) (S9.o.fin _ _ _ _ _) ?_
      rintro V ⟨⟨⟨t0,t1,t2,t3,t4⟩,-⟩,tU,gU⟩
      simp only [Nat.zero_add] at t0 t1 t2 t3 t4
      have HU:=Hm (And.intro tU gU);clear tU gU x0 x1 x2 x3 x4 z0 z1 z2 z3 z4 zf0 zf1 zf2 zf3 zf4
      exact bodyPost_ret (v:=inV ⟨67,0,0,v,[]⟩ none 0) (by simp [results,Tryz.results42,go_sem,t0,t1,t2,t3,t4]) rfl ⟨⟨67,0,0,v,[]⟩,none,0,true,rfl,rfl,QI _,HU.o.1,HU.o.2,λh=>absurd h (by decide),λ_ ⟨y,hy⟩=>by rw [arg_9] at hy;obtain ⟨s2,u,e2,hn,-⟩:=hy;cases e2;rw [okB_iff 8 4294967295 t (by decide) (by decide) (by decide),HOK.o] at hn;exact absurd hn (by decide)⟩
 . have hop:=(form_op (Qz s)).2.2.2 hf;clear cx hW hc hl hlr h hf;generalize Qz s=op at *;subst hop
   go_enter Tryz.func42,Tryz.ntmps42
   go_upto_region 1 with fail
   rw [<- HW.o]
   go_wp2_with fail
   refine KC.o.mono ?_
   rintro e w1 ⟨rfl,hb1⟩
   go_upto_region 3 with fail
   generalize (if c=1 then (some ⟨b,o,none⟩:Option Addr) else some ⟨b,o+1,none⟩)=ra at *;generalize c-1=rc at *;have hx1:w.heap.size<w1.heap.size:=by have:=hb1.size;have:=hsW.o;omega
   have hbU:Below w.heap.size w w1:=hbW.trans (hb1.mono (by have:=hsW.o;omega));have hz1:C5 w1 w.heap.size 0 (.int .i64 0) (.int .i64 0) (.int .i64 0) (.int .u64 0) (.slice none 0 0):=hzW.keep hb1
   refine Qj (λU=>Sx w p w1.heap.size ra r false (.int .i64 68) (.int .i64 0) (.int .i64 0) (.int .u64 0) (.slice none 0 0) U) ⟨C5.new,hz1.past,HPB.o.keep (hbU.alloc hbU.size _),QD (hbU.alloc hbU.size _),HWV.o.keep (hbU.alloc hbU.size _) hplt,hplt,hx1⟩ ?_
   rintro U SU0;have SU:=Hm SU0;have x0:=SU0.x.1.1;clear SU0 HWV HPB hbW hsW hzW cxW KC HW hcap hb1 hbU hz1 hx1
   go_wp2_with fail
   refine (KF.o _).mono ?_
   rintro e w2 ⟨rfl,rfl⟩;clear KF x0
   match r,hrl,HL,SU with
   |[],hrl,HL,SU =>
    simp only [List.length_nil]
    have KB:=Hm (JP p _ _ SU.o.pb)
    go_wp2_with fail
    refine KB.o.mono ?_
    rintro e w9 ⟨rfl,hpb,hgb⟩;have S9:=Hm (SU.o.call hgb hpb);clear hpb hgb KB SU;obtain ⟨⟨x0,x1,x2,x3,x4⟩,-⟩:=S9.o.x;obtain ⟨⟨z0,z1,z2,z3,z4⟩,zf⟩:=S9.o.z
    simp only [Nat.zero_add] at x0 x1 x2 x3 x4 z0 z1 z2 z3 z4
    have zf0:=zf 0;have zf1:=zf 1;have zf2:=zf 2;have zf3:=zf 3;have zf4:=zf 4;clear zf
    go_wp2
    refine Qf (λV=>C5 V w.heap.size 0 (.int .i64 68) (.int .i64 0) (.int .i64 0) (.int .u64 0) (.slice none 0 0)/\Pb V p true/\w.grownBy V (some p)) (S9.o.fin _ _ _ _ _) ?_
    rintro V ⟨⟨⟨t0,t1,t2,t3,t4⟩,-⟩,tU,gU⟩
    simp only [Nat.zero_add] at t0 t1 t2 t3 t4
    have HU:=Hm (And.intro tU gU);clear tU gU x0 x1 x2 x3 x4 z0 z1 z2 z3 z4 zf0 zf1 zf2 zf3 zf4
    exact bodyPost_ret (v:=inV ⟨68,0,0,0,[]⟩ none 0) (by simp [results,Tryz.results42,go_sem,t0,t1,t2,t3,t4]) rfl ⟨⟨68,0,0,0,[]⟩,none,0,true,rfl,rfl,QI _,HU.o.1,HU.o.2,λh=>absurd h (by decide),λ_ ⟨y,hy⟩=>by rw [arg_10] at hy;obtain ⟨s2,v2,e2,-⟩:=hy;cases e2⟩
   |t::t2::r,hrl,HL,SU =>
    simp only [List.length_cons]
    have KB:=Hm (JP p _ _ SU.o.pb)
    go_wp2_with fail
    refine KB.o.mono ?_
    rintro e w9 ⟨rfl,hpb,hgb⟩;have S9:=Hm (SU.o.call hgb hpb);clear hpb hgb KB SU;obtain ⟨⟨x0,x1,x2,x3,x4⟩,-⟩:=S9.o.x;obtain ⟨⟨z0,z1,z2,z3,z4⟩,zf⟩:=S9.o.z
    simp only [Nat.zero_add] at x0 x1 x2 x3 x4 z0 z1 z2 z3 z4
    have zf0:=zf 0;have zf1:=zf 1;have zf2:=zf 2;have zf3:=zf 3;have zf4:=zf 4;clear zf
    go_wp2
    refine Qf (λV=>C5 V w.heap.size 0 (.int .i64 68) (.int .i64 0) (.int .i64 0) (.int .u64 0) (.slice none 0 0)/\Pb V p true/\w.grownBy V (some p)) (S9.o.fin _ _ _ _ _) ?_
    rintro V ⟨⟨⟨t0,t1,t2,t3,t4⟩,-⟩,tU,gU⟩
    simp only [Nat.zero_add] at t0 t1 t2 t3 t4
    have HU:=Hm (And.intro tU gU);clear tU gU x0 x1 x2 x3 x4 z0 z1 z2 z3 z4 zf0 zf1 zf2 zf3 zf4
    exact bodyPost_ret (v:=inV ⟨68,0,0,0,[]⟩ none 0) (by simp [results,Tryz.results42,go_sem,t0,t1,t2,t3,t4]) rfl ⟨⟨68,0,0,0,[]⟩,none,0,true,rfl,rfl,QI _,HU.o.1,HU.o.2,λh=>absurd h (by decide),λ_ ⟨y,hy⟩=>by rw [arg_10] at hy;obtain ⟨s2,v2,e2,-⟩:=hy;cases e2⟩
   |[t],hrl,HL,SU =>
    rcases SU.o.wv with e|⟨b5,o5,rfl,hb5,hc5⟩
    . cases e
    have ct:=hc5 0 (by simp)
    simp only [Nat.add_zero,List.getD_cons_zero] at ct
    clear hc5;have KN:=Hm (λV=>con68_c t V (HL.o t (by simp)));have x0:=SU.o.x.1.1;have x3:=SU.o.x.1.2.2.2.1;have xf3:=SU.o.x.2 3
    simp only [Nat.zero_add] at x3 xf3
    have S5:=Hm SU.o.drew
    simp only [List.length_cons,List.length_nil]
    cases hok:(Xp 16 t).isSome with
    |true =>
     rw [hok] at KN;have HOK:=Hm hok;clear hok
     go_upto_region 42 with fail
     go_region_law (first
      | (go_simp
         refine (KN.o _).mono ?_
         rintro e w5 ⟨rfl,v,rfl,hv⟩;have HV:=Hm hv;clear hv))
     all_goals
      go_upto_region 44 with fail
      refine Qj (λV=>Sx w p w1.heap.size (some ⟨b5,o5,none⟩) [t] false (.int .i64 68) (.int .i64 0) (.int .i64 0) (.int .u64 v) (.slice none 0 0) V) S5.o.set3 ?_
      rintro V6 SY0;have SY:=Hm SY0;clear SY0 x0 x3 xf3 S5 SU;obtain ⟨⟨x0,x1,x2,x3,x4⟩,-⟩:=SY.o.x;obtain ⟨⟨z0,z1,z2,z3,z4⟩,zf⟩:=SY.o.z
      simp only [Nat.zero_add] at x0 x1 x2 x3 x4 z0 z1 z2 z3 z4
      have zf0:=zf 0;have zf1:=zf 1;have zf2:=zf 2;have zf3:=zf 3;have zf4:=zf 4;clear zf
      go_wp2
      refine Qf (λV=>C5 V w.heap.size 0 (.int .i64 68) (.int .i64 0) (.int .i64 0) (.int .u64 v) (.slice none 0 0)/\Pb V p false/\w.grownBy V (some p)) (SY.o.fin _ _ _ _ _) ?_
      rintro V ⟨⟨⟨t0,t1,t2,t3,t4⟩,-⟩,tU,gU⟩
      simp only [Nat.zero_add] at t0 t1 t2 t3 t4
      have HU:=Hm (And.intro tU gU);clear tU gU x0 x1 x2 x3 x4 z0 z1 z2 z3 z4 zf0 zf1 zf2 zf3 zf4
      exact bodyPost_ret (v:=inV ⟨68,0,0,v,[]⟩ none 0) (by simp [results,Tryz.results42,go_sem,t0,t1,t2,t3,t4]) rfl ⟨⟨68,0,0,v,[]⟩,none,0,false,rfl,rfl,QI _,HU.o.1,HU.o.2,λ_=>⟨by decide,by rw [arg_10];obtain ⟨u,h1,rfl⟩:=HV.o trivial;obtain ⟨k1,k2⟩:=(Xm 16 t u).1 h1;exact ⟨t,u,rfl,by rw [okB_iff 16 18446744073709551615 t (by decide) (by decide) (by decide)];exact HOK.o,Nat.le_of_lt_succ (by simpa using k1),k2,rfl⟩⟩,λ_ _=>rfl⟩
    |false =>
     rw [hok] at KN;have HOK:=Hm hok;clear hok
     go_upto_region 42 with fail
     go_region_law (first
      | (go_simp
         refine (KN.o _).mono ?_
         rintro e w5 ⟨rfl,v,rfl,hv⟩;have HV:=Hm hv;clear hv))
     all_goals
      go_upto_region 44 with fail
      refine Qj (λV=>Sx w p w1.heap.size (some ⟨b5,o5,none⟩) [t] false (.int .i64 68) (.int .i64 0) (.int .i64 0) (.int .u64 v) (.slice none 0 0) V) S5.o.set3 ?_
      rintro V6 SY0;have SY:=Hm SY0;clear SY0 x0 x3 xf3 S5 SU;have KB:=Hm (JP p _ _ SY.o.pb)
      go_wp2_with fail
      refine KB.o.mono ?_
      rintro e w9 ⟨rfl,hpb,hgb⟩;have S9:=Hm (SY.o.call hgb hpb);clear hpb hgb KB SY;obtain ⟨⟨x0,x1,x2,x3,x4⟩,-⟩:=S9.o.x;obtain ⟨⟨z0,z1,z2,z3,z4⟩,zf⟩:=S9.o.z
      simp only [Nat.zero_add] at x0 x1 x2 x3 x4 z0 z1 z2 z3 z4
      have zf0:=zf 0;have zf1:=zf 1;have zf2:=zf 2;have zf3:=zf 3;have zf4:=zf 4;clear zf
      go_wp2
      refine Qf (λV=>C5 V w.heap.size 0 (.int .i64 68) (.int .i64 0) (.int .i64 0) (.int .u64 v) (.slice none 0 0)/\Pb V p true/\w.grownBy V (some p)) (S9.o.fin _ _ _ _ _) ?_
      rintro V ⟨⟨⟨t0,t1,t2,t3,t4⟩,-⟩,tU,gU⟩
      simp only [Nat.zero_add] at t0 t1 t2 t3 t4
      have HU:=Hm (And.intro tU gU);clear tU gU x0 x1 x2 x3 x4 z0 z1 z2 z3 z4 zf0 zf1 zf2 zf3 zf4
      exact bodyPost_ret (v:=inV ⟨68,0,0,v,[]⟩ none 0) (by simp [results,Tryz.results42,go_sem,t0,t1,t2,t3,t4]) rfl ⟨⟨68,0,0,v,[]⟩,none,0,true,rfl,rfl,QI _,HU.o.1,HU.o.2,λh=>absurd h (by decide),λ_ ⟨y,hy⟩=>by rw [arg_10] at hy;obtain ⟨s2,u,e2,hn,-⟩:=hy;cases e2;rw [okB_iff 16 18446744073709551615 t (by decide) (by decide) (by decide),HOK.o] at hn;exact absurd hn (by decide)⟩
def sri_7:=λp b o c s r w h hb hc hcap hl hrl hf=>sri_z p b o c s r w h hb hc hcap hl hrl (7) (.inl rfl) hf
def sri_8:=λp b o c s r w h hb hc hcap hl hrl hf=>sri_z p b o c s r w h hb hc hcap hl hrl (8) (.inr (.inl rfl)) hf
def sri_9:=λp b o c s r w h hb hc hcap hl hrl hf=>sri_z p b o c s r w h hb hc hcap hl hrl (9) (.inr (.inr (.inl rfl))) hf
def sri_10:=λp b o c s r w h hb hc hcap hl hrl hf=>sri_z p b o c s r w h hb hc hcap hl hrl (10) (.inr (.inr (.inr (rfl)))) hf
end Go.Proofs.YtipfjdogokanbaaGreatDoor.Yz
