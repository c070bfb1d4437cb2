import Derived.Test.YtipfjdogokanbaaGreatDoorGaa
import Derived.Test.YtipfjdogokanbaaGreatDoorGaj
set_option linter.all false
set_option maxHeartbeats 400000000
set_option maxRecDepth 100000
set_option linter.all false
namespace Go.Proofs.YtipfjdogokanbaaGreatDoor.Yz
open Go.RowKit Go.Sort
theorem one_ok {ws:List Wd}{b:Bool}(h:((false || ws.isEmpty) || !b)=false)(ht:ws.tail=[]):∃ s,ws=[s]/\b=true:=by
 cases ws with
|nil=>simp at h
|cons a r=>simp at h ht;subst ht;exact ⟨a,rfl,h⟩
theorem arg_1 (r:List Wd)(x:In):Arg 1 r x=((r=[]/\x=⟨x.op,64,0,0,[]⟩)\/(∃ t,r=[t]/\tyN t≠0/\x=⟨x.op,tyN t,0,0,[]⟩)):=by unfold Arg;rw [if_pos rfl]
theorem arg_2 (r:List Wd)(x:In):Arg 2 r x=(∃ s v,r=[s]/\Nm 0 4294967295 s v/\x=⟨x.op,v,0,0,[]⟩):=by unfold Arg;rw [if_neg (by decide),if_pos (by decide)]
theorem arg_4 (r:List Wd)(x:In):Arg 4 r x=(∃ s v,r=[s]/\Nm 0 4294967295 s v/\x=⟨x.op,v,0,0,[]⟩):=by unfold Arg;rw [if_neg (by decide),if_pos (by decide)]
theorem arg_3 (r:List Wd)(x:In):Arg 3 r x=(∃ ss s vs v,r=ss++[s]/\Nms ss vs/\Nm 0 4294967295 s v/\x=⟨x.op,v,0,0,vs⟩):=by unfold Arg;rw [if_neg (by decide),if_neg (by decide),if_pos rfl]
theorem arg_5 (r:List Wd)(x:In):Arg 5 r x=(∃ s t v u,r=[s,t]/\Nm 0 4294967295 s v/\Nm 0 4294967295 t u/\x=⟨x.op,v,u,0,[]⟩):=by unfold Arg;rw [if_neg (by decide),if_neg (by decide),if_neg (by decide),if_pos rfl]
theorem arg_7 (r:List Wd)(x:In):Arg 7 r x=(∃ s v,r=[s]/\Nm (-2147483648) 2147483647 s v/\x=⟨x.op,0,0,v%4294967296,[]⟩):=by unfold Arg;rw [if_neg (by decide),if_neg (by decide),if_neg (by decide),if_neg (by decide),if_pos rfl]
theorem arg_8 (r:List Wd)(x:In):Arg 8 r x=(∃ s v,r=[s]/\Nm (-9223372036854775808) 9223372036854775807 s v/\x=⟨x.op,0,0,v%18446744073709551616,[]⟩):=by unfold Arg;rw [if_neg (by decide),if_neg (by decide),if_neg (by decide),if_neg (by decide),if_neg (by decide),if_pos rfl]
theorem arg_9 (r:List Wd)(x:In):Arg 9 r x=(∃ s,∃ u:Nat,r=[s]/\okB 8 4294967295 s=true/\u<=4294967295/\QF 8 u=s/\x=⟨x.op,0,0,u,[]⟩):=by unfold Arg;rw [if_neg (by decide),if_neg (by decide),if_neg (by decide),if_neg (by decide),if_neg (by decide),if_neg (by decide),if_pos rfl]
theorem arg_10 (r:List Wd)(x:In):Arg 10 r x=(∃ s,∃ u:Nat,r=[s]/\okB 16 18446744073709551615 s=true/\u<=18446744073709551615/\QF 16 u=s/\x=⟨x.op,0,0,u,[]⟩):=by unfold Arg;rw [if_neg (by decide),if_neg (by decide),if_neg (by decide),if_neg (by decide),if_neg (by decide),if_neg (by decide),if_neg (by decide),if_pos rfl]
theorem back_n {ws:List Wd}{lo hi:Int}(h:∃ s v,ws=[s]/\Nm lo hi s v):((false || ws.isEmpty) || !okN lo hi (ws.headD []))=false/\ws.tail=[]:=by
 obtain ⟨s,v,rfl,h1,-⟩:=h
 exact ⟨by simp [h1],rfl⟩
theorem there_n {ws:List Wd}{lo hi v:Int}(hx:okN lo hi (ws.headD [])=true->okP (ws.headD [])=some v)(h:((false || ws.isEmpty) || !okN lo hi (ws.headD []))=false)(ht:ws.tail=[]):∃ s,ws=[s]/\Nm lo hi s v:=by
 obtain ⟨s,rfl,hb⟩:=one_ok h ht
 exact ⟨s,rfl,hb,hx hb⟩
theorem back_b {ws:List Wd}{n mx:Nat}(h:∃ s,ws=[s]/\okB n mx s=true):((false || ws.isEmpty) || !okB n mx (ws.headD []))=false/\ws.tail=[]:=by
 obtain ⟨s,rfl,h1⟩:=h
 exact ⟨by simp [h1],rfl⟩
theorem two_ok {ws:List Wd}{a b:Bool}(h:(((((false || ws.isEmpty) || !a)) || ws.tail.isEmpty) || !b)=false)(ht:ws.tail.tail=[]):∃ s t,ws=[s,t]/\a=true/\b=true:=by
 match ws with
|[]=>simp at h
|[_]=>simp at h
|s::t::r=>simp at h ht;subst ht;exact ⟨s,t,rfl,h.1,h.2⟩
theorem tlw_len {ws:List Wd}(hl:∀ x ∈ ws,x.length<=1099511627776):∀ x ∈ ws.tail,x.length<=1099511627776:=λx hx=>hl x (List.mem_of_mem_tail hx)
theorem ins_x (q:Nat)(ws:List Wd)(op:Int)(w:World)(kk_:Int)(hk_:kk_=2\/kk_=4\/kk_=5\/kk_=7\/kk_=8\/kk_=9\/kk_=10\/kk_=1)(hf:Qd (Qb op)=kk_)(h:Tw w q ws false)(hl:∀ x ∈ ws,x.length<=1099511627776)(hV:Vs q w) :
    Calls Tryz.prog 30 #[.pointer (some ⟨q,0,none⟩),.int .i64 op] w (InsP kk_ op ws w q):=by
 have HF:=Hm (Qu op);rw [hf] at HF;obtain ⟨W,hW⟩:∃ W,W=(w.alloc (.cells #[.int .i64 0,.int .i64 0,.int .i64 0,.int .u64 0,.slice none 0 0] 26)).alloc (.cells #[.int .i64 op,.int .i64 0,.int .i64 0,.int .u64 0,.slice none 0 0] 26):=⟨_,rfl⟩;obtain ⟨hz,hx,hb⟩:=Gn w op;rw [<- hW] at hz hx hb;have HW:=Hm hW;have BX:=Hm (show Bx w q ws false (.int .i64 op) (.int .i64 0) (.int .i64 0) (.int .u64 0) (.slice none 0 0) W from ⟨hx,hz,h.keep hb,QD hb,hV.keep (hb.mono (Nat.le_of_lt h.lt)),h.lt⟩);clear hf hW hz hx hb h hV
 go_enter Tryz.func30,Tryz.ntmps30
 go_wp2_with fail
 rw [<- HW.o]
 refine (HF.o _).mono ?_
 rintro e w2 ⟨rfl,hb2⟩;have B2:=Hm (BX.o.below hb2);clear hb2 BX HW HF
 rcases hk_ with rfl|rfl|rfl|rfl|rfl|rfl|rfl|rfl
 . have HC:=Hm (Xg q ws false w2 B2.o.t hl B2.o.v)
   go_wp2_with fail
   refine HC.o.mono ?_
   rintro e w3 ⟨v,rfl,ht3,hg3,hx3⟩;have B3:=Hm (B2.o.call hg3 ht3);have hx:=Hm hx3;have x1:=B3.o.x.1.2.1;have xf1:=B3.o.x.2 1
   simp only [Nat.zero_add] at x1 xf1
   clear ht3 hg3 hx3 HC B2
   go_upto_region 25 with fail
   refine Qj (λU=>Bx w q ws.tail ((false || ws.isEmpty) || !okN 0 4294967295 (ws.headD [])) (.int .i64 op) (.int .i64 v) (.int .i64 0) (.int .u64 0) (.slice none 0 0) U) B3.o.set1 ?_
   rintro U4 BU0;have BU:=Hm BU0;clear BU0 x1 xf1 B3;obtain ⟨⟨x0,x1,x2,x3,x4⟩,xf⟩:=BU.o.x;obtain ⟨⟨z0,z1,z2,z3,z4⟩,zf⟩:=BU.o.z
   simp only [Nat.zero_add] at x0 x1 x2 x3 x4 z0 z1 z2 z3 z4
   have xf1:=xf 1;have zf0:=zf 0;have zf1:=zf 1;have zf2:=zf 2;have zf3:=zf 3;have zf4:=zf 4;clear xf zf
   go_wp2
   refine Qf (λU=>C5 U w.heap.size 0 (.int .i64 op) (.int .i64 v) (.int .i64 0) (.int .u64 0) (.slice none 0 0)/\Tw U q ws.tail ((false || ws.isEmpty) || !okN 0 4294967295 (ws.headD []))/\w.grownBy U (some q)) (BU.o.fin _ _ _ _ _) ?_
   rintro U ⟨⟨⟨t0,t1,t2,t3,t4⟩,-⟩,tU,gU⟩
   simp only [Nat.zero_add] at t0 t1 t2 t3 t4
   have HU:=Hm (And.intro tU gU);clear tU gU x0 x1 x2 x3 x4 z0 z1 z2 z3 z4 xf1 zf0 zf1 zf2 zf3 zf4
   exact bodyPost_ret (v:=inV ⟨op,v,0,0,[]⟩ none 0) (by simp [results,Tryz.results30,go_sem,t0,t1,t2,t3,t4]) rfl ⟨⟨op,v,0,0,[]⟩,none,0,_,_,rfl,rfl,JI _ _,HU.o.1,HU.o.2,λh ht=>by rw [arg_2];obtain ⟨s,e,hn⟩:=there_n hx.o h ht;exact ⟨s,v,e,hn,rfl⟩,λ⟨y,hy⟩=>by rw [arg_2] at hy;obtain ⟨s,v,e,hn,-⟩:=hy;exact back_n ⟨s,v,e,hn⟩⟩
 . have HC:=Hm (Xg q ws false w2 B2.o.t hl B2.o.v)
   go_wp2_with fail
   refine HC.o.mono ?_
   rintro e w3 ⟨v,rfl,ht3,hg3,hx3⟩;have B3:=Hm (B2.o.call hg3 ht3);have hx:=Hm hx3;have x1:=B3.o.x.1.2.1;have xf1:=B3.o.x.2 1
   simp only [Nat.zero_add] at x1 xf1
   clear ht3 hg3 hx3 HC B2
   go_upto_region 25 with fail
   refine Qj (λU=>Bx w q ws.tail ((false || ws.isEmpty) || !okN 0 4294967295 (ws.headD [])) (.int .i64 op) (.int .i64 v) (.int .i64 0) (.int .u64 0) (.slice none 0 0) U) B3.o.set1 ?_
   rintro U4 BU0;have BU:=Hm BU0;clear BU0 x1 xf1 B3;obtain ⟨⟨x0,x1,x2,x3,x4⟩,xf⟩:=BU.o.x;obtain ⟨⟨z0,z1,z2,z3,z4⟩,zf⟩:=BU.o.z
   simp only [Nat.zero_add] at x0 x1 x2 x3 x4 z0 z1 z2 z3 z4
   have xf1:=xf 1;have zf0:=zf 0;have zf1:=zf 1;have zf2:=zf 2;have zf3:=zf 3;have zf4:=zf 4;clear xf zf
   go_wp2
   refine Qf (λU=>C5 U w.heap.size 0 (.int .i64 op) (.int .i64 v) (.int .i64 0) (.int .u64 0) (.slice none 0 0)/\Tw U q ws.tail ((false || ws.isEmpty) || !okN 0 4294967295 (ws.headD []))/\w.grownBy U (some q)) (BU.o.fin _ _ _ _ _) ?_
   rintro U ⟨⟨⟨t0,t1,t2,t3,t4⟩,-⟩,tU,gU⟩
   simp only [Nat.zero_add] at t0 t1 t2 t3 t4
   have HU:=Hm (And.intro tU gU);clear tU gU x0 x1 x2 x3 x4 z0 z1 z2 z3 z4 xf1 zf0 zf1 zf2 zf3 zf4
   exact bodyPost_ret (v:=inV ⟨op,v,0,0,[]⟩ none 0) (by simp [results,Tryz.results30,go_sem,t0,t1,t2,t3,t4]) rfl ⟨⟨op,v,0,0,[]⟩,none,0,_,_,rfl,rfl,JI _ _,HU.o.1,HU.o.2,λh ht=>by rw [arg_4];obtain ⟨s,e,hn⟩:=there_n hx.o h ht;exact ⟨s,v,e,hn,rfl⟩,λ⟨y,hy⟩=>by rw [arg_4] at hy;obtain ⟨s,v,e,hn,-⟩:=hy;exact back_n ⟨s,v,e,hn⟩⟩
 . have HC:=Hm (Xg q ws false w2 B2.o.t hl B2.o.v)
   go_wp2_with fail
   refine HC.o.mono ?_
   rintro e w3 ⟨v,rfl,ht3,hg3,hx3⟩;have B3:=Hm (B2.o.call hg3 ht3);have hx:=Hm hx3;have x1:=B3.o.x.1.2.1;have xf1:=B3.o.x.2 1
   simp only [Nat.zero_add] at x1 xf1
   clear ht3 hg3 hx3 HC B2
   go_upto_region 16 with fail
   refine Qj (λU=>Bx w q ws.tail ((false || ws.isEmpty) || !okN 0 4294967295 (ws.headD [])) (.int .i64 op) (.int .i64 v) (.int .i64 0) (.int .u64 0) (.slice none 0 0) U) B3.o.set1 ?_
   rintro U4 BU0;have BU:=Hm BU0;clear BU0 x1 xf1 B3;have HC:=Hm (Xg q ws.tail _ U4 BU.o.t (tlw_len hl) BU.o.v)
   go_wp2_with fail
   refine HC.o.mono ?_
   rintro e w5 ⟨u,rfl,ht3,hg3,hx3⟩;have B5:=Hm (BU.o.call hg3 ht3);have hy:=Hm hx3;have x1:=B5.o.x.1.2.2.1;have xf1:=B5.o.x.2 2
   simp only [Nat.zero_add] at x1 xf1
   clear ht3 hg3 hx3 HC BU
   go_upto_region 25 with fail
   refine Qj (λU=>Bx w q ws.tail.tail (((((false || ws.isEmpty) || !okN 0 4294967295 (ws.headD []))) || ws.tail.isEmpty) || !okN 0 4294967295 (ws.tail.headD [])) (.int .i64 op) (.int .i64 v) (.int .i64 u) (.int .u64 0) (.slice none 0 0) U) B5.o.set2 ?_
   rintro U6 BV0;have BV:=Hm BV0;clear BV0 x1 xf1 B5;obtain ⟨⟨x0,x1,x2,x3,x4⟩,xf⟩:=BV.o.x;obtain ⟨⟨z0,z1,z2,z3,z4⟩,zf⟩:=BV.o.z
   simp only [Nat.zero_add] at x0 x1 x2 x3 x4 z0 z1 z2 z3 z4
   have xf1:=xf 1;have zf0:=zf 0;have zf1:=zf 1;have zf2:=zf 2;have zf3:=zf 3;have zf4:=zf 4;clear xf zf
   go_wp2
   refine Qf (λU=>C5 U w.heap.size 0 (.int .i64 op) (.int .i64 v) (.int .i64 u) (.int .u64 0) (.slice none 0 0)/\Tw U q ws.tail.tail (((((false || ws.isEmpty) || !okN 0 4294967295 (ws.headD []))) || ws.tail.isEmpty) || !okN 0 4294967295 (ws.tail.headD []))/\w.grownBy U (some q)) (BV.o.fin _ _ _ _ _) ?_
   rintro U ⟨⟨⟨t0,t1,t2,t3,t4⟩,-⟩,tU,gU⟩
   simp only [Nat.zero_add] at t0 t1 t2 t3 t4
   have HU:=Hm (And.intro tU gU);clear tU gU x0 x1 x2 x3 x4 z0 z1 z2 z3 z4 xf1 zf0 zf1 zf2 zf3 zf4
   exact bodyPost_ret (v:=inV ⟨op,v,u,0,[]⟩ none 0) (by simp [results,Tryz.results30,go_sem,t0,t1,t2,t3,t4]) rfl ⟨⟨op,v,u,0,[]⟩,none,0,_,_,rfl,rfl,JI _ _,HU.o.1,HU.o.2,λh ht=>by rw [arg_5];obtain ⟨s,t,rfl,ha,hb⟩:=two_ok h ht;exact ⟨s,t,v,u,rfl,⟨ha,hx.o ha⟩,⟨hb,hy.o hb⟩,rfl⟩,λ⟨y,hy⟩=>by rw [arg_5] at hy;obtain ⟨s,t,v,u,rfl,⟨ha,-⟩,⟨hb,-⟩,-⟩:=hy;exact ⟨by simp [ha,hb],rfl⟩⟩
 . have HC:=Hm (number_c q ws false (-2147483648) 2147483647 w2 B2.o.t hl B2.o.v)
   go_wp2_with fail
   refine HC.o.mono ?_
   rintro e w3 ⟨v,rfl,ht3,hg3,hx3⟩;have B3:=Hm (B2.o.call hg3 ht3);have hx:=Hm hx3;have x1:=B3.o.x.1.2.2.2.1;have xf1:=B3.o.x.2 3
   simp only [Nat.zero_add] at x1 xf1
   clear ht3 hg3 hx3 HC B2
   go_upto_region 25 with fail
   refine Qj (λU=>Bx w q ws.tail ((false || ws.isEmpty) || !okN (-2147483648) 2147483647 (ws.headD [])) (.int .i64 op) (.int .i64 0) (.int .i64 0) (.int .u64 (v%4294967296)) (.slice none 0 0) U) B3.o.set3 ?_
   rintro U4 BU0;have BU:=Hm BU0;clear BU0 x1 xf1 B3;obtain ⟨⟨x0,x1,x2,x3,x4⟩,xf⟩:=BU.o.x;obtain ⟨⟨z0,z1,z2,z3,z4⟩,zf⟩:=BU.o.z
   simp only [Nat.zero_add] at x0 x1 x2 x3 x4 z0 z1 z2 z3 z4
   have xf1:=xf 1;have zf0:=zf 0;have zf1:=zf 1;have zf2:=zf 2;have zf3:=zf 3;have zf4:=zf 4;clear xf zf
   go_wp2
   refine Qf (λU=>C5 U w.heap.size 0 (.int .i64 op) (.int .i64 0) (.int .i64 0) (.int .u64 (v%4294967296)) (.slice none 0 0)/\Tw U q ws.tail ((false || ws.isEmpty) || !okN (-2147483648) 2147483647 (ws.headD []))/\w.grownBy U (some q)) (BU.o.fin _ _ _ _ _) ?_
   rintro U ⟨⟨⟨t0,t1,t2,t3,t4⟩,-⟩,tU,gU⟩
   simp only [Nat.zero_add] at t0 t1 t2 t3 t4
   have HU:=Hm (And.intro tU gU);clear tU gU x0 x1 x2 x3 x4 z0 z1 z2 z3 z4 xf1 zf0 zf1 zf2 zf3 zf4
   exact bodyPost_ret (v:=inV ⟨op,0,0,v%4294967296,[]⟩ none 0) (by simp [results,Tryz.results30,go_sem,t0,t1,t2,t3,t4]) rfl ⟨⟨op,0,0,v%4294967296,[]⟩,none,0,_,_,rfl,rfl,JI _ _,HU.o.1,HU.o.2,λh ht=>by rw [arg_7];obtain ⟨s,e,hn⟩:=there_n hx.o h ht;exact ⟨s,v,e,hn,rfl⟩,λ⟨y,hy⟩=>by rw [arg_7] at hy;obtain ⟨s,v,e,hn,-⟩:=hy;exact back_n ⟨s,v,e,hn⟩⟩
 . have HC:=Hm (number_c q ws false (-9223372036854775808) 9223372036854775807 w2 B2.o.t hl B2.o.v)
   go_wp2_with fail
   refine HC.o.mono ?_
   rintro e w3 ⟨v,rfl,ht3,hg3,hx3⟩;have B3:=Hm (B2.o.call hg3 ht3);have hx:=Hm hx3;have x1:=B3.o.x.1.2.2.2.1;have xf1:=B3.o.x.2 3
   simp only [Nat.zero_add] at x1 xf1
   clear ht3 hg3 hx3 HC B2
   go_upto_region 25 with fail
   refine Qj (λU=>Bx w q ws.tail ((false || ws.isEmpty) || !okN (-9223372036854775808) 9223372036854775807 (ws.headD [])) (.int .i64 op) (.int .i64 0) (.int .i64 0) (.int .u64 (v%18446744073709551616)) (.slice none 0 0) U) B3.o.set3 ?_
   rintro U4 BU0;have BU:=Hm BU0;clear BU0 x1 xf1 B3;obtain ⟨⟨x0,x1,x2,x3,x4⟩,xf⟩:=BU.o.x;obtain ⟨⟨z0,z1,z2,z3,z4⟩,zf⟩:=BU.o.z
   simp only [Nat.zero_add] at x0 x1 x2 x3 x4 z0 z1 z2 z3 z4
   have xf1:=xf 1;have zf0:=zf 0;have zf1:=zf 1;have zf2:=zf 2;have zf3:=zf 3;have zf4:=zf 4;clear xf zf
   go_wp2
   refine Qf (λU=>C5 U w.heap.size 0 (.int .i64 op) (.int .i64 0) (.int .i64 0) (.int .u64 (v%18446744073709551616)) (.slice none 0 0)/\Tw U q ws.tail ((false || ws.isEmpty) || !okN (-9223372036854775808) 9223372036854775807 (ws.headD []))/\w.grownBy U (some q)) (BU.o.fin _ _ _ _ _) ?_
   rintro U ⟨⟨⟨t0,t1,t2,t3,t4⟩,-⟩,tU,gU⟩
   simp only [Nat.zero_add] at t0 t1 t2 t3 t4
   have HU:=Hm (And.intro tU gU);clear tU gU x0 x1 x2 x3 x4 z0 z1 z2 z3 z4 xf1 zf0 zf1 zf2 zf3 zf4
   exact bodyPost_ret (v:=inV ⟨op,0,0,v%18446744073709551616,[]⟩ none 0) (by simp [results,Tryz.results30,go_sem,t0,t1,t2,t3,t4]) rfl ⟨⟨op,0,0,v%18446744073709551616,[]⟩,none,0,_,_,rfl,rfl,JI _ _,HU.o.1,HU.o.2,λh ht=>by rw [arg_8];obtain ⟨s,e,hn⟩:=there_n hx.o h ht;exact ⟨s,v,e,hn,rfl⟩,λ⟨y,hy⟩=>by rw [arg_8] at hy;obtain ⟨s,v,e,hn,-⟩:=hy;exact back_n ⟨s,v,e,hn⟩⟩
 . have HC:=Hm (bits32_c q ws false w2 B2.o.t hl B2.o.v)
   go_wp2_with fail
   refine HC.o.mono ?_
   rintro e w3 ⟨v,rfl,ht3,hg3,hx3⟩;have B3:=Hm (B2.o.call hg3 ht3);have hx:=Hm hx3;have x1:=B3.o.x.1.2.2.2.1;have xf1:=B3.o.x.2 3
   simp only [Nat.zero_add] at x1 xf1
   clear ht3 hg3 hx3 HC B2
   go_upto_region 25 with fail
   refine Qj (λU=>Bx w q ws.tail ((false || ws.isEmpty) || !okB 8 4294967295 (ws.headD [])) (.int .i64 op) (.int .i64 0) (.int .i64 0) (.int .u64 v) (.slice none 0 0) U) B3.o.set3 ?_
   rintro U4 BU0;have BU:=Hm BU0;clear BU0 x1 xf1 B3;obtain ⟨⟨x0,x1,x2,x3,x4⟩,xf⟩:=BU.o.x;obtain ⟨⟨z0,z1,z2,z3,z4⟩,zf⟩:=BU.o.z
   simp only [Nat.zero_add] at x0 x1 x2 x3 x4 z0 z1 z2 z3 z4
   have xf1:=xf 1;have zf0:=zf 0;have zf1:=zf 1;have zf2:=zf 2;have zf3:=zf 3;have zf4:=zf 4;clear xf zf
   go_wp2
   refine Qf (λU=>C5 U w.heap.size 0 (.int .i64 op) (.int .i64 0) (.int .i64 0) (.int .u64 v) (.slice none 0 0)/\Tw U q ws.tail ((false || ws.isEmpty) || !okB 8 4294967295 (ws.headD []))/\w.grownBy U (some q)) (BU.o.fin _ _ _ _ _) ?_
   rintro U ⟨⟨⟨t0,t1,t2,t3,t4⟩,-⟩,tU,gU⟩
   simp only [Nat.zero_add] at t0 t1 t2 t3 t4
   have HU:=Hm (And.intro tU gU);clear tU gU x0 x1 x2 x3 x4 z0 z1 z2 z3 z4 xf1 zf0 zf1 zf2 zf3 zf4
   exact bodyPost_ret (v:=inV ⟨op,0,0,v,[]⟩ none 0) (by simp [results,Tryz.results30,go_sem,t0,t1,t2,t3,t4]) rfl ⟨⟨op,0,0,v,[]⟩,none,0,_,_,rfl,rfl,JI _ _,HU.o.1,HU.o.2,λh ht=>by rw [arg_9];obtain ⟨s,rfl,hb⟩:=one_ok h ht;obtain ⟨u,rfl,hu,hs⟩:=hx.o hb;exact ⟨s,u,rfl,hb,hu,hs,rfl⟩,λ⟨y,hy⟩=>by rw [arg_9] at hy;obtain ⟨s,u,e,hn,-⟩:=hy;exact back_b ⟨s,e,hn⟩⟩
 . have HC:=Hm (bits64_c q ws false w2 B2.o.t hl B2.o.v)
   go_wp2_with fail
   refine HC.o.mono ?_
   rintro e w3 ⟨v,rfl,ht3,hg3,hx3⟩;have B3:=Hm (B2.o.call hg3 ht3);have hx:=Hm hx3;have x1:=B3.o.x.1.2.2.2.1;have xf1:=B3.o.x.2 3
   simp only [Nat.zero_add] at x1 xf1
   clear ht3 hg3 hx3 HC B2
   go_upto_region 25 with fail
   refine Qj (λU=>Bx w q ws.tail ((false || ws.isEmpty) || !okB 16 18446744073709551615 (ws.headD [])) (.int .i64 op) (.int .i64 0) (.int .i64 0) (.int .u64 v) (.slice none 0 0) U) B3.o.set3 ?_
   rintro U4 BU0;have BU:=Hm BU0;clear BU0 x1 xf1 B3;obtain ⟨⟨x0,x1,x2,x3,x4⟩,xf⟩:=BU.o.x;obtain ⟨⟨z0,z1,z2,z3,z4⟩,zf⟩:=BU.o.z
   simp only [Nat.zero_add] at x0 x1 x2 x3 x4 z0 z1 z2 z3 z4
   have xf1:=xf 1;have zf0:=zf 0;have zf1:=zf 1;have zf2:=zf 2;have zf3:=zf 3;have zf4:=zf 4;clear xf zf
   go_wp2
   refine Qf (λU=>C5 U w.heap.size 0 (.int .i64 op) (.int .i64 0) (.int .i64 0) (.int .u64 v) (.slice none 0 0)/\Tw U q ws.tail ((false || ws.isEmpty) || !okB 16 18446744073709551615 (ws.headD []))/\w.grownBy U (some q)) (BU.o.fin _ _ _ _ _) ?_
   rintro U ⟨⟨⟨t0,t1,t2,t3,t4⟩,-⟩,tU,gU⟩
   simp only [Nat.zero_add] at t0 t1 t2 t3 t4
   have HU:=Hm (And.intro tU gU);clear tU gU x0 x1 x2 x3 x4 z0 z1 z2 z3 z4 xf1 zf0 zf1 zf2 zf3 zf4
   exact bodyPost_ret (v:=inV ⟨op,0,0,v,[]⟩ none 0) (by simp [results,Tryz.results30,go_sem,t0,t1,t2,t3,t4]) rfl ⟨⟨op,0,0,v,[]⟩,none,0,_,_,rfl,rfl,JI _ _,HU.o.1,HU.o.2,λh ht=>by rw [arg_10];obtain ⟨s,rfl,hb⟩:=one_ok h ht;obtain ⟨u,rfl,hu,hs⟩:=hx.o hb;exact ⟨s,u,rfl,hb,hu,hs,rfl⟩,λ⟨y,hy⟩=>by rw [arg_10] at hy;obtain ⟨s,u,e,hn,-⟩:=hy;exact back_b ⟨s,e,hn⟩⟩
 . clear hl;have x1:=B2.o.x.1.2.1;have xf1:=B2.o.x.2 1
   simp only [Nat.zero_add] at x1 xf1
   go_upto_region 5 with fail
   refine Qj (λU=>Bx w q ws false (.int .i64 op) (.int .i64 64) (.int .i64 0) (.int .u64 0) (.slice none 0 0) U) B2.o.set1 ?_
   rintro U3 BU0;have BU:=Hm BU0;clear BU0 x1 xf1 B2;have HM:=Hm (more_c q ws false U3 BU.o.t)
   go_wp2_with fail
   refine HM.o.mono ?_
   rintro e w3 ⟨rfl,rfl⟩;clear HM
   cases ws with
  |nil =>
    go_upto_region 25 with fail
    obtain ⟨⟨x0,x1,x2,x3,x4⟩,xf⟩:=BU.o.x;obtain ⟨⟨z0,z1,z2,z3,z4⟩,zf⟩:=BU.o.z
    simp only [Nat.zero_add] at x0 x1 x2 x3 x4 z0 z1 z2 z3 z4
    have xf1:=xf 1;have zf0:=zf 0;have zf1:=zf 1;have zf2:=zf 2;have zf3:=zf 3;have zf4:=zf 4;clear xf zf
    go_wp2
    refine Qf (λU=>C5 U w.heap.size 0 (.int .i64 op) (.int .i64 64) (.int .i64 0) (.int .u64 0) (.slice none 0 0)/\Tw U q [] false/\w.grownBy U (some q)) (BU.o.fin _ _ _ _ _) ?_
    rintro U ⟨⟨⟨t0,t1,t2,t3,t4⟩,-⟩,tU,gU⟩
    simp only [Nat.zero_add] at t0 t1 t2 t3 t4
    have HU:=Hm (And.intro tU gU);clear tU gU x0 x1 x2 x3 x4 z0 z1 z2 z3 z4 xf1 zf0 zf1 zf2 zf3 zf4
    exact bodyPost_ret (v:=inV ⟨op,64,0,0,[]⟩ none 0) (by simp [results,Tryz.results30,go_sem,t0,t1,t2,t3,t4]) rfl ⟨⟨op,64,0,0,[]⟩,none,0,_,_,rfl,rfl,JI _ _,HU.o.1,HU.o.2,λh ht=>by rw [arg_1];exact .inl ⟨rfl,rfl⟩,λ_=>⟨rfl,rfl⟩⟩
  |cons s r =>
    have HC:=Hm (vty_c q (s::r) false U3 BU.o.t)
    go_wp2_with fail
    refine HC.o.mono ?_
    rintro e w3 ⟨rfl,ht3,hg3⟩;have B3:=Hm (BU.o.call hg3 ht3);have x1:=B3.o.x.1.2.1;have xf1:=B3.o.x.2 1
    simp only [Nat.zero_add] at x1 xf1
    clear ht3 hg3 HC BU
    go_upto_region 25 with fail
    refine Qj (λU=>Bx w q r ((false || (s::r).isEmpty) || tyN s==0) (.int .i64 op) (.int .i64 (tyN s)) (.int .i64 0) (.int .u64 0) (.slice none 0 0) U) B3.o.set1 ?_
    rintro U4 BV0;have BV:=Hm BV0;clear BV0 x1 xf1 B3;obtain ⟨⟨x0,x1,x2,x3,x4⟩,xf⟩:=BV.o.x;obtain ⟨⟨z0,z1,z2,z3,z4⟩,zf⟩:=BV.o.z
    simp only [Nat.zero_add] at x0 x1 x2 x3 x4 z0 z1 z2 z3 z4
    have xf1:=xf 1;have zf0:=zf 0;have zf1:=zf 1;have zf2:=zf 2;have zf3:=zf 3;have zf4:=zf 4;clear xf zf
    go_wp2
    refine Qf (λU=>C5 U w.heap.size 0 (.int .i64 op) (.int .i64 (tyN s)) (.int .i64 0) (.int .u64 0) (.slice none 0 0)/\Tw U q r ((false || (s::r).isEmpty) || tyN s==0)/\w.grownBy U (some q)) (BV.o.fin _ _ _ _ _) ?_
    rintro U ⟨⟨⟨t0,t1,t2,t3,t4⟩,-⟩,tU,gU⟩
    simp only [Nat.zero_add] at t0 t1 t2 t3 t4
    have HU:=Hm (And.intro tU gU);clear tU gU x0 x1 x2 x3 x4 z0 z1 z2 z3 z4 xf1 zf0 zf1 zf2 zf3 zf4
    exact bodyPost_ret (v:=inV ⟨op,tyN s,0,0,[]⟩ none 0) (by simp [results,Tryz.results30,go_sem,t0,t1,t2,t3,t4]) rfl ⟨⟨op,tyN s,0,0,[]⟩,none,0,_,_,rfl,rfl,JI _ _,HU.o.1,HU.o.2,λh ht=>by rw [arg_1];exact .inr ⟨s,by rw [ht],by simpa using h,rfl⟩,λ⟨y,hy⟩=>by rw [arg_1] at hy;exact hy.elim (λh=>absurd h.1 (by simp)) (λ⟨t,h,hn,_⟩=>by cases h;exact ⟨by simpa using hn,rfl⟩)⟩
def ins_2:=λq ws op w hf h hl hV=>ins_x q ws op w (2) (.inl rfl) hf h hl hV
def ins_4:=λq ws op w hf h hl hV=>ins_x q ws op w (4) (.inr (.inl rfl)) hf h hl hV
def ins_5:=λq ws op w hf h hl hV=>ins_x q ws op w (5) (.inr (.inr (.inl rfl))) hf h hl hV
def ins_7:=λq ws op w hf h hl hV=>ins_x q ws op w (7) (.inr (.inr (.inr (.inl rfl)))) hf h hl hV
def ins_8:=λq ws op w hf h hl hV=>ins_x q ws op w (8) (.inr (.inr (.inr (.inr (.inl rfl))))) hf h hl hV
def ins_9:=λq ws op w hf h hl hV=>ins_x q ws op w (9) (.inr (.inr (.inr (.inr (.inr (.inl rfl)))))) hf h hl hV
def ins_10:=λq ws op w hf h hl hV=>ins_x q ws op w (10) (.inr (.inr (.inr (.inr (.inr (.inr (.inl rfl))))))) hf h hl hV
def ins_1:=λq ws op w hf h hl hV=>ins_x q ws op w (1) (.inr (.inr (.inr (.inr (.inr (.inr (.inr (rfl)))))))) hf h hl hV
end Go.Proofs.YtipfjdogokanbaaGreatDoor.Yz
