import Derived.Test.YtdbmolambolmgaaGreatGn
set_option linter.all false
set_option maxHeartbeats 16000000
set_option maxRecDepth 100000
namespace Go.Proofs.YtdbmolambolmgaaGreat
open Go.RowKit Go.Sort
set_option maxRecDepth 100000
theorem eqB_any (a b:Option Addr) (ca cb:Nat) (xs:List Int) (w:World) (hl:xs.length≤1099511627776) (ha:HI .u8 0 w a xs) (hb:HI .u8 0 w b xs) :
    Calls Tryz.prog 13 #[.slice a xs.length ca,.slice b xs.length cb] w fun e w'=>e=.returned (.bool true)∧∃ n,w'=w.drewN n:=by
 by_cases hx:xs=[]
 · subst hx
   clear ha hb hl
   go_enter Tryz.func13,Tryz.ntmps13
   go_wp2
   refine wp_loop_rounds 1 ?_
   rw [rounds_succ]
   go_wp2
   go_ret
   exact ⟨rfl,0,rfl⟩
 · have hpos:0<xs.length:=List.length_pos_iff.2 hx
   rcases ha with h | ⟨b1,o1,rfl,_,hc1⟩
   · exact absurd h hx
   rcases hb with h | ⟨b2,o2,rfl,_,hc2⟩
   · exact absurd h hx
   have hpos':(0:Int)<(xs.length:Int):=by omega
   clear hx
   go_enter Tryz.func13,Tryz.ntmps13
   go_wp2
   go_loopw [5] (fun i wr=>∃ k:Nat,k≤xs.length∧i=.int .i64 k∧∃ m,wr=w.drewN m) (fun i _=>xs.length-(intOf i).toNat)
   case atStart=>exact ⟨0,Nat.zero_le _,rfl,0,rfl⟩
   case round =>
    obtain ⟨k,hk,rfl,m,rfl⟩:=hrel
    by_cases hlt:k<xs.length
    · have d1:(w.drewN m).cell? ⟨b1,o1+k,none⟩=some (.int .u8 (xs.getD k 0)):=hc1 k hlt
      have d2:(w.drewN m).cell? ⟨b2,o2+k,none⟩=some (.int .u8 (xs.getD k 0)):=hc2 k hlt
      have hki:(k:Int)<(xs.length:Int):=by omega
      go_wp2
      go_quiet (fail)
      go_wp2
      go_roundw
      case rel=>exact ⟨k+1,by omega,by go_num,_,rfl⟩
      case measure=>simp [intOf];omega
    · go_wp2
      go_ret
      exact ⟨rfl,m,rfl⟩
theorem two (w:World) (b z:List Value) (t t':TypeId):Bk ((w.alloc (.cells b.toArray t)).alloc (.cells z.toArray t')) w.heap.size b∧Bk ((w.alloc (.cells b.toArray t)).alloc (.cells z.toArray t')) (w.heap.size+1) z∧Below w.heap.size w ((w.alloc (.cells b.toArray t)).alloc (.cells z.toArray t')):=by
 refine ⟨Bk.new.past,?_,((Below.refl _ _).alloc (Nat.le_refl _) _).alloc (by simp) _⟩
 have:=(Bk.new (w:=w.alloc (.cells b.toArray t)) (cs:=z) (t:=t'))
 simpa using this
theorem reLimits_c (x:Limits) (w:World) (hI:Limits.Is 0 w x) (hI':Limits.Is 0 w x) (hl:Limits.LB 1048576 x) :
    Calls Tryz.prog 132 #[.agg #[.int .i64 x.min,.int .i64 x.max,.bool x.has],.agg #[.int .i64 x.min,.int .i64 x.max,.bool x.has]] w fun e w'=>e=.returned (.bool true)∧Below w.heap.size w w':=by
 have T0:Hid (Bk ((w.alloc (.cells #[.int .i64 x.min,.int .i64 x.max,.bool x.has] 99)).alloc (.cells #[.int .i64 x.min,.int .i64 x.max,.bool x.has] 99)) w.heap.size [.int .i64 x.min,.int .i64 x.max,.bool x.has]∧Bk ((w.alloc (.cells #[.int .i64 x.min,.int .i64 x.max,.bool x.has] 99)).alloc (.cells #[.int .i64 x.min,.int .i64 x.max,.bool x.has] 99)) (w.heap.size+1) [.int .i64 x.min,.int .i64 x.max,.bool x.has]∧Below w.heap.size w ((w.alloc (.cells #[.int .i64 x.min,.int .i64 x.max,.bool x.has] 99)).alloc (.cells #[.int .i64 x.min,.int .i64 x.max,.bool x.has] 99))):=two w [.int .i64 x.min,.int .i64 x.max,.bool x.has] [.int .i64 x.min,.int .i64 x.max,.bool x.has] 99 99
 go_enter Tryz.func132,Tryz.ntmps132
 go_upto_region 1 with fail
 refine wp_gen (fun W=>Bk W w.heap.size [.int .i64 x.min,.int .i64 x.max,.bool x.has]∧Bk W (w.heap.size+1) [.int .i64 x.min,.int .i64 x.max,.bool x.has]∧Below w.heap.size w W) T0.out ?_
 rintro W ⟨bb,bp,hb⟩
 clear T0
 have q0:=bb.2.1 0 _ rfl
 have p0:=bp.2.1 0 _ rfl
 have q1:=bb.2.1 1 _ rfl
 have p1:=bp.2.1 1 _ rfl
 have q2:=bb.2.1 2 _ rfl
 have p2:=bp.2.1 2 _ rfl
 have HB:=Hm hb
 clear hb bb bp
 go_wp2
 go_ret
 exact ⟨rfl,HB.out⟩
theorem reGType_c (x:GType) (w:World) (hI:GType.Is 0 w x) (hI':GType.Is 0 w x) (hl:GType.LB 1048576 x) :
    Calls Tryz.prog 181 #[.agg #[.int .i64 x.ty,.bool x.mu],.agg #[.int .i64 x.ty,.bool x.mu]] w fun e w'=>e=.returned (.bool true)∧Below w.heap.size w w':=by
 have T0:Hid (Bk ((w.alloc (.cells #[.int .i64 x.ty,.bool x.mu] 101)).alloc (.cells #[.int .i64 x.ty,.bool x.mu] 101)) w.heap.size [.int .i64 x.ty,.bool x.mu]∧Bk ((w.alloc (.cells #[.int .i64 x.ty,.bool x.mu] 101)).alloc (.cells #[.int .i64 x.ty,.bool x.mu] 101)) (w.heap.size+1) [.int .i64 x.ty,.bool x.mu]∧Below w.heap.size w ((w.alloc (.cells #[.int .i64 x.ty,.bool x.mu] 101)).alloc (.cells #[.int .i64 x.ty,.bool x.mu] 101))):=two w [.int .i64 x.ty,.bool x.mu] [.int .i64 x.ty,.bool x.mu] 101 101
 go_enter Tryz.func181,Tryz.ntmps181
 go_upto_region 1 with fail
 refine wp_gen (fun W=>Bk W w.heap.size [.int .i64 x.ty,.bool x.mu]∧Bk W (w.heap.size+1) [.int .i64 x.ty,.bool x.mu]∧Below w.heap.size w W) T0.out ?_
 rintro W ⟨bb,bp,hb⟩
 clear T0
 have q0:=bb.2.1 0 _ rfl
 have p0:=bp.2.1 0 _ rfl
 have q1:=bb.2.1 1 _ rfl
 have p1:=bp.2.1 1 _ rfl
 have HB:=Hm hb
 clear hb bb bp
 go_wp2
 go_ret
 exact ⟨rfl,HB.out⟩
theorem reGrp_c (x:Grp) (w:World) (hI:Grp.Is 0 w x) (hI':Grp.Is 0 w x) (hl:Grp.LB 1048576 x) :
    Calls Tryz.prog 221 #[.agg #[.int .i64 x.n,.int .i64 x.ty],.agg #[.int .i64 x.n,.int .i64 x.ty]] w fun e w'=>e=.returned (.bool true)∧Below w.heap.size w w':=by
 have T0:Hid (Bk ((w.alloc (.cells #[.int .i64 x.n,.int .i64 x.ty] 191)).alloc (.cells #[.int .i64 x.n,.int .i64 x.ty] 191)) w.heap.size [.int .i64 x.n,.int .i64 x.ty]∧Bk ((w.alloc (.cells #[.int .i64 x.n,.int .i64 x.ty] 191)).alloc (.cells #[.int .i64 x.n,.int .i64 x.ty] 191)) (w.heap.size+1) [.int .i64 x.n,.int .i64 x.ty]∧Below w.heap.size w ((w.alloc (.cells #[.int .i64 x.n,.int .i64 x.ty] 191)).alloc (.cells #[.int .i64 x.n,.int .i64 x.ty] 191))):=two w [.int .i64 x.n,.int .i64 x.ty] [.int .i64 x.n,.int .i64 x.ty] 191 191
 go_enter Tryz.func221,Tryz.ntmps221
 go_upto_region 1 with fail
 refine wp_gen (fun W=>Bk W w.heap.size [.int .i64 x.n,.int .i64 x.ty]∧Bk W (w.heap.size+1) [.int .i64 x.n,.int .i64 x.ty]∧Below w.heap.size w W) T0.out ?_
 rintro W ⟨bb,bp,hb⟩
 clear T0
 have q0:=bb.2.1 0 _ rfl
 have p0:=bp.2.1 0 _ rfl
 have q1:=bb.2.1 1 _ rfl
 have p1:=bp.2.1 1 _ rfl
 have HB:=Hm hb
 clear hb bb bp
 go_wp2
 go_ret
 exact ⟨rfl,HB.out⟩
theorem reIn_c (x:In) (a1:Option Addr) (c1:Nat) (a1':Option Addr) (c1':Nat) (w:World) (hI:In.Is 0 w x a1) (hI':In.Is 0 w x a1') (hl:In.LB 1048576 x) :
    Calls Tryz.prog 220 #[.agg #[.int .i64 x.op,.int .i64 x.a,.int .i64 x.b,.int .u64 x.v,.slice a1 x.l.length c1],.agg #[.int .i64 x.op,.int .i64 x.a,.int .i64 x.b,.int .u64 x.v,.slice a1' x.l.length c1']] w fun e w'=>e=.returned (.bool true)∧Below w.heap.size w w':=by
 have l4:x.l.length≤1048576:=hl
 have r1:=hI
 clear hI
 have R1:=Hm r1
 clear r1
 have r1':=hI'
 clear hI'
 have R1':=Hm r1'
 clear r1'
 have T0:Hid (Bk ((w.alloc (.cells #[.int .i64 x.op,.int .i64 x.a,.int .i64 x.b,.int .u64 x.v,.slice a1 x.l.length c1] 188)).alloc (.cells #[.int .i64 x.op,.int .i64 x.a,.int .i64 x.b,.int .u64 x.v,.slice a1' x.l.length c1'] 188)) w.heap.size [.int .i64 x.op,.int .i64 x.a,.int .i64 x.b,.int .u64 x.v,.slice a1 x.l.length c1]∧Bk ((w.alloc (.cells #[.int .i64 x.op,.int .i64 x.a,.int .i64 x.b,.int .u64 x.v,.slice a1 x.l.length c1] 188)).alloc (.cells #[.int .i64 x.op,.int .i64 x.a,.int .i64 x.b,.int .u64 x.v,.slice a1' x.l.length c1'] 188)) (w.heap.size+1) [.int .i64 x.op,.int .i64 x.a,.int .i64 x.b,.int .u64 x.v,.slice a1' x.l.length c1']∧Below w.heap.size w ((w.alloc (.cells #[.int .i64 x.op,.int .i64 x.a,.int .i64 x.b,.int .u64 x.v,.slice a1 x.l.length c1] 188)).alloc (.cells #[.int .i64 x.op,.int .i64 x.a,.int .i64 x.b,.int .u64 x.v,.slice a1' x.l.length c1'] 188))):=two w [.int .i64 x.op,.int .i64 x.a,.int .i64 x.b,.int .u64 x.v,.slice a1 x.l.length c1] [.int .i64 x.op,.int .i64 x.a,.int .i64 x.b,.int .u64 x.v,.slice a1' x.l.length c1'] 188 188
 go_enter Tryz.func220,Tryz.ntmps220
 go_upto_region 1 with fail
 refine wp_gen (fun W=>Bk W w.heap.size [.int .i64 x.op,.int .i64 x.a,.int .i64 x.b,.int .u64 x.v,.slice a1 x.l.length c1]∧Bk W (w.heap.size+1) [.int .i64 x.op,.int .i64 x.a,.int .i64 x.b,.int .u64 x.v,.slice a1' x.l.length c1']∧Below w.heap.size w W) T0.out ?_
 rintro W ⟨bb,bp,hb⟩
 clear T0
 have q0:=bb.2.1 0 _ rfl
 have p0:=bp.2.1 0 _ rfl
 have q1:=bb.2.1 1 _ rfl
 have p1:=bp.2.1 1 _ rfl
 have q2:=bb.2.1 2 _ rfl
 have p2:=bp.2.1 2 _ rfl
 have q3:=bb.2.1 3 _ rfl
 have p3:=bp.2.1 3 _ rfl
 have q4:=bb.2.1 4 _ rfl
 have p4:=bp.2.1 4 _ rfl
 have HC1:=Hm (eq_any a1 a1' c1 c1' x.l W (by omega) (R1.out.up (up_below hb)).has (R1'.out.up (up_below hb)).has)
 go_wp2_with fail
 refine HC1.out.mono ?_
 rintro e W1 ⟨rfl,nd1,hd1⟩
 have hb1:Below W.heap.size W W1:=by rw [hd1];exact below_drewN' (Below.refl _ _) _
 clear hd1
 have bb:=bb.keep hb1
 have bp:=bp.keep hb1
 have hb:=hb.trans (hb1.mono hb.size)
 clear HC1 hb1
 have q0:=bb.2.1 0 _ rfl
 have p0:=bp.2.1 0 _ rfl
 have q1:=bb.2.1 1 _ rfl
 have p1:=bp.2.1 1 _ rfl
 have q2:=bb.2.1 2 _ rfl
 have p2:=bp.2.1 2 _ rfl
 have q3:=bb.2.1 3 _ rfl
 have p3:=bp.2.1 3 _ rfl
 have q4:=bb.2.1 4 _ rfl
 have p4:=bp.2.1 4 _ rfl
 have HB:=Hm hb
 clear hb bb bp
 go_wp2
 go_ret
 exact ⟨rfl,HB.out⟩
theorem reIns_c (a a':Option Addr) (c c':Nat) (xs:List In) (w:World) (hl:xs.length≤1048576∧∀ i,i<xs.length→In.LB 1048576 (xs.getD i I0)) (h:In.Ls 0 w a xs) (h':In.Ls 0 w a' xs) :
    Calls Tryz.prog 182 #[.slice a xs.length c,.slice a' xs.length c'] w fun e w'=>e=.returned (.bool true)∧Below w.heap.size w w':=by
 obtain ⟨hn,hl⟩:=hl
 have H1:=Hm h
 have H2:=Hm h'
 have H3:=Hm hl
 clear h h' hl
 go_enter Tryz.func182,Tryz.ntmps182
 go_wp2
 go_loopw [5] (fun i wr=>∃ k:Nat,k≤xs.length∧i=.int .i64 k∧Below w.heap.size w wr) (fun i _=>xs.length-(intOf i).toNat)
 case atStart=>exact ⟨0,Nat.zero_le _,rfl,Below.refl _ _⟩
 case round =>
  obtain ⟨k,hk,rfl,hb⟩:=hrel
  by_cases hlt:k<xs.length
  · have hki:(k:Int)<(xs.length:Int):=by omega
    rcases H1.out.up (up_below hb) with hx | ⟨b,o,ea,_,hc⟩
    · subst hx;simp at hlt
    rcases H2.out.up (up_below hb) with hx | ⟨b',o',ea',_,hc'⟩
    · subst hx;simp at hlt
    have g1:=hc k hlt
    have g2:=hc' k hlt
    have hl:=H3.out k hlt
    subst ea ea'
    generalize xs.getD k I0=x at g1 g2 hl
    obtain ⟨a1,c1,⟨q0,q1,q2,q3,q4⟩,hi⟩:=g1
    obtain ⟨a1',c1',⟨p0,p1,p2,p3,p4⟩,hi'⟩:=g2
    have kq0:=cell_regrown q0
    have kp0:=cell_regrown p0
    have kq1:=cell_regrown q1
    have kp1:=cell_regrown p1
    have kq2:=cell_regrown q2
    have kp2:=cell_regrown p2
    have kq3:=cell_regrown q3
    have kp3:=cell_regrown p3
    have kq4:=cell_regrown q4
    have kp4:=cell_regrown p4
    have cE:∀ d os,Calls Tryz.prog 220 #[.agg #[.int .i64 x.op,.int .i64 x.a,.int .i64 x.b,.int .u64 x.v,.slice a1 x.l.length c1],.agg #[.int .i64 x.op,.int .i64 x.a,.int .i64 x.b,.int .u64 x.v,.slice a1' x.l.length c1']] (grow (redrawn wr d) os) fun e w''=>e=.returned (.bool true)∧∃ p:Regrown,w''=grow (redrawn wr p.d) p.os:=fun d os=>Calls.regrown_of (reIn_c x a1 c1 a1' c1' _ (hi.up (up_below (below_regrown wr d os))) (hi'.up (up_below (below_regrown wr d os))) hl)
    have HB:=Hm hb
    have HE:=Hm cE
    clear hb hc hc' hi hi' hl H1 H2 H3 cE q0 p0 q1 p1 q2 p2 q3 p3 q4 p4
    go_wp2
    refine wp_region_quiet_below (by kernel_rfl) (by kernel_rfl) ?_
    repeat (quiet_step (exact HE.out _ _))
    refine wpQuiet_nil ?_
    intro _ hw'
    obtain ⟨⟨dq,osq⟩,hw''⟩:=hw'
    subst hw''
    have hw5:=HB.out.trans ((below_regrown wr dq osq).mono HB.out.size)
    clear kq0 kp0 kq1 kp1 kq2 kp2 kq3 kp3 kq4 kp4
    generalize grow (redrawn wr dq) osq=w5 at *
    show Exit.then _ _ Exit.normal _ w5
    go_wp2
    go_roundw
    case rel=>exact ⟨k+1,by omega,by go_num,hw5⟩
    case measure=>simp [intOf];omega
  · go_wp2
    go_ret
    exact ⟨rfl,hb⟩
theorem reLimitss_c (a a':Option Addr) (c c':Nat) (xs:List Limits) (w:World) (hl:xs.length≤1048576∧∀ i,i<xs.length→Limits.LB 1048576 (xs.getD i Limits.z)) (h:Limits.Ls 0 w a xs) (h':Limits.Ls 0 w a' xs) :
    Calls Tryz.prog 70 #[.slice a xs.length c,.slice a' xs.length c'] w fun e w'=>e=.returned (.bool true)∧Below w.heap.size w w':=by
 obtain ⟨hn,hl⟩:=hl
 have H1:=Hm h
 have H2:=Hm h'
 have H3:=Hm hl
 clear h h' hl
 go_enter Tryz.func70,Tryz.ntmps70
 go_wp2
 go_loopw [5] (fun i wr=>∃ k:Nat,k≤xs.length∧i=.int .i64 k∧Below w.heap.size w wr) (fun i _=>xs.length-(intOf i).toNat)
 case atStart=>exact ⟨0,Nat.zero_le _,rfl,Below.refl _ _⟩
 case round =>
  obtain ⟨k,hk,rfl,hb⟩:=hrel
  by_cases hlt:k<xs.length
  · have hki:(k:Int)<(xs.length:Int):=by omega
    rcases H1.out.up (up_below hb) with hx | ⟨b,o,ea,_,hc⟩
    · subst hx;simp at hlt
    rcases H2.out.up (up_below hb) with hx | ⟨b',o',ea',_,hc'⟩
    · subst hx;simp at hlt
    have g1:=hc k hlt
    have g2:=hc' k hlt
    have hl:=H3.out k hlt
    subst ea ea'
    generalize xs.getD k Limits.z=x at g1 g2 hl
    obtain ⟨⟨q0,q1,q2⟩,hi⟩:=g1
    obtain ⟨⟨p0,p1,p2⟩,hi'⟩:=g2
    have kq0:=cell_regrown q0
    have kp0:=cell_regrown p0
    have kq1:=cell_regrown q1
    have kp1:=cell_regrown p1
    have kq2:=cell_regrown q2
    have kp2:=cell_regrown p2
    have cE:∀ d os,Calls Tryz.prog 132 #[.agg #[.int .i64 x.min,.int .i64 x.max,.bool x.has],.agg #[.int .i64 x.min,.int .i64 x.max,.bool x.has]] (grow (redrawn wr d) os) fun e w''=>e=.returned (.bool true)∧∃ p:Regrown,w''=grow (redrawn wr p.d) p.os:=fun d os=>Calls.regrown_of (reLimits_c x _ (hi.up (up_below (below_regrown wr d os))) (hi'.up (up_below (below_regrown wr d os))) hl)
    have HB:=Hm hb
    have HE:=Hm cE
    clear hb hc hc' hi hi' hl H1 H2 H3 cE q0 p0 q1 p1 q2 p2
    go_wp2
    refine wp_region_quiet_below (by kernel_rfl) (by kernel_rfl) ?_
    repeat (quiet_step (exact HE.out _ _))
    refine wpQuiet_nil ?_
    intro _ hw'
    obtain ⟨⟨dq,osq⟩,hw''⟩:=hw'
    subst hw''
    have hw5:=HB.out.trans ((below_regrown wr dq osq).mono HB.out.size)
    clear kq0 kp0 kq1 kp1 kq2 kp2
    generalize grow (redrawn wr dq) osq=w5 at *
    show Exit.then _ _ Exit.normal _ w5
    go_wp2
    go_roundw
    case rel=>exact ⟨k+1,by omega,by go_num,hw5⟩
    case measure=>simp [intOf];omega
  · go_wp2
    go_ret
    exact ⟨rfl,hb⟩
theorem reGrps_c (a a':Option Addr) (c c':Nat) (xs:List Grp) (w:World) (hl:xs.length≤1048576∧∀ i,i<xs.length→Grp.LB 1048576 (xs.getD i Grp.z)) (h:Grp.Ls 0 w a xs) (h':Grp.Ls 0 w a' xs) :
    Calls Tryz.prog 183 #[.slice a xs.length c,.slice a' xs.length c'] w fun e w'=>e=.returned (.bool true)∧Below w.heap.size w w':=by
 obtain ⟨hn,hl⟩:=hl
 have H1:=Hm h
 have H2:=Hm h'
 have H3:=Hm hl
 clear h h' hl
 go_enter Tryz.func183,Tryz.ntmps183
 go_wp2
 go_loopw [5] (fun i wr=>∃ k:Nat,k≤xs.length∧i=.int .i64 k∧Below w.heap.size w wr) (fun i _=>xs.length-(intOf i).toNat)
 case atStart=>exact ⟨0,Nat.zero_le _,rfl,Below.refl _ _⟩
 case round =>
  obtain ⟨k,hk,rfl,hb⟩:=hrel
  by_cases hlt:k<xs.length
  · have hki:(k:Int)<(xs.length:Int):=by omega
    rcases H1.out.up (up_below hb) with hx | ⟨b,o,ea,_,hc⟩
    · subst hx;simp at hlt
    rcases H2.out.up (up_below hb) with hx | ⟨b',o',ea',_,hc'⟩
    · subst hx;simp at hlt
    have g1:=hc k hlt
    have g2:=hc' k hlt
    have hl:=H3.out k hlt
    subst ea ea'
    generalize xs.getD k Grp.z=x at g1 g2 hl
    obtain ⟨⟨q0,q1⟩,hi⟩:=g1
    obtain ⟨⟨p0,p1⟩,hi'⟩:=g2
    have kq0:=cell_regrown q0
    have kp0:=cell_regrown p0
    have kq1:=cell_regrown q1
    have kp1:=cell_regrown p1
    have cE:∀ d os,Calls Tryz.prog 221 #[.agg #[.int .i64 x.n,.int .i64 x.ty],.agg #[.int .i64 x.n,.int .i64 x.ty]] (grow (redrawn wr d) os) fun e w''=>e=.returned (.bool true)∧∃ p:Regrown,w''=grow (redrawn wr p.d) p.os:=fun d os=>Calls.regrown_of (reGrp_c x _ (hi.up (up_below (below_regrown wr d os))) (hi'.up (up_below (below_regrown wr d os))) hl)
    have HB:=Hm hb
    have HE:=Hm cE
    clear hb hc hc' hi hi' hl H1 H2 H3 cE q0 p0 q1 p1
    go_wp2
    refine wp_region_quiet_below (by kernel_rfl) (by kernel_rfl) ?_
    repeat (quiet_step (exact HE.out _ _))
    refine wpQuiet_nil ?_
    intro _ hw'
    obtain ⟨⟨dq,osq⟩,hw''⟩:=hw'
    subst hw''
    have hw5:=HB.out.trans ((below_regrown wr dq osq).mono HB.out.size)
    clear kq0 kp0 kq1 kp1
    generalize grow (redrawn wr dq) osq=w5 at *
    show Exit.then _ _ Exit.normal _ w5
    go_wp2
    go_roundw
    case rel=>exact ⟨k+1,by omega,by go_num,hw5⟩
    case measure=>simp [intOf];omega
  · go_wp2
    go_ret
    exact ⟨rfl,hb⟩
open Go.RowKit Go.Sort
theorem reFType_c (x:FType) (a1:Option Addr) (c1:Nat) (a2:Option Addr) (c2:Nat) (a1':Option Addr) (c1':Nat) (a2':Option Addr) (c2':Nat) (w:World) (hI:FType.Is 0 w x a1 a2) (hI':FType.Is 0 w x a1' a2') (hl:FType.LB 1048576 x) :
    Calls Tryz.prog 130 #[.agg #[.slice a1 x.ps.length c1,.slice a2 x.rs.length c2],.agg #[.slice a1' x.ps.length c1',.slice a2' x.rs.length c2']] w fun e w'=>e=.returned (.bool true)∧Below w.heap.size w w':=by
 obtain ⟨l0,l1⟩:=hl
 obtain ⟨r1,r2⟩:=hI
 have R1:=Hm r1
 have R2:=Hm r2
 clear r1 r2
 obtain ⟨r1',r2'⟩:=hI'
 have R1':=Hm r1'
 have R2':=Hm r2'
 clear r1' r2'
 have T0:Hid (Bk ((w.alloc (.cells #[.slice a1 x.ps.length c1,.slice a2 x.rs.length c2] 95)).alloc (.cells #[.slice a1' x.ps.length c1',.slice a2' x.rs.length c2'] 95)) w.heap.size [.slice a1 x.ps.length c1,.slice a2 x.rs.length c2]∧Bk ((w.alloc (.cells #[.slice a1 x.ps.length c1,.slice a2 x.rs.length c2] 95)).alloc (.cells #[.slice a1' x.ps.length c1',.slice a2' x.rs.length c2'] 95)) (w.heap.size+1) [.slice a1' x.ps.length c1',.slice a2' x.rs.length c2']∧Below w.heap.size w ((w.alloc (.cells #[.slice a1 x.ps.length c1,.slice a2 x.rs.length c2] 95)).alloc (.cells #[.slice a1' x.ps.length c1',.slice a2' x.rs.length c2'] 95))):=two w [.slice a1 x.ps.length c1,.slice a2 x.rs.length c2] [.slice a1' x.ps.length c1',.slice a2' x.rs.length c2'] 95 95
 go_enter Tryz.func130,Tryz.ntmps130
 go_upto_region 1 with fail
 refine wp_gen (fun W=>Bk W w.heap.size [.slice a1 x.ps.length c1,.slice a2 x.rs.length c2]∧Bk W (w.heap.size+1) [.slice a1' x.ps.length c1',.slice a2' x.rs.length c2']∧Below w.heap.size w W) T0.out ?_
 rintro W ⟨bb,bp,hb⟩
 clear T0
 have q0:=bb.2.1 0 _ rfl
 have p0:=bp.2.1 0 _ rfl
 have q1:=bb.2.1 1 _ rfl
 have p1:=bp.2.1 1 _ rfl
 have HC1:=Hm (eq_any a1 a1' c1 c1' x.ps W (by omega) (R1.out.up (up_below hb)).has (R1'.out.up (up_below hb)).has)
 go_wp2_with fail
 refine HC1.out.mono ?_
 rintro e W1 ⟨rfl,nd1,hd1⟩
 have hb1:Below W.heap.size W W1:=by rw [hd1];exact below_drewN' (Below.refl _ _) _
 clear hd1
 have bb:=bb.keep hb1
 have bp:=bp.keep hb1
 have hb:=hb.trans (hb1.mono hb.size)
 clear HC1 hb1
 have q0:=bb.2.1 0 _ rfl
 have p0:=bp.2.1 0 _ rfl
 have q1:=bb.2.1 1 _ rfl
 have p1:=bp.2.1 1 _ rfl
 have HC2:=Hm (eq_any a2 a2' c2 c2' x.rs W1 (by omega) (R2.out.up (up_below hb)).has (R2'.out.up (up_below hb)).has)
 go_wp2_with fail
 refine HC2.out.mono ?_
 rintro e W2 ⟨rfl,nd2,hd2⟩
 have hb2:Below W1.heap.size W1 W2:=by rw [hd2];exact below_drewN' (Below.refl _ _) _
 clear hd2
 have bb:=bb.keep hb2
 have bp:=bp.keep hb2
 have hb:=hb.trans (hb2.mono hb.size)
 clear HC2 hb2
 have q0:=bb.2.1 0 _ rfl
 have p0:=bp.2.1 0 _ rfl
 have q1:=bb.2.1 1 _ rfl
 have p1:=bp.2.1 1 _ rfl
 have HB:=Hm hb
 clear hb bb bp
 go_wp2
 go_ret
 exact ⟨rfl,HB.out⟩
theorem reFTypes_c (a a':Option Addr) (c c':Nat) (xs:List FType) (w:World) (hl:xs.length≤1048576∧∀ i,i<xs.length→FType.LB 1048576 (xs.getD i FType.z)) (h:FType.Ls 0 w a xs) (h':FType.Ls 0 w a' xs) :
    Calls Tryz.prog 67 #[.slice a xs.length c,.slice a' xs.length c'] w fun e w'=>e=.returned (.bool true)∧Below w.heap.size w w':=by
 obtain ⟨hn,hl⟩:=hl
 have H1:=Hm h
 have H2:=Hm h'
 have H3:=Hm hl
 clear h h' hl
 go_enter Tryz.func67,Tryz.ntmps67
 go_wp2
 go_loopw [5] (fun i wr=>∃ k:Nat,k≤xs.length∧i=.int .i64 k∧Below w.heap.size w wr) (fun i _=>xs.length-(intOf i).toNat)
 case atStart=>exact ⟨0,Nat.zero_le _,rfl,Below.refl _ _⟩
 case round =>
  obtain ⟨k,hk,rfl,hb⟩:=hrel
  by_cases hlt:k<xs.length
  · have hki:(k:Int)<(xs.length:Int):=by omega
    rcases H1.out.up (up_below hb) with hx | ⟨b,o,ea,_,hc⟩
    · subst hx;simp at hlt
    rcases H2.out.up (up_below hb) with hx | ⟨b',o',ea',_,hc'⟩
    · subst hx;simp at hlt
    have g1:=hc k hlt
    have g2:=hc' k hlt
    have hl:=H3.out k hlt
    subst ea ea'
    generalize xs.getD k FType.z=x at g1 g2 hl
    obtain ⟨a1,c1,a2,c2,⟨q0,q1⟩,hi⟩:=g1
    obtain ⟨a1',c1',a2',c2',⟨p0,p1⟩,hi'⟩:=g2
    have kq0:=cell_regrown q0
    have kp0:=cell_regrown p0
    have kq1:=cell_regrown q1
    have kp1:=cell_regrown p1
    have cE:∀ d os,Calls Tryz.prog 130 #[.agg #[.slice a1 x.ps.length c1,.slice a2 x.rs.length c2],.agg #[.slice a1' x.ps.length c1',.slice a2' x.rs.length c2']] (grow (redrawn wr d) os) fun e w''=>e=.returned (.bool true)∧∃ p:Regrown,w''=grow (redrawn wr p.d) p.os:=fun d os=>Calls.regrown_of (reFType_c x a1 c1 a2 c2 a1' c1' a2' c2' _ (hi.up (up_below (below_regrown wr d os))) (hi'.up (up_below (below_regrown wr d os))) hl)
    have HB:=Hm hb
    have HE:=Hm cE
    clear hb hc hc' hi hi' hl H1 H2 H3 cE q0 p0 q1 p1
    go_wp2
    refine wp_region_quiet_below (by kernel_rfl) (by kernel_rfl) ?_
    repeat (quiet_step (exact HE.out _ _))
    refine wpQuiet_nil ?_
    intro _ hw'
    obtain ⟨⟨dq,osq⟩,hw''⟩:=hw'
    subst hw''
    have hw5:=HB.out.trans ((below_regrown wr dq osq).mono HB.out.size)
    clear kq0 kp0 kq1 kp1
    generalize grow (redrawn wr dq) osq=w5 at *
    show Exit.then _ _ Exit.normal _ w5
    go_wp2
    go_roundw
    case rel=>exact ⟨k+1,by omega,by go_num,hw5⟩
    case measure=>simp [intOf];omega
  · go_wp2
    go_ret
    exact ⟨rfl,hb⟩
theorem reImp_c (x:Imp) (w:World) (hI:Imp.Is 0 w x) (hI':Imp.Is 0 w x) (hl:Imp.LB 1048576 x) :
    Calls Tryz.prog 131 #[.agg #[.string x.mod,.string x.nm,.int .i64 x.kind,.int .i64 x.ty,.int .i64 x.lim.min,.int .i64 x.lim.max,.bool x.lim.has,.int .i64 x.gl.ty,.bool x.gl.mu],.agg #[.string x.mod,.string x.nm,.int .i64 x.kind,.int .i64 x.ty,.int .i64 x.lim.min,.int .i64 x.lim.max,.bool x.lim.has,.int .i64 x.gl.ty,.bool x.gl.mu]] w fun e w'=>e=.returned (.bool true)∧Below w.heap.size w w':=by
 obtain ⟨l0,l1⟩:=hl
 have hs0:(x.mod.toList==x.mod.toList)=true:=by simp
 have hs1:(x.nm.toList==x.nm.toList)=true:=by simp
 have T0:Hid (Bk ((w.alloc (.cells #[.string x.mod,.string x.nm,.int .i64 x.kind,.int .i64 x.ty,.int .i64 x.lim.min,.int .i64 x.lim.max,.bool x.lim.has,.int .i64 x.gl.ty,.bool x.gl.mu] 103)).alloc (.cells #[.string x.mod,.string x.nm,.int .i64 x.kind,.int .i64 x.ty,.int .i64 x.lim.min,.int .i64 x.lim.max,.bool x.lim.has,.int .i64 x.gl.ty,.bool x.gl.mu] 103)) w.heap.size [.string x.mod,.string x.nm,.int .i64 x.kind,.int .i64 x.ty,.int .i64 x.lim.min,.int .i64 x.lim.max,.bool x.lim.has,.int .i64 x.gl.ty,.bool x.gl.mu]∧Bk ((w.alloc (.cells #[.string x.mod,.string x.nm,.int .i64 x.kind,.int .i64 x.ty,.int .i64 x.lim.min,.int .i64 x.lim.max,.bool x.lim.has,.int .i64 x.gl.ty,.bool x.gl.mu] 103)).alloc (.cells #[.string x.mod,.string x.nm,.int .i64 x.kind,.int .i64 x.ty,.int .i64 x.lim.min,.int .i64 x.lim.max,.bool x.lim.has,.int .i64 x.gl.ty,.bool x.gl.mu] 103)) (w.heap.size+1) [.string x.mod,.string x.nm,.int .i64 x.kind,.int .i64 x.ty,.int .i64 x.lim.min,.int .i64 x.lim.max,.bool x.lim.has,.int .i64 x.gl.ty,.bool x.gl.mu]∧Below w.heap.size w ((w.alloc (.cells #[.string x.mod,.string x.nm,.int .i64 x.kind,.int .i64 x.ty,.int .i64 x.lim.min,.int .i64 x.lim.max,.bool x.lim.has,.int .i64 x.gl.ty,.bool x.gl.mu] 103)).alloc (.cells #[.string x.mod,.string x.nm,.int .i64 x.kind,.int .i64 x.ty,.int .i64 x.lim.min,.int .i64 x.lim.max,.bool x.lim.has,.int .i64 x.gl.ty,.bool x.gl.mu] 103))):=two w [.string x.mod,.string x.nm,.int .i64 x.kind,.int .i64 x.ty,.int .i64 x.lim.min,.int .i64 x.lim.max,.bool x.lim.has,.int .i64 x.gl.ty,.bool x.gl.mu] [.string x.mod,.string x.nm,.int .i64 x.kind,.int .i64 x.ty,.int .i64 x.lim.min,.int .i64 x.lim.max,.bool x.lim.has,.int .i64 x.gl.ty,.bool x.gl.mu] 103 103
 go_enter Tryz.func131,Tryz.ntmps131
 go_upto_region 1 with fail
 refine wp_gen (fun W=>Bk W w.heap.size [.string x.mod,.string x.nm,.int .i64 x.kind,.int .i64 x.ty,.int .i64 x.lim.min,.int .i64 x.lim.max,.bool x.lim.has,.int .i64 x.gl.ty,.bool x.gl.mu]∧Bk W (w.heap.size+1) [.string x.mod,.string x.nm,.int .i64 x.kind,.int .i64 x.ty,.int .i64 x.lim.min,.int .i64 x.lim.max,.bool x.lim.has,.int .i64 x.gl.ty,.bool x.gl.mu]∧Below w.heap.size w W) T0.out ?_
 rintro W ⟨bb,bp,hb⟩
 clear T0
 have q0:=bb.2.1 0 _ rfl
 have p0:=bp.2.1 0 _ rfl
 have q1:=bb.2.1 1 _ rfl
 have p1:=bp.2.1 1 _ rfl
 have q2:=bb.2.1 2 _ rfl
 have p2:=bp.2.1 2 _ rfl
 have q3:=bb.2.1 3 _ rfl
 have p3:=bp.2.1 3 _ rfl
 have q4:=bb.2.1 4 _ rfl
 have p4:=bp.2.1 4 _ rfl
 have q5:=bb.2.1 5 _ rfl
 have p5:=bp.2.1 5 _ rfl
 have q6:=bb.2.1 6 _ rfl
 have p6:=bp.2.1 6 _ rfl
 have q7:=bb.2.1 7 _ rfl
 have p7:=bp.2.1 7 _ rfl
 have q8:=bb.2.1 8 _ rfl
 have p8:=bp.2.1 8 _ rfl
 have HC1:=Hm (reLimits_c x.lim W trivial trivial trivial)
 go_wp2_with fail
 refine HC1.out.mono ?_
 rintro e W1 ⟨rfl,hb1⟩
 have bb:=bb.keep hb1
 have bp:=bp.keep hb1
 have hb:=hb.trans (hb1.mono hb.size)
 clear HC1 hb1
 have q0:=bb.2.1 0 _ rfl
 have p0:=bp.2.1 0 _ rfl
 have q1:=bb.2.1 1 _ rfl
 have p1:=bp.2.1 1 _ rfl
 have q2:=bb.2.1 2 _ rfl
 have p2:=bp.2.1 2 _ rfl
 have q3:=bb.2.1 3 _ rfl
 have p3:=bp.2.1 3 _ rfl
 have q4:=bb.2.1 4 _ rfl
 have p4:=bp.2.1 4 _ rfl
 have q5:=bb.2.1 5 _ rfl
 have p5:=bp.2.1 5 _ rfl
 have q6:=bb.2.1 6 _ rfl
 have p6:=bp.2.1 6 _ rfl
 have q7:=bb.2.1 7 _ rfl
 have p7:=bp.2.1 7 _ rfl
 have q8:=bb.2.1 8 _ rfl
 have p8:=bp.2.1 8 _ rfl
 have HC2:=Hm (reGType_c x.gl W1 trivial trivial trivial)
 go_wp2_with fail
 refine HC2.out.mono ?_
 rintro e W2 ⟨rfl,hb2⟩
 have bb:=bb.keep hb2
 have bp:=bp.keep hb2
 have hb:=hb.trans (hb2.mono hb.size)
 clear HC2 hb2
 have q0:=bb.2.1 0 _ rfl
 have p0:=bp.2.1 0 _ rfl
 have q1:=bb.2.1 1 _ rfl
 have p1:=bp.2.1 1 _ rfl
 have q2:=bb.2.1 2 _ rfl
 have p2:=bp.2.1 2 _ rfl
 have q3:=bb.2.1 3 _ rfl
 have p3:=bp.2.1 3 _ rfl
 have q4:=bb.2.1 4 _ rfl
 have p4:=bp.2.1 4 _ rfl
 have q5:=bb.2.1 5 _ rfl
 have p5:=bp.2.1 5 _ rfl
 have q6:=bb.2.1 6 _ rfl
 have p6:=bp.2.1 6 _ rfl
 have q7:=bb.2.1 7 _ rfl
 have p7:=bp.2.1 7 _ rfl
 have q8:=bb.2.1 8 _ rfl
 have p8:=bp.2.1 8 _ rfl
 have HB:=Hm hb
 clear hb bb bp
 go_wp2
 go_ret
 exact ⟨rfl,HB.out⟩
theorem reImps_c (a a':Option Addr) (c c':Nat) (xs:List Imp) (w:World) (hl:xs.length≤1048576∧∀ i,i<xs.length→Imp.LB 1048576 (xs.getD i Imp.z)) (h:Imp.Ls 0 w a xs) (h':Imp.Ls 0 w a' xs) :
    Calls Tryz.prog 68 #[.slice a xs.length c,.slice a' xs.length c'] w fun e w'=>e=.returned (.bool true)∧Below w.heap.size w w':=by
 obtain ⟨hn,hl⟩:=hl
 have H1:=Hm h
 have H2:=Hm h'
 have H3:=Hm hl
 clear h h' hl
 go_enter Tryz.func68,Tryz.ntmps68
 go_wp2
 go_loopw [5] (fun i wr=>∃ k:Nat,k≤xs.length∧i=.int .i64 k∧Below w.heap.size w wr) (fun i _=>xs.length-(intOf i).toNat)
 case atStart=>exact ⟨0,Nat.zero_le _,rfl,Below.refl _ _⟩
 case round =>
  obtain ⟨k,hk,rfl,hb⟩:=hrel
  by_cases hlt:k<xs.length
  · have hki:(k:Int)<(xs.length:Int):=by omega
    rcases H1.out.up (up_below hb) with hx | ⟨b,o,ea,_,hc⟩
    · subst hx;simp at hlt
    rcases H2.out.up (up_below hb) with hx | ⟨b',o',ea',_,hc'⟩
    · subst hx;simp at hlt
    have g1:=hc k hlt
    have g2:=hc' k hlt
    have hl:=H3.out k hlt
    subst ea ea'
    generalize xs.getD k Imp.z=x at g1 g2 hl
    obtain ⟨⟨q0,q1,q2,q3,q4,q5,q6,q7,q8⟩,hi⟩:=g1
    obtain ⟨⟨p0,p1,p2,p3,p4,p5,p6,p7,p8⟩,hi'⟩:=g2
    have kq0:=cell_regrown q0
    have kp0:=cell_regrown p0
    have kq1:=cell_regrown q1
    have kp1:=cell_regrown p1
    have kq2:=cell_regrown q2
    have kp2:=cell_regrown p2
    have kq3:=cell_regrown q3
    have kp3:=cell_regrown p3
    have kq4:=cell_regrown q4
    have kp4:=cell_regrown p4
    have kq5:=cell_regrown q5
    have kp5:=cell_regrown p5
    have kq6:=cell_regrown q6
    have kp6:=cell_regrown p6
    have kq7:=cell_regrown q7
    have kp7:=cell_regrown p7
    have kq8:=cell_regrown q8
    have kp8:=cell_regrown p8
    have cE:∀ d os,Calls Tryz.prog 131 #[.agg #[.string x.mod,.string x.nm,.int .i64 x.kind,.int .i64 x.ty,.int .i64 x.lim.min,.int .i64 x.lim.max,.bool x.lim.has,.int .i64 x.gl.ty,.bool x.gl.mu],.agg #[.string x.mod,.string x.nm,.int .i64 x.kind,.int .i64 x.ty,.int .i64 x.lim.min,.int .i64 x.lim.max,.bool x.lim.has,.int .i64 x.gl.ty,.bool x.gl.mu]] (grow (redrawn wr d) os) fun e w''=>e=.returned (.bool true)∧∃ p:Regrown,w''=grow (redrawn wr p.d) p.os:=fun d os=>Calls.regrown_of (reImp_c x _ (hi.up (up_below (below_regrown wr d os))) (hi'.up (up_below (below_regrown wr d os))) hl)
    have HB:=Hm hb
    have HE:=Hm cE
    clear hb hc hc' hi hi' hl H1 H2 H3 cE q0 p0 q1 p1 q2 p2 q3 p3 q4 p4 q5 p5 q6 p6 q7 p7 q8 p8
    go_wp2
    refine wp_region_quiet_below (by kernel_rfl) (by kernel_rfl) ?_
    repeat (quiet_step (exact HE.out _ _))
    refine wpQuiet_nil ?_
    intro _ hw'
    obtain ⟨⟨dq,osq⟩,hw''⟩:=hw'
    subst hw''
    have hw5:=HB.out.trans ((below_regrown wr dq osq).mono HB.out.size)
    clear kq0 kp0 kq1 kp1 kq2 kp2 kq3 kp3 kq4 kp4 kq5 kp5 kq6 kp6 kq7 kp7 kq8 kp8
    generalize grow (redrawn wr dq) osq=w5 at *
    show Exit.then _ _ Exit.normal _ w5
    go_wp2
    go_roundw
    case rel=>exact ⟨k+1,by omega,by go_num,hw5⟩
    case measure=>simp [intOf];omega
  · go_wp2
    go_ret
    exact ⟨rfl,hb⟩
theorem reExp_c (x:Exp) (w:World) (hI:Exp.Is 0 w x) (hI':Exp.Is 0 w x) (hl:Exp.LB 1048576 x) :
    Calls Tryz.prog 134 #[.agg #[.string x.nm,.int .i64 x.kind,.int .i64 x.ix],.agg #[.string x.nm,.int .i64 x.kind,.int .i64 x.ix]] w fun e w'=>e=.returned (.bool true)∧Below w.heap.size w w':=by
 have l0:=hl
 have hs0:(x.nm.toList==x.nm.toList)=true:=by simp
 have T0:Hid (Bk ((w.alloc (.cells #[.string x.nm,.int .i64 x.kind,.int .i64 x.ix] 114)).alloc (.cells #[.string x.nm,.int .i64 x.kind,.int .i64 x.ix] 114)) w.heap.size [.string x.nm,.int .i64 x.kind,.int .i64 x.ix]∧Bk ((w.alloc (.cells #[.string x.nm,.int .i64 x.kind,.int .i64 x.ix] 114)).alloc (.cells #[.string x.nm,.int .i64 x.kind,.int .i64 x.ix] 114)) (w.heap.size+1) [.string x.nm,.int .i64 x.kind,.int .i64 x.ix]∧Below w.heap.size w ((w.alloc (.cells #[.string x.nm,.int .i64 x.kind,.int .i64 x.ix] 114)).alloc (.cells #[.string x.nm,.int .i64 x.kind,.int .i64 x.ix] 114))):=two w [.string x.nm,.int .i64 x.kind,.int .i64 x.ix] [.string x.nm,.int .i64 x.kind,.int .i64 x.ix] 114 114
 go_enter Tryz.func134,Tryz.ntmps134
 go_upto_region 1 with fail
 refine wp_gen (fun W=>Bk W w.heap.size [.string x.nm,.int .i64 x.kind,.int .i64 x.ix]∧Bk W (w.heap.size+1) [.string x.nm,.int .i64 x.kind,.int .i64 x.ix]∧Below w.heap.size w W) T0.out ?_
 rintro W ⟨bb,bp,hb⟩
 clear T0
 have q0:=bb.2.1 0 _ rfl
 have p0:=bp.2.1 0 _ rfl
 have q1:=bb.2.1 1 _ rfl
 have p1:=bp.2.1 1 _ rfl
 have q2:=bb.2.1 2 _ rfl
 have p2:=bp.2.1 2 _ rfl
 have HB:=Hm hb
 clear hb bb bp
 go_wp2
 go_ret
 exact ⟨rfl,HB.out⟩
theorem reExps_c (a a':Option Addr) (c c':Nat) (xs:List Exp) (w:World) (hl:xs.length≤1048576∧∀ i,i<xs.length→Exp.LB 1048576 (xs.getD i Exp.z)) (h:Exp.Ls 0 w a xs) (h':Exp.Ls 0 w a' xs) :
    Calls Tryz.prog 72 #[.slice a xs.length c,.slice a' xs.length c'] w fun e w'=>e=.returned (.bool true)∧Below w.heap.size w w':=by
 obtain ⟨hn,hl⟩:=hl
 have H1:=Hm h
 have H2:=Hm h'
 have H3:=Hm hl
 clear h h' hl
 go_enter Tryz.func72,Tryz.ntmps72
 go_wp2
 go_loopw [5] (fun i wr=>∃ k:Nat,k≤xs.length∧i=.int .i64 k∧Below w.heap.size w wr) (fun i _=>xs.length-(intOf i).toNat)
 case atStart=>exact ⟨0,Nat.zero_le _,rfl,Below.refl _ _⟩
 case round =>
  obtain ⟨k,hk,rfl,hb⟩:=hrel
  by_cases hlt:k<xs.length
  · have hki:(k:Int)<(xs.length:Int):=by omega
    rcases H1.out.up (up_below hb) with hx | ⟨b,o,ea,_,hc⟩
    · subst hx;simp at hlt
    rcases H2.out.up (up_below hb) with hx | ⟨b',o',ea',_,hc'⟩
    · subst hx;simp at hlt
    have g1:=hc k hlt
    have g2:=hc' k hlt
    have hl:=H3.out k hlt
    subst ea ea'
    generalize xs.getD k Exp.z=x at g1 g2 hl
    obtain ⟨⟨q0,q1,q2⟩,hi⟩:=g1
    obtain ⟨⟨p0,p1,p2⟩,hi'⟩:=g2
    have kq0:=cell_regrown q0
    have kp0:=cell_regrown p0
    have kq1:=cell_regrown q1
    have kp1:=cell_regrown p1
    have kq2:=cell_regrown q2
    have kp2:=cell_regrown p2
    have cE:∀ d os,Calls Tryz.prog 134 #[.agg #[.string x.nm,.int .i64 x.kind,.int .i64 x.ix],.agg #[.string x.nm,.int .i64 x.kind,.int .i64 x.ix]] (grow (redrawn wr d) os) fun e w''=>e=.returned (.bool true)∧∃ p:Regrown,w''=grow (redrawn wr p.d) p.os:=fun d os=>Calls.regrown_of (reExp_c x _ (hi.up (up_below (below_regrown wr d os))) (hi'.up (up_below (below_regrown wr d os))) hl)
    have HB:=Hm hb
    have HE:=Hm cE
    clear hb hc hc' hi hi' hl H1 H2 H3 cE q0 p0 q1 p1 q2 p2
    go_wp2
    refine wp_region_quiet_below (by kernel_rfl) (by kernel_rfl) ?_
    repeat (quiet_step (exact HE.out _ _))
    refine wpQuiet_nil ?_
    intro _ hw'
    obtain ⟨⟨dq,osq⟩,hw''⟩:=hw'
    subst hw''
    have hw5:=HB.out.trans ((below_regrown wr dq osq).mono HB.out.size)
    clear kq0 kp0 kq1 kp1 kq2 kp2
    generalize grow (redrawn wr dq) osq=w5 at *
    show Exit.then _ _ Exit.normal _ w5
    go_wp2
    go_roundw
    case rel=>exact ⟨k+1,by omega,by go_num,hw5⟩
    case measure=>simp [intOf];omega
  · go_wp2
    go_ret
    exact ⟨rfl,hb⟩
end Go.Proofs.YtdbmolambolmgaaGreat
