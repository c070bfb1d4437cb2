import Derived.Test.YtdbmolambolmgaaGreatHy
set_option linter.all false
set_option maxHeartbeats 16000000
set_option maxRecDepth 100000
namespace Go.Proofs.YtdbmolambolmgaaGreat
open Go.RowKit Go.Sort
set_option maxRecDepth 100000
theorem reGlob_c (x:Glob) (a1:Option Addr) (c1:Nat) (a1':Option Addr) (c1':Nat) (w:World) (hI:Glob.Is 0 w x a1) (hI':Glob.Is 0 w x a1') (hl:Glob.LB 1048576 x) :
    Calls Tryz.prog 133 #[.agg #[.int .i64 x.ty.ty,.bool x.ty.mu,.slice a1 x.ini.length c1],.agg #[.int .i64 x.ty.ty,.bool x.ty.mu,.slice a1' x.ini.length c1']] w fun e w'=>e=.returned (.bool true)∧Below w.heap.size w w':=by
 have l2:=hl
 have r1:=hI
 clear hI
 have R1:=Hm r1
 clear r1
 have r1':=hI'
 clear hI'
 have R1':=Hm r1'
 clear r1'
 have T0:Hid (Bk ((w.alloc (.cells #[.int .i64 x.ty.ty,.bool x.ty.mu,.slice a1 x.ini.length c1] 110)).alloc (.cells #[.int .i64 x.ty.ty,.bool x.ty.mu,.slice a1' x.ini.length c1'] 110)) w.heap.size [.int .i64 x.ty.ty,.bool x.ty.mu,.slice a1 x.ini.length c1]∧Bk ((w.alloc (.cells #[.int .i64 x.ty.ty,.bool x.ty.mu,.slice a1 x.ini.length c1] 110)).alloc (.cells #[.int .i64 x.ty.ty,.bool x.ty.mu,.slice a1' x.ini.length c1'] 110)) (w.heap.size+1) [.int .i64 x.ty.ty,.bool x.ty.mu,.slice a1' x.ini.length c1']∧Below w.heap.size w ((w.alloc (.cells #[.int .i64 x.ty.ty,.bool x.ty.mu,.slice a1 x.ini.length c1] 110)).alloc (.cells #[.int .i64 x.ty.ty,.bool x.ty.mu,.slice a1' x.ini.length c1'] 110))):=two w [.int .i64 x.ty.ty,.bool x.ty.mu,.slice a1 x.ini.length c1] [.int .i64 x.ty.ty,.bool x.ty.mu,.slice a1' x.ini.length c1'] 110 110
 go_enter Tryz.func133,Tryz.ntmps133
 go_upto_region 1 with fail
 refine wp_gen (fun W=>Bk W w.heap.size [.int .i64 x.ty.ty,.bool x.ty.mu,.slice a1 x.ini.length c1]∧Bk W (w.heap.size+1) [.int .i64 x.ty.ty,.bool x.ty.mu,.slice a1' x.ini.length c1']∧Below w.heap.size w W) T0.out ?_
 rintro W ⟨bb,bp,hb⟩
 clear T0
 have q0:=bb.2.1 0 _ rfl
 have p0:=bp.2.1 0 _ rfl
 have q1:=bb.2.1 1 _ rfl
 have p1:=bp.2.1 1 _ rfl
 have q2:=bb.2.1 2 _ rfl
 have p2:=bp.2.1 2 _ rfl
 have HC1:=Hm (reGType_c x.ty W trivial trivial trivial)
 go_wp2_with fail
 refine HC1.out.mono ?_
 rintro e W1 ⟨rfl,hb1⟩
 have bb:=bb.keep hb1
 have bp:=bp.keep hb1
 have hb:=hb.trans (hb1.mono hb.size)
 clear HC1 hb1
 have q0:=bb.2.1 0 _ rfl
 have p0:=bp.2.1 0 _ rfl
 have q1:=bb.2.1 1 _ rfl
 have p1:=bp.2.1 1 _ rfl
 have q2:=bb.2.1 2 _ rfl
 have p2:=bp.2.1 2 _ rfl
 have HC2:=Hm (reIns_c a1 a1' c1 c1' x.ini W1 l2 (R1.out.up (up_below hb)) (R1'.out.up (up_below hb)))
 go_wp2_with fail
 refine HC2.out.mono ?_
 rintro e W2 ⟨rfl,hb2⟩
 have bb:=bb.keep hb2
 have bp:=bp.keep hb2
 have hb:=hb.trans (hb2.mono hb.size)
 clear HC2 hb2
 have q0:=bb.2.1 0 _ rfl
 have p0:=bp.2.1 0 _ rfl
 have q1:=bb.2.1 1 _ rfl
 have p1:=bp.2.1 1 _ rfl
 have q2:=bb.2.1 2 _ rfl
 have p2:=bp.2.1 2 _ rfl
 have HB:=Hm hb
 clear hb bb bp
 go_wp2
 go_ret
 exact ⟨rfl,HB.out⟩
theorem reGlobs_c (a a':Option Addr) (c c':Nat) (xs:List Glob) (w:World) (hl:xs.length≤1048576∧∀ i,i<xs.length→Glob.LB 1048576 (xs.getD i Glob.z)) (h:Glob.Ls 0 w a xs) (h':Glob.Ls 0 w a' xs) :
    Calls Tryz.prog 71 #[.slice a xs.length c,.slice a' xs.length c'] w fun e w'=>e=.returned (.bool true)∧Below w.heap.size w w':=by
 obtain ⟨hn,hl⟩:=hl
 have H1:=Hm h
 have H2:=Hm h'
 have H3:=Hm hl
 clear h h' hl
 go_enter Tryz.func71,Tryz.ntmps71
 go_wp2
 go_loopw [5] (fun i wr=>∃ k:Nat,k≤xs.length∧i=.int .i64 k∧Below w.heap.size w wr) (fun i _=>xs.length-(intOf i).toNat)
 case atStart=>exact ⟨0,Nat.zero_le _,rfl,Below.refl _ _⟩
 case round =>
  obtain ⟨k,hk,rfl,hb⟩:=hrel
  by_cases hlt:k<xs.length
  · have hki:(k:Int)<(xs.length:Int):=by omega
    rcases H1.out.up (up_below hb) with hx | ⟨b,o,ea,_,hc⟩
    · subst hx;simp at hlt
    rcases H2.out.up (up_below hb) with hx | ⟨b',o',ea',_,hc'⟩
    · subst hx;simp at hlt
    have g1:=hc k hlt
    have g2:=hc' k hlt
    have hl:=H3.out k hlt
    subst ea ea'
    generalize xs.getD k Glob.z=x at g1 g2 hl
    obtain ⟨a1,c1,⟨q0,q1,q2⟩,hi⟩:=g1
    obtain ⟨a1',c1',⟨p0,p1,p2⟩,hi'⟩:=g2
    have kq0:=cell_regrown q0
    have kp0:=cell_regrown p0
    have kq1:=cell_regrown q1
    have kp1:=cell_regrown p1
    have kq2:=cell_regrown q2
    have kp2:=cell_regrown p2
    have cE:∀ d os,Calls Tryz.prog 133 #[.agg #[.int .i64 x.ty.ty,.bool x.ty.mu,.slice a1 x.ini.length c1],.agg #[.int .i64 x.ty.ty,.bool x.ty.mu,.slice a1' x.ini.length c1']] (grow (redrawn wr d) os) fun e w''=>e=.returned (.bool true)∧∃ p:Regrown,w''=grow (redrawn wr p.d) p.os:=fun d os=>Calls.regrown_of (reGlob_c x a1 c1 a1' c1' _ (hi.up (up_below (below_regrown wr d os))) (hi'.up (up_below (below_regrown wr d os))) hl)
    have HB:=Hm hb
    have HE:=Hm cE
    clear hb hc hc' hi hi' hl H1 H2 H3 cE q0 p0 q1 p1 q2 p2
    go_wp2
    refine wp_region_quiet_below (by kernel_rfl) (by kernel_rfl) ?_
    repeat (quiet_step (exact HE.out _ _))
    refine wpQuiet_nil ?_
    intro _ hw'
    obtain ⟨⟨dq,osq⟩,hw''⟩:=hw'
    subst hw''
    have hw5:=HB.out.trans ((below_regrown wr dq osq).mono HB.out.size)
    clear kq0 kp0 kq1 kp1 kq2 kp2
    generalize grow (redrawn wr dq) osq=w5 at *
    show Exit.then _ _ Exit.normal _ w5
    go_wp2
    go_roundw
    case rel=>exact ⟨k+1,by omega,by go_num,hw5⟩
    case measure=>simp [intOf];omega
  · go_wp2
    go_ret
    exact ⟨rfl,hb⟩
theorem reEle_c (x:Ele) (a1:Option Addr) (c1:Nat) (a2:Option Addr) (c2:Nat) (a1':Option Addr) (c1':Nat) (a2':Option Addr) (c2':Nat) (w:World) (hI:Ele.Is 0 w x a1 a2) (hI':Ele.Is 0 w x a1' a2') (hl:Ele.LB 1048576 x) :
    Calls Tryz.prog 135 #[.agg #[.slice a1 x.off.length c1,.slice a2 x.fs.length c2],.agg #[.slice a1' x.off.length c1',.slice a2' x.fs.length c2']] w fun e w'=>e=.returned (.bool true)∧Below w.heap.size w w':=by
 obtain ⟨l0,l1⟩:=hl
 obtain ⟨r1,r2⟩:=hI
 have R1:=Hm r1
 have R2:=Hm r2
 clear r1 r2
 obtain ⟨r1',r2'⟩:=hI'
 have R1':=Hm r1'
 have R2':=Hm r2'
 clear r1' r2'
 have T0:Hid (Bk ((w.alloc (.cells #[.slice a1 x.off.length c1,.slice a2 x.fs.length c2] 70)).alloc (.cells #[.slice a1' x.off.length c1',.slice a2' x.fs.length c2'] 70)) w.heap.size [.slice a1 x.off.length c1,.slice a2 x.fs.length c2]∧Bk ((w.alloc (.cells #[.slice a1 x.off.length c1,.slice a2 x.fs.length c2] 70)).alloc (.cells #[.slice a1' x.off.length c1',.slice a2' x.fs.length c2'] 70)) (w.heap.size+1) [.slice a1' x.off.length c1',.slice a2' x.fs.length c2']∧Below w.heap.size w ((w.alloc (.cells #[.slice a1 x.off.length c1,.slice a2 x.fs.length c2] 70)).alloc (.cells #[.slice a1' x.off.length c1',.slice a2' x.fs.length c2'] 70))):=two w [.slice a1 x.off.length c1,.slice a2 x.fs.length c2] [.slice a1' x.off.length c1',.slice a2' x.fs.length c2'] 70 70
 go_enter Tryz.func135,Tryz.ntmps135
 go_upto_region 1 with fail
 refine wp_gen (fun W=>Bk W w.heap.size [.slice a1 x.off.length c1,.slice a2 x.fs.length c2]∧Bk W (w.heap.size+1) [.slice a1' x.off.length c1',.slice a2' x.fs.length c2']∧Below w.heap.size w W) T0.out ?_
 rintro W ⟨bb,bp,hb⟩
 clear T0
 have q0:=bb.2.1 0 _ rfl
 have p0:=bp.2.1 0 _ rfl
 have q1:=bb.2.1 1 _ rfl
 have p1:=bp.2.1 1 _ rfl
 have HC1:=Hm (reIns_c a1 a1' c1 c1' x.off W l0 (R1.out.up (up_below hb)) (R1'.out.up (up_below hb)))
 go_wp2_with fail
 refine HC1.out.mono ?_
 rintro e W1 ⟨rfl,hb1⟩
 have bb:=bb.keep hb1
 have bp:=bp.keep hb1
 have hb:=hb.trans (hb1.mono hb.size)
 clear HC1 hb1
 have q0:=bb.2.1 0 _ rfl
 have p0:=bp.2.1 0 _ rfl
 have q1:=bb.2.1 1 _ rfl
 have p1:=bp.2.1 1 _ rfl
 have HC2:=Hm (eq_any a2 a2' c2 c2' x.fs W1 (by omega) (R2.out.up (up_below hb)).has (R2'.out.up (up_below hb)).has)
 go_wp2_with fail
 refine HC2.out.mono ?_
 rintro e W2 ⟨rfl,nd2,hd2⟩
 have hb2:Below W1.heap.size W1 W2:=by rw [hd2];exact below_drewN' (Below.refl _ _) _
 clear hd2
 have bb:=bb.keep hb2
 have bp:=bp.keep hb2
 have hb:=hb.trans (hb2.mono hb.size)
 clear HC2 hb2
 have q0:=bb.2.1 0 _ rfl
 have p0:=bp.2.1 0 _ rfl
 have q1:=bb.2.1 1 _ rfl
 have p1:=bp.2.1 1 _ rfl
 have HB:=Hm hb
 clear hb bb bp
 go_wp2
 go_ret
 exact ⟨rfl,HB.out⟩
theorem reEles_c (a a':Option Addr) (c c':Nat) (xs:List Ele) (w:World) (hl:xs.length≤1048576∧∀ i,i<xs.length→Ele.LB 1048576 (xs.getD i Ele.z)) (h:Ele.Ls 0 w a xs) (h':Ele.Ls 0 w a' xs) :
    Calls Tryz.prog 73 #[.slice a xs.length c,.slice a' xs.length c'] w fun e w'=>e=.returned (.bool true)∧Below w.heap.size w w':=by
 obtain ⟨hn,hl⟩:=hl
 have H1:=Hm h
 have H2:=Hm h'
 have H3:=Hm hl
 clear h h' hl
 go_enter Tryz.func73,Tryz.ntmps73
 go_wp2
 go_loopw [5] (fun i wr=>∃ k:Nat,k≤xs.length∧i=.int .i64 k∧Below w.heap.size w wr) (fun i _=>xs.length-(intOf i).toNat)
 case atStart=>exact ⟨0,Nat.zero_le _,rfl,Below.refl _ _⟩
 case round =>
  obtain ⟨k,hk,rfl,hb⟩:=hrel
  by_cases hlt:k<xs.length
  · have hki:(k:Int)<(xs.length:Int):=by omega
    rcases H1.out.up (up_below hb) with hx | ⟨b,o,ea,_,hc⟩
    · subst hx;simp at hlt
    rcases H2.out.up (up_below hb) with hx | ⟨b',o',ea',_,hc'⟩
    · subst hx;simp at hlt
    have g1:=hc k hlt
    have g2:=hc' k hlt
    have hl:=H3.out k hlt
    subst ea ea'
    generalize xs.getD k Ele.z=x at g1 g2 hl
    obtain ⟨a1,c1,a2,c2,⟨q0,q1⟩,hi⟩:=g1
    obtain ⟨a1',c1',a2',c2',⟨p0,p1⟩,hi'⟩:=g2
    have kq0:=cell_regrown q0
    have kp0:=cell_regrown p0
    have kq1:=cell_regrown q1
    have kp1:=cell_regrown p1
    have cE:∀ d os,Calls Tryz.prog 135 #[.agg #[.slice a1 x.off.length c1,.slice a2 x.fs.length c2],.agg #[.slice a1' x.off.length c1',.slice a2' x.fs.length c2']] (grow (redrawn wr d) os) fun e w''=>e=.returned (.bool true)∧∃ p:Regrown,w''=grow (redrawn wr p.d) p.os:=fun d os=>Calls.regrown_of (reEle_c x a1 c1 a2 c2 a1' c1' a2' c2' _ (hi.up (up_below (below_regrown wr d os))) (hi'.up (up_below (below_regrown wr d os))) hl)
    have HB:=Hm hb
    have HE:=Hm cE
    clear hb hc hc' hi hi' hl H1 H2 H3 cE q0 p0 q1 p1
    go_wp2
    refine wp_region_quiet_below (by kernel_rfl) (by kernel_rfl) ?_
    repeat (quiet_step (exact HE.out _ _))
    refine wpQuiet_nil ?_
    intro _ hw'
    obtain ⟨⟨dq,osq⟩,hw''⟩:=hw'
    subst hw''
    have hw5:=HB.out.trans ((below_regrown wr dq osq).mono HB.out.size)
    clear kq0 kp0 kq1 kp1
    generalize grow (redrawn wr dq) osq=w5 at *
    show Exit.then _ _ Exit.normal _ w5
    go_wp2
    go_roundw
    case rel=>exact ⟨k+1,by omega,by go_num,hw5⟩
    case measure=>simp [intOf];omega
  · go_wp2
    go_ret
    exact ⟨rfl,hb⟩
theorem reCod_c (x:Cod) (a1:Option Addr) (c1:Nat) (a2:Option Addr) (c2:Nat) (a1':Option Addr) (c1':Nat) (a2':Option Addr) (c2':Nat) (w:World) (hI:Cod.Is 0 w x a1 a2) (hI':Cod.Is 0 w x a1' a2') (hl:Cod.LB 1048576 x) :
    Calls Tryz.prog 136 #[.agg #[.slice a1 x.locs.length c1,.slice a2 x.body.length c2],.agg #[.slice a1' x.locs.length c1',.slice a2' x.body.length c2']] w fun e w'=>e=.returned (.bool true)∧Below w.heap.size w w':=by
 obtain ⟨l0,l1⟩:=hl
 obtain ⟨r1,r2⟩:=hI
 have R1:=Hm r1
 have R2:=Hm r2
 clear r1 r2
 obtain ⟨r1',r2'⟩:=hI'
 have R1':=Hm r1'
 have R2':=Hm r2'
 clear r1' r2'
 have T0:Hid (Bk ((w.alloc (.cells #[.slice a1 x.locs.length c1,.slice a2 x.body.length c2] 74)).alloc (.cells #[.slice a1' x.locs.length c1',.slice a2' x.body.length c2'] 74)) w.heap.size [.slice a1 x.locs.length c1,.slice a2 x.body.length c2]∧Bk ((w.alloc (.cells #[.slice a1 x.locs.length c1,.slice a2 x.body.length c2] 74)).alloc (.cells #[.slice a1' x.locs.length c1',.slice a2' x.body.length c2'] 74)) (w.heap.size+1) [.slice a1' x.locs.length c1',.slice a2' x.body.length c2']∧Below w.heap.size w ((w.alloc (.cells #[.slice a1 x.locs.length c1,.slice a2 x.body.length c2] 74)).alloc (.cells #[.slice a1' x.locs.length c1',.slice a2' x.body.length c2'] 74))):=two w [.slice a1 x.locs.length c1,.slice a2 x.body.length c2] [.slice a1' x.locs.length c1',.slice a2' x.body.length c2'] 74 74
 go_enter Tryz.func136,Tryz.ntmps136
 go_upto_region 1 with fail
 refine wp_gen (fun W=>Bk W w.heap.size [.slice a1 x.locs.length c1,.slice a2 x.body.length c2]∧Bk W (w.heap.size+1) [.slice a1' x.locs.length c1',.slice a2' x.body.length c2']∧Below w.heap.size w W) T0.out ?_
 rintro W ⟨bb,bp,hb⟩
 clear T0
 have q0:=bb.2.1 0 _ rfl
 have p0:=bp.2.1 0 _ rfl
 have q1:=bb.2.1 1 _ rfl
 have p1:=bp.2.1 1 _ rfl
 have HC1:=Hm (reGrps_c a1 a1' c1 c1' x.locs W l0 (R1.out.up (up_below hb)) (R1'.out.up (up_below hb)))
 go_wp2_with fail
 refine HC1.out.mono ?_
 rintro e W1 ⟨rfl,hb1⟩
 have bb:=bb.keep hb1
 have bp:=bp.keep hb1
 have hb:=hb.trans (hb1.mono hb.size)
 clear HC1 hb1
 have q0:=bb.2.1 0 _ rfl
 have p0:=bp.2.1 0 _ rfl
 have q1:=bb.2.1 1 _ rfl
 have p1:=bp.2.1 1 _ rfl
 have HC2:=Hm (reIns_c a2 a2' c2 c2' x.body W1 l1 (R2.out.up (up_below hb)) (R2'.out.up (up_below hb)))
 go_wp2_with fail
 refine HC2.out.mono ?_
 rintro e W2 ⟨rfl,hb2⟩
 have bb:=bb.keep hb2
 have bp:=bp.keep hb2
 have hb:=hb.trans (hb2.mono hb.size)
 clear HC2 hb2
 have q0:=bb.2.1 0 _ rfl
 have p0:=bp.2.1 0 _ rfl
 have q1:=bb.2.1 1 _ rfl
 have p1:=bp.2.1 1 _ rfl
 have HB:=Hm hb
 clear hb bb bp
 go_wp2
 go_ret
 exact ⟨rfl,HB.out⟩
theorem reCods_c (a a':Option Addr) (c c':Nat) (xs:List Cod) (w:World) (hl:xs.length≤1048576∧∀ i,i<xs.length→Cod.LB 1048576 (xs.getD i Cod.z)) (h:Cod.Ls 0 w a xs) (h':Cod.Ls 0 w a' xs) :
    Calls Tryz.prog 74 #[.slice a xs.length c,.slice a' xs.length c'] w fun e w'=>e=.returned (.bool true)∧Below w.heap.size w w':=by
 obtain ⟨hn,hl⟩:=hl
 have H1:=Hm h
 have H2:=Hm h'
 have H3:=Hm hl
 clear h h' hl
 go_enter Tryz.func74,Tryz.ntmps74
 go_wp2
 go_loopw [5] (fun i wr=>∃ k:Nat,k≤xs.length∧i=.int .i64 k∧Below w.heap.size w wr) (fun i _=>xs.length-(intOf i).toNat)
 case atStart=>exact ⟨0,Nat.zero_le _,rfl,Below.refl _ _⟩
 case round =>
  obtain ⟨k,hk,rfl,hb⟩:=hrel
  by_cases hlt:k<xs.length
  · have hki:(k:Int)<(xs.length:Int):=by omega
    rcases H1.out.up (up_below hb) with hx | ⟨b,o,ea,_,hc⟩
    · subst hx;simp at hlt
    rcases H2.out.up (up_below hb) with hx | ⟨b',o',ea',_,hc'⟩
    · subst hx;simp at hlt
    have g1:=hc k hlt
    have g2:=hc' k hlt
    have hl:=H3.out k hlt
    subst ea ea'
    generalize xs.getD k Cod.z=x at g1 g2 hl
    obtain ⟨a1,c1,a2,c2,⟨q0,q1⟩,hi⟩:=g1
    obtain ⟨a1',c1',a2',c2',⟨p0,p1⟩,hi'⟩:=g2
    have kq0:=cell_regrown q0
    have kp0:=cell_regrown p0
    have kq1:=cell_regrown q1
    have kp1:=cell_regrown p1
    have cE:∀ d os,Calls Tryz.prog 136 #[.agg #[.slice a1 x.locs.length c1,.slice a2 x.body.length c2],.agg #[.slice a1' x.locs.length c1',.slice a2' x.body.length c2']] (grow (redrawn wr d) os) fun e w''=>e=.returned (.bool true)∧∃ p:Regrown,w''=grow (redrawn wr p.d) p.os:=fun d os=>Calls.regrown_of (reCod_c x a1 c1 a2 c2 a1' c1' a2' c2' _ (hi.up (up_below (below_regrown wr d os))) (hi'.up (up_below (below_regrown wr d os))) hl)
    have HB:=Hm hb
    have HE:=Hm cE
    clear hb hc hc' hi hi' hl H1 H2 H3 cE q0 p0 q1 p1
    go_wp2
    refine wp_region_quiet_below (by kernel_rfl) (by kernel_rfl) ?_
    repeat (quiet_step (exact HE.out _ _))
    refine wpQuiet_nil ?_
    intro _ hw'
    obtain ⟨⟨dq,osq⟩,hw''⟩:=hw'
    subst hw''
    have hw5:=HB.out.trans ((below_regrown wr dq osq).mono HB.out.size)
    clear kq0 kp0 kq1 kp1
    generalize grow (redrawn wr dq) osq=w5 at *
    show Exit.then _ _ Exit.normal _ w5
    go_wp2
    go_roundw
    case rel=>exact ⟨k+1,by omega,by go_num,hw5⟩
    case measure=>simp [intOf];omega
  · go_wp2
    go_ret
    exact ⟨rfl,hb⟩
theorem reDat_c (x:Dat) (a1:Option Addr) (c1:Nat) (a2:Option Addr) (c2:Nat) (a1':Option Addr) (c1':Nat) (a2':Option Addr) (c2':Nat) (w:World) (hI:Dat.Is 0 w x a1 a2) (hI':Dat.Is 0 w x a1' a2') (hl:Dat.LB 1048576 x) :
    Calls Tryz.prog 137 #[.agg #[.slice a1 x.off.length c1,.slice a2 x.bs.length c2],.agg #[.slice a1' x.off.length c1',.slice a2' x.bs.length c2']] w fun e w'=>e=.returned (.bool true)∧Below w.heap.size w w':=by
 obtain ⟨l0,l1⟩:=hl
 obtain ⟨r1,r2⟩:=hI
 have R1:=Hm r1
 have R2:=Hm r2
 clear r1 r2
 obtain ⟨r1',r2'⟩:=hI'
 have R1':=Hm r1'
 have R2':=Hm r2'
 clear r1' r2'
 have T0:Hid (Bk ((w.alloc (.cells #[.slice a1 x.off.length c1,.slice a2 x.bs.length c2] 76)).alloc (.cells #[.slice a1' x.off.length c1',.slice a2' x.bs.length c2'] 76)) w.heap.size [.slice a1 x.off.length c1,.slice a2 x.bs.length c2]∧Bk ((w.alloc (.cells #[.slice a1 x.off.length c1,.slice a2 x.bs.length c2] 76)).alloc (.cells #[.slice a1' x.off.length c1',.slice a2' x.bs.length c2'] 76)) (w.heap.size+1) [.slice a1' x.off.length c1',.slice a2' x.bs.length c2']∧Below w.heap.size w ((w.alloc (.cells #[.slice a1 x.off.length c1,.slice a2 x.bs.length c2] 76)).alloc (.cells #[.slice a1' x.off.length c1',.slice a2' x.bs.length c2'] 76))):=two w [.slice a1 x.off.length c1,.slice a2 x.bs.length c2] [.slice a1' x.off.length c1',.slice a2' x.bs.length c2'] 76 76
 go_enter Tryz.func137,Tryz.ntmps137
 go_upto_region 1 with fail
 refine wp_gen (fun W=>Bk W w.heap.size [.slice a1 x.off.length c1,.slice a2 x.bs.length c2]∧Bk W (w.heap.size+1) [.slice a1' x.off.length c1',.slice a2' x.bs.length c2']∧Below w.heap.size w W) T0.out ?_
 rintro W ⟨bb,bp,hb⟩
 clear T0
 have q0:=bb.2.1 0 _ rfl
 have p0:=bp.2.1 0 _ rfl
 have q1:=bb.2.1 1 _ rfl
 have p1:=bp.2.1 1 _ rfl
 have HC1:=Hm (reIns_c a1 a1' c1 c1' x.off W l0 (R1.out.up (up_below hb)) (R1'.out.up (up_below hb)))
 go_wp2_with fail
 refine HC1.out.mono ?_
 rintro e W1 ⟨rfl,hb1⟩
 have bb:=bb.keep hb1
 have bp:=bp.keep hb1
 have hb:=hb.trans (hb1.mono hb.size)
 clear HC1 hb1
 have q0:=bb.2.1 0 _ rfl
 have p0:=bp.2.1 0 _ rfl
 have q1:=bb.2.1 1 _ rfl
 have p1:=bp.2.1 1 _ rfl
 have HC2:=Hm (eqB_any a2 a2' c2 c2' x.bs W1 (by omega) (R2.out.up (up_below hb)) (R2'.out.up (up_below hb)))
 go_wp2_with fail
 refine HC2.out.mono ?_
 rintro e W2 ⟨rfl,nd2,hd2⟩
 have hb2:Below W1.heap.size W1 W2:=by rw [hd2];exact below_drewN' (Below.refl _ _) _
 clear hd2
 have bb:=bb.keep hb2
 have bp:=bp.keep hb2
 have hb:=hb.trans (hb2.mono hb.size)
 clear HC2 hb2
 have q0:=bb.2.1 0 _ rfl
 have p0:=bp.2.1 0 _ rfl
 have q1:=bb.2.1 1 _ rfl
 have p1:=bp.2.1 1 _ rfl
 have HB:=Hm hb
 clear hb bb bp
 go_wp2
 go_ret
 exact ⟨rfl,HB.out⟩
theorem reDats_c (a a':Option Addr) (c c':Nat) (xs:List Dat) (w:World) (hl:xs.length≤1048576∧∀ i,i<xs.length→Dat.LB 1048576 (xs.getD i Dat.z)) (h:Dat.Ls 0 w a xs) (h':Dat.Ls 0 w a' xs) :
    Calls Tryz.prog 75 #[.slice a xs.length c,.slice a' xs.length c'] w fun e w'=>e=.returned (.bool true)∧Below w.heap.size w w':=by
 obtain ⟨hn,hl⟩:=hl
 have H1:=Hm h
 have H2:=Hm h'
 have H3:=Hm hl
 clear h h' hl
 go_enter Tryz.func75,Tryz.ntmps75
 go_wp2
 go_loopw [5] (fun i wr=>∃ k:Nat,k≤xs.length∧i=.int .i64 k∧Below w.heap.size w wr) (fun i _=>xs.length-(intOf i).toNat)
 case atStart=>exact ⟨0,Nat.zero_le _,rfl,Below.refl _ _⟩
 case round =>
  obtain ⟨k,hk,rfl,hb⟩:=hrel
  by_cases hlt:k<xs.length
  · have hki:(k:Int)<(xs.length:Int):=by omega
    rcases H1.out.up (up_below hb) with hx | ⟨b,o,ea,_,hc⟩
    · subst hx;simp at hlt
    rcases H2.out.up (up_below hb) with hx | ⟨b',o',ea',_,hc'⟩
    · subst hx;simp at hlt
    have g1:=hc k hlt
    have g2:=hc' k hlt
    have hl:=H3.out k hlt
    subst ea ea'
    generalize xs.getD k Dat.z=x at g1 g2 hl
    obtain ⟨a1,c1,a2,c2,⟨q0,q1⟩,hi⟩:=g1
    obtain ⟨a1',c1',a2',c2',⟨p0,p1⟩,hi'⟩:=g2
    have kq0:=cell_regrown q0
    have kp0:=cell_regrown p0
    have kq1:=cell_regrown q1
    have kp1:=cell_regrown p1
    have cE:∀ d os,Calls Tryz.prog 137 #[.agg #[.slice a1 x.off.length c1,.slice a2 x.bs.length c2],.agg #[.slice a1' x.off.length c1',.slice a2' x.bs.length c2']] (grow (redrawn wr d) os) fun e w''=>e=.returned (.bool true)∧∃ p:Regrown,w''=grow (redrawn wr p.d) p.os:=fun d os=>Calls.regrown_of (reDat_c x a1 c1 a2 c2 a1' c1' a2' c2' _ (hi.up (up_below (below_regrown wr d os))) (hi'.up (up_below (below_regrown wr d os))) hl)
    have HB:=Hm hb
    have HE:=Hm cE
    clear hb hc hc' hi hi' hl H1 H2 H3 cE q0 p0 q1 p1
    go_wp2
    refine wp_region_quiet_below (by kernel_rfl) (by kernel_rfl) ?_
    repeat (quiet_step (exact HE.out _ _))
    refine wpQuiet_nil ?_
    intro _ hw'
    obtain ⟨⟨dq,osq⟩,hw''⟩:=hw'
    subst hw''
    have hw5:=HB.out.trans ((below_regrown wr dq osq).mono HB.out.size)
    clear kq0 kp0 kq1 kp1
    generalize grow (redrawn wr dq) osq=w5 at *
    show Exit.then _ _ Exit.normal _ w5
    go_wp2
    go_roundw
    case rel=>exact ⟨k+1,by omega,by go_num,hw5⟩
    case measure=>simp [intOf];omega
  · go_wp2
    go_ret
    exact ⟨rfl,hb⟩
theorem reCus_c (x:Cus) (a1:Option Addr) (c1:Nat) (a1':Option Addr) (c1':Nat) (w:World) (hI:Cus.Is 0 w x a1) (hI':Cus.Is 0 w x a1') (hl:Cus.LB 1048576 x) :
    Calls Tryz.prog 138 #[.agg #[.int .i64 x.aft,.string x.nm,.slice a1 x.bs.length c1],.agg #[.int .i64 x.aft,.string x.nm,.slice a1' x.bs.length c1']] w fun e w'=>e=.returned (.bool true)∧Below w.heap.size w w':=by
 obtain ⟨l1,l2⟩:=hl
 have r1:=hI
 clear hI
 have R1:=Hm r1
 clear r1
 have r1':=hI'
 clear hI'
 have R1':=Hm r1'
 clear r1'
 have hs1:(x.nm.toList==x.nm.toList)=true:=by simp
 have T0:Hid (Bk ((w.alloc (.cells #[.int .i64 x.aft,.string x.nm,.slice a1 x.bs.length c1] 80)).alloc (.cells #[.int .i64 x.aft,.string x.nm,.slice a1' x.bs.length c1'] 80)) w.heap.size [.int .i64 x.aft,.string x.nm,.slice a1 x.bs.length c1]∧Bk ((w.alloc (.cells #[.int .i64 x.aft,.string x.nm,.slice a1 x.bs.length c1] 80)).alloc (.cells #[.int .i64 x.aft,.string x.nm,.slice a1' x.bs.length c1'] 80)) (w.heap.size+1) [.int .i64 x.aft,.string x.nm,.slice a1' x.bs.length c1']∧Below w.heap.size w ((w.alloc (.cells #[.int .i64 x.aft,.string x.nm,.slice a1 x.bs.length c1] 80)).alloc (.cells #[.int .i64 x.aft,.string x.nm,.slice a1' x.bs.length c1'] 80))):=two w [.int .i64 x.aft,.string x.nm,.slice a1 x.bs.length c1] [.int .i64 x.aft,.string x.nm,.slice a1' x.bs.length c1'] 80 80
 go_enter Tryz.func138,Tryz.ntmps138
 go_upto_region 1 with fail
 refine wp_gen (fun W=>Bk W w.heap.size [.int .i64 x.aft,.string x.nm,.slice a1 x.bs.length c1]∧Bk W (w.heap.size+1) [.int .i64 x.aft,.string x.nm,.slice a1' x.bs.length c1']∧Below w.heap.size w W) T0.out ?_
 rintro W ⟨bb,bp,hb⟩
 clear T0
 have q0:=bb.2.1 0 _ rfl
 have p0:=bp.2.1 0 _ rfl
 have q1:=bb.2.1 1 _ rfl
 have p1:=bp.2.1 1 _ rfl
 have q2:=bb.2.1 2 _ rfl
 have p2:=bp.2.1 2 _ rfl
 have HC1:=Hm (eqB_any a1 a1' c1 c1' x.bs W (by omega) (R1.out.up (up_below hb)) (R1'.out.up (up_below hb)))
 go_wp2_with fail
 refine HC1.out.mono ?_
 rintro e W1 ⟨rfl,nd1,hd1⟩
 have hb1:Below W.heap.size W W1:=by rw [hd1];exact below_drewN' (Below.refl _ _) _
 clear hd1
 have bb:=bb.keep hb1
 have bp:=bp.keep hb1
 have hb:=hb.trans (hb1.mono hb.size)
 clear HC1 hb1
 have q0:=bb.2.1 0 _ rfl
 have p0:=bp.2.1 0 _ rfl
 have q1:=bb.2.1 1 _ rfl
 have p1:=bp.2.1 1 _ rfl
 have q2:=bb.2.1 2 _ rfl
 have p2:=bp.2.1 2 _ rfl
 have HB:=Hm hb
 clear hb bb bp
 go_wp2
 go_ret
 exact ⟨rfl,HB.out⟩
theorem reCuss_c (a a':Option Addr) (c c':Nat) (xs:List Cus) (w:World) (hl:xs.length≤1048576∧∀ i,i<xs.length→Cus.LB 1048576 (xs.getD i Cus.z)) (h:Cus.Ls 0 w a xs) (h':Cus.Ls 0 w a' xs) :
    Calls Tryz.prog 76 #[.slice a xs.length c,.slice a' xs.length c'] w fun e w'=>e=.returned (.bool true)∧Below w.heap.size w w':=by
 obtain ⟨hn,hl⟩:=hl
 have H1:=Hm h
 have H2:=Hm h'
 have H3:=Hm hl
 clear h h' hl
 go_enter Tryz.func76,Tryz.ntmps76
 go_wp2
 go_loopw [5] (fun i wr=>∃ k:Nat,k≤xs.length∧i=.int .i64 k∧Below w.heap.size w wr) (fun i _=>xs.length-(intOf i).toNat)
 case atStart=>exact ⟨0,Nat.zero_le _,rfl,Below.refl _ _⟩
 case round =>
  obtain ⟨k,hk,rfl,hb⟩:=hrel
  by_cases hlt:k<xs.length
  · have hki:(k:Int)<(xs.length:Int):=by omega
    rcases H1.out.up (up_below hb) with hx | ⟨b,o,ea,_,hc⟩
    · subst hx;simp at hlt
    rcases H2.out.up (up_below hb) with hx | ⟨b',o',ea',_,hc'⟩
    · subst hx;simp at hlt
    have g1:=hc k hlt
    have g2:=hc' k hlt
    have hl:=H3.out k hlt
    subst ea ea'
    generalize xs.getD k Cus.z=x at g1 g2 hl
    obtain ⟨a1,c1,⟨q0,q1,q2⟩,hi⟩:=g1
    obtain ⟨a1',c1',⟨p0,p1,p2⟩,hi'⟩:=g2
    have kq0:=cell_regrown q0
    have kp0:=cell_regrown p0
    have kq1:=cell_regrown q1
    have kp1:=cell_regrown p1
    have kq2:=cell_regrown q2
    have kp2:=cell_regrown p2
    have cE:∀ d os,Calls Tryz.prog 138 #[.agg #[.int .i64 x.aft,.string x.nm,.slice a1 x.bs.length c1],.agg #[.int .i64 x.aft,.string x.nm,.slice a1' x.bs.length c1']] (grow (redrawn wr d) os) fun e w''=>e=.returned (.bool true)∧∃ p:Regrown,w''=grow (redrawn wr p.d) p.os:=fun d os=>Calls.regrown_of (reCus_c x a1 c1 a1' c1' _ (hi.up (up_below (below_regrown wr d os))) (hi'.up (up_below (below_regrown wr d os))) hl)
    have HB:=Hm hb
    have HE:=Hm cE
    clear hb hc hc' hi hi' hl H1 H2 H3 cE q0 p0 q1 p1 q2 p2
    go_wp2
    refine wp_region_quiet_below (by kernel_rfl) (by kernel_rfl) ?_
    repeat (quiet_step (exact HE.out _ _))
    refine wpQuiet_nil ?_
    intro _ hw'
    obtain ⟨⟨dq,osq⟩,hw''⟩:=hw'
    subst hw''
    have hw5:=HB.out.trans ((below_regrown wr dq osq).mono HB.out.size)
    clear kq0 kp0 kq1 kp1 kq2 kp2
    generalize grow (redrawn wr dq) osq=w5 at *
    show Exit.then _ _ Exit.normal _ w5
    go_wp2
    go_roundw
    case rel=>exact ⟨k+1,by omega,by go_num,hw5⟩
    case measure=>simp [intOf];omega
  · go_wp2
    go_ret
    exact ⟨rfl,hb⟩
end Go.Proofs.YtdbmolambolmgaaGreat
