import Derived.Test.YtdbmolambolmgaaGreatGq
set_option linter.all false
set_option maxHeartbeats 16000000
set_option maxRecDepth 100000
namespace Go.Proofs.YtdbmolambolmgaaGreat
open Go.RowKit Go.Sort
set_option maxRecDepth 100000
attribute [-go_sem] run_eql_struct
theorem Bk.drew {W:World} {g:Nat} {cs:List Value} (h:Bk W g cs):Bk W.drew g cs:=h
theorem kind_oth {x:Imp} (h:¬ impK x=true):impB x=false:=by simp [impB,h]
theorem iimp0 (x:Imp) (w:World) (hl:Imp.LB 1048576 x) (k0:x.kind=0) :
    Calls Tryz.prog 50 #[.agg #[.string x.mod,.string x.nm,.int .i64 x.kind,.int .i64 x.ty,.int .i64 x.lim.min,.int .i64 x.lim.max,.bool x.lim.has,.int .i64 x.gl.ty,.bool x.gl.mu]] w fun e w'=>e=.returned (.bool (impB x))∧Below w.heap.size w w':=by
 obtain ⟨l0,l1⟩:=hl
 have KK:=Hm k0
 clear k0
 go_enter Tryz.func50,Tryz.ntmps50
 go_upto_region 1 with fail
 refine wp_gen (fun W=>Bk W w.heap.size [.string x.mod,.string x.nm,.int .i64 x.kind,.int .i64 x.ty,.int .i64 x.lim.min,.int .i64 x.lim.max,.bool x.lim.has,.int .i64 x.gl.ty,.bool x.gl.mu]∧Below w.heap.size w W∧W.heap.size=w.heap.size+1) ⟨Bk.new,(Below.refl _ _).alloc (Nat.le_refl _) _,by simp⟩ ?_
 rintro W ⟨bb,hb,hs⟩
 have q0:=bb.2.1 0 _ rfl
 have q1:=bb.2.1 1 _ rfl
 have q2:=bb.2.1 2 _ rfl
 have q3:=bb.2.1 3 _ rfl
 have q4:=bb.2.1 4 _ rfl
 have q5:=bb.2.1 5 _ rfl
 have q6:=bb.2.1 6 _ rfl
 have q7:=bb.2.1 7 _ rfl
 have q8:=bb.2.1 8 _ rfl
 go_region
 go_upto_region 2 with fail
 refine wp_gen (fun V=>Bk V w.heap.size [.string x.mod,.string x.nm,.int .i64 x.kind,.int .i64 x.ty,.int .i64 x.lim.min,.int .i64 x.lim.max,.bool x.lim.has,.int .i64 x.gl.ty,.bool x.gl.mu]∧Bk V (w.heap.size+1) [.string x.mod,.string x.nm,.int .i64 x.kind,.int .i64 x.ty,.int .i64 x.lim.min,.int .i64 x.lim.max,.bool x.lim.has,.int .i64 x.gl.ty,.bool x.gl.mu]∧Below w.heap.size w V) ⟨Bk.drew bb.past,by rw [← hs];exact Bk.drew Bk.new,hb.trans ((((Below.refl _ W).alloc (Nat.le_refl _) _).drew).mono hb.size)⟩ ?_
 clear bb hb hs q0 q1 q2 q3 q4 q5 q6 q7 q8
 rintro V ⟨bb,bc,hb⟩
 have q0:=bb.2.1 0 _ rfl
 have q1:=bb.2.1 1 _ rfl
 have q2:=bb.2.1 2 _ rfl
 have q3:=bb.2.1 3 _ rfl
 have q4:=bb.2.1 4 _ rfl
 have q5:=bb.2.1 5 _ rfl
 have q6:=bb.2.1 6 _ rfl
 have q7:=bb.2.1 7 _ rfl
 have q8:=bb.2.1 8 _ rfl
 have p0:=bc.2.1 0 _ rfl
 have p1:=bc.2.1 1 _ rfl
 have p2:=bc.2.1 2 _ rfl
 have p3:=bc.2.1 3 _ rfl
 have p4:=bc.2.1 4 _ rfl
 have p5:=bc.2.1 5 _ rfl
 have p6:=bc.2.1 6 _ rfl
 have p7:=bc.2.1 7 _ rfl
 have p8:=bc.2.1 8 _ rfl
 have EL:=eqLimZ x.lim
 have EG:=eqGtyZ x.gl
 have EL0:∀ w,(binOp .eql 99 (.agg #[.int .i64 0,.int .i64 0,.bool false]) (.agg #[.int .i64 0,.int .i64 0,.bool false])).run Tryz.prog w=.ok (.bool true) w:=fun w=>eqLim w 0 0 false
 have EG0:∀ w,(binOp .eql 101 (.agg #[.int .i64 0,.bool false]) (.agg #[.int .i64 0,.bool false])).run Tryz.prog w=.ok (.bool true) w:=fun w=>eqGty w 0 false
 generalize hz1:limZ x.lim=z1 at EL
 generalize hz2:gtZ x.gl=z2 at EG
 have k0:=KK.out
 have HK:=Hm (same_below (iu32_c x.ty V))
 generalize hz3:u32B x.ty=z3 at HK
 have HF:Hid (impK x=(z3&&z1&&z2)):=by simp [Hid,impK0 k0,hz1,hz2,hz3]
 clear hz1 hz2 hz3
 go_wp2_with fail
 refine HK.out.mono ?_
 rintro e V1 ⟨rfl,hv⟩
 have bb:=bb.keep hv
 have bc:=bc.keep hv
 have hb:=hb.trans (hv.mono hb.size)
 clear hv HK q0 q1 q2 q3 q4 q5 q6 q7 q8 p0 p1 p2 p3 p4 p5 p6 p7 p8
 have ne:w.heap.size+1≠w.heap.size:=by omega
 have q0:=bb.2.1 0 _ rfl
 have q1:=bb.2.1 1 _ rfl
 have q2:=bb.2.1 2 _ rfl
 have q3:=bb.2.1 3 _ rfl
 have q4:=bb.2.1 4 _ rfl
 have q5:=bb.2.1 5 _ rfl
 have q6:=bb.2.1 6 _ rfl
 have q7:=bb.2.1 7 _ rfl
 have q8:=bb.2.1 8 _ rfl
 have p0:=bc.2.1 0 _ rfl
 have p1:=bc.2.1 1 _ rfl
 have p2:=bc.2.1 2 _ rfl
 have p3:=bc.2.1 3 _ rfl
 have p4:=bc.2.1 4 _ rfl
 have p5:=bc.2.1 5 _ rfl
 have p6:=bc.2.1 6 _ rfl
 have p7:=bc.2.1 7 _ rfl
 have p8:=bc.2.1 8 _ rfl
 have fz:∀ j,V1.frozen? ⟨w.heap.size+1,j,none⟩=false:=bc.2.2
 go_upto_region 10 with fail
 refine wp_gen (fun V'=>Bk V' w.heap.size [.string x.mod,.string x.nm,.int .i64 x.kind,.int .i64 x.ty,.int .i64 x.lim.min,.int .i64 x.lim.max,.bool x.lim.has,.int .i64 x.gl.ty,.bool x.gl.mu]∧Bk V' (w.heap.size+1) [.string x.mod,.string x.nm,.int .i64 x.kind,.int .i64 0,.int .i64 x.lim.min,.int .i64 x.lim.max,.bool x.lim.has,.int .i64 x.gl.ty,.bool x.gl.mu]∧Below w.heap.size w V') ⟨(bb.other ne),bc.set,(hb.setCell (Nat.le_succ _) _)⟩ ?_
 clear bb bc hb fz q0 q1 q2 q3 q4 q5 q6 q7 q8 p0 p1 p2 p3 p4 p5 p6 p7 p8
 rintro V ⟨bb,bc,hb⟩
 have q0:=bb.2.1 0 _ rfl
 have q1:=bb.2.1 1 _ rfl
 have q2:=bb.2.1 2 _ rfl
 have q3:=bb.2.1 3 _ rfl
 have q4:=bb.2.1 4 _ rfl
 have q5:=bb.2.1 5 _ rfl
 have q6:=bb.2.1 6 _ rfl
 have q7:=bb.2.1 7 _ rfl
 have q8:=bb.2.1 8 _ rfl
 have p0:=bc.2.1 0 _ rfl
 have p1:=bc.2.1 1 _ rfl
 have p2:=bc.2.1 2 _ rfl
 have p3:=bc.2.1 3 _ rfl
 have p4:=bc.2.1 4 _ rfl
 have p5:=bc.2.1 5 _ rfl
 have p6:=bc.2.1 6 _ rfl
 have p7:=bc.2.1 7 _ rfl
 have p8:=bc.2.1 8 _ rfl
 by_cases hall:(z1&&z2&&z3)=true
 · have HF:Hid (impK x=true):=by rw [Hid,HF.out];revert hall;cases z1 <;> cases z2 <;> cases z3 <;> simp
   simp only [Bool.and_eq_true] at hall
   obtain ⟨⟨rfl,rfl⟩,rfl⟩:=hall
   clear bc
   have HC0:=Hm (iname_ok x.mod V l0)
   generalize ht0:nameB x.mod=t0 at HC0
   cases t0
   · go_wp2_with fail
     refine HC0.out.mono ?_
     rintro e W1 ⟨rfl,hb0⟩
     have hb:=hb.trans (hb0.mono hb.size)
     clear hb0 bb
     go_wp2
     go_ret
     exact ⟨by simp [impB,ht0],hb⟩
   go_wp2_with fail
   refine HC0.out.mono ?_
   rintro e W1 ⟨rfl,hb0⟩
   have bb:=bb.keep hb0
   have hb:=hb.trans (hb0.mono hb.size)
   clear hb0 HC0
   have q0:=bb.2.1 0 _ rfl
   have q1:=bb.2.1 1 _ rfl
   have q2:=bb.2.1 2 _ rfl
   have q3:=bb.2.1 3 _ rfl
   have q4:=bb.2.1 4 _ rfl
   have q5:=bb.2.1 5 _ rfl
   have q6:=bb.2.1 6 _ rfl
   have q7:=bb.2.1 7 _ rfl
   have q8:=bb.2.1 8 _ rfl
   have HC1:=Hm (iname_ok x.nm W1 l1)
   generalize ht1:nameB x.nm=t1 at HC1
   cases t1 <;>
   · go_wp2_with fail
     refine HC1.out.mono ?_
     rintro e W2 ⟨rfl,hb1⟩
     have hb:=hb.trans (hb1.mono hb.size)
     clear hb1 bb
     go_wp2
     go_ret
     exact ⟨by simp [impB,ht0,ht1,HF.out],hb⟩
 · have HF2:Hid (impB x=false):=kind_oth (by rw [HF.out];revert hall;cases z1 <;> cases z2 <;> cases z3 <;> simp)
   clear HF bb bc
   cases z1 <;> cases z2 <;> cases z3 <;> first
   | (exact absurd rfl hall)
   | (clear hall
      go_wp2
      go_ret
      exact ⟨by rw [HF2.out];rfl,hb⟩)
theorem iimp1 (x:Imp) (w:World) (hl:Imp.LB 1048576 x) (k0:x.kind=1) :
    Calls Tryz.prog 50 #[.agg #[.string x.mod,.string x.nm,.int .i64 x.kind,.int .i64 x.ty,.int .i64 x.lim.min,.int .i64 x.lim.max,.bool x.lim.has,.int .i64 x.gl.ty,.bool x.gl.mu]] w fun e w'=>e=.returned (.bool (impB x))∧Below w.heap.size w w':=by
 obtain ⟨l0,l1⟩:=hl
 have KK:=Hm k0
 clear k0
 go_enter Tryz.func50,Tryz.ntmps50
 go_upto_region 1 with fail
 refine wp_gen (fun W=>Bk W w.heap.size [.string x.mod,.string x.nm,.int .i64 x.kind,.int .i64 x.ty,.int .i64 x.lim.min,.int .i64 x.lim.max,.bool x.lim.has,.int .i64 x.gl.ty,.bool x.gl.mu]∧Below w.heap.size w W∧W.heap.size=w.heap.size+1) ⟨Bk.new,(Below.refl _ _).alloc (Nat.le_refl _) _,by simp⟩ ?_
 rintro W ⟨bb,hb,hs⟩
 have q0:=bb.2.1 0 _ rfl
 have q1:=bb.2.1 1 _ rfl
 have q2:=bb.2.1 2 _ rfl
 have q3:=bb.2.1 3 _ rfl
 have q4:=bb.2.1 4 _ rfl
 have q5:=bb.2.1 5 _ rfl
 have q6:=bb.2.1 6 _ rfl
 have q7:=bb.2.1 7 _ rfl
 have q8:=bb.2.1 8 _ rfl
 go_region
 go_upto_region 2 with fail
 refine wp_gen (fun V=>Bk V w.heap.size [.string x.mod,.string x.nm,.int .i64 x.kind,.int .i64 x.ty,.int .i64 x.lim.min,.int .i64 x.lim.max,.bool x.lim.has,.int .i64 x.gl.ty,.bool x.gl.mu]∧Bk V (w.heap.size+1) [.string x.mod,.string x.nm,.int .i64 x.kind,.int .i64 x.ty,.int .i64 x.lim.min,.int .i64 x.lim.max,.bool x.lim.has,.int .i64 x.gl.ty,.bool x.gl.mu]∧Below w.heap.size w V) ⟨Bk.drew bb.past,by rw [← hs];exact Bk.drew Bk.new,hb.trans ((((Below.refl _ W).alloc (Nat.le_refl _) _).drew).mono hb.size)⟩ ?_
 clear bb hb hs q0 q1 q2 q3 q4 q5 q6 q7 q8
 rintro V ⟨bb,bc,hb⟩
 have q0:=bb.2.1 0 _ rfl
 have q1:=bb.2.1 1 _ rfl
 have q2:=bb.2.1 2 _ rfl
 have q3:=bb.2.1 3 _ rfl
 have q4:=bb.2.1 4 _ rfl
 have q5:=bb.2.1 5 _ rfl
 have q6:=bb.2.1 6 _ rfl
 have q7:=bb.2.1 7 _ rfl
 have q8:=bb.2.1 8 _ rfl
 have p0:=bc.2.1 0 _ rfl
 have p1:=bc.2.1 1 _ rfl
 have p2:=bc.2.1 2 _ rfl
 have p3:=bc.2.1 3 _ rfl
 have p4:=bc.2.1 4 _ rfl
 have p5:=bc.2.1 5 _ rfl
 have p6:=bc.2.1 6 _ rfl
 have p7:=bc.2.1 7 _ rfl
 have p8:=bc.2.1 8 _ rfl
 have EL:=eqLimZ x.lim
 have EG:=eqGtyZ x.gl
 have EL0:∀ w,(binOp .eql 99 (.agg #[.int .i64 0,.int .i64 0,.bool false]) (.agg #[.int .i64 0,.int .i64 0,.bool false])).run Tryz.prog w=.ok (.bool true) w:=fun w=>eqLim w 0 0 false
 have EG0:∀ w,(binOp .eql 101 (.agg #[.int .i64 0,.bool false]) (.agg #[.int .i64 0,.bool false])).run Tryz.prog w=.ok (.bool true) w:=fun w=>eqGty w 0 false
 generalize hz1:limZ x.lim=z1 at EL
 generalize hz2:gtZ x.gl=z2 at EG
 have k0:=KK.out
 have HK:=Hm (ilim_c x.lim V)
 generalize hz3:limB x.lim=z3 at HK
 have HF:Hid (impK x=(x.ty==0&&z3&&z2)):=by simp [Hid,impK1 (.inl k0),hz1,hz2,hz3]
 clear hz1 hz2 hz3
 go_wp2_with fail
 refine HK.out.mono ?_
 rintro e V1 ⟨rfl,hv⟩
 have bb:=bb.keep hv
 have bc:=bc.keep hv
 have hb:=hb.trans (hv.mono hb.size)
 clear hv HK q0 q1 q2 q3 q4 q5 q6 q7 q8 p0 p1 p2 p3 p4 p5 p6 p7 p8
 have ne:w.heap.size+1≠w.heap.size:=by omega
 have q0:=bb.2.1 0 _ rfl
 have q1:=bb.2.1 1 _ rfl
 have q2:=bb.2.1 2 _ rfl
 have q3:=bb.2.1 3 _ rfl
 have q4:=bb.2.1 4 _ rfl
 have q5:=bb.2.1 5 _ rfl
 have q6:=bb.2.1 6 _ rfl
 have q7:=bb.2.1 7 _ rfl
 have q8:=bb.2.1 8 _ rfl
 have p0:=bc.2.1 0 _ rfl
 have p1:=bc.2.1 1 _ rfl
 have p2:=bc.2.1 2 _ rfl
 have p3:=bc.2.1 3 _ rfl
 have p4:=bc.2.1 4 _ rfl
 have p5:=bc.2.1 5 _ rfl
 have p6:=bc.2.1 6 _ rfl
 have p7:=bc.2.1 7 _ rfl
 have p8:=bc.2.1 8 _ rfl
 have fz:∀ j,V1.frozen? ⟨w.heap.size+1,j,none⟩=false:=bc.2.2
 go_upto_region 10 with fail
 refine wp_gen (fun V'=>Bk V' w.heap.size [.string x.mod,.string x.nm,.int .i64 x.kind,.int .i64 x.ty,.int .i64 x.lim.min,.int .i64 x.lim.max,.bool x.lim.has,.int .i64 x.gl.ty,.bool x.gl.mu]∧Bk V' (w.heap.size+1) [.string x.mod,.string x.nm,.int .i64 x.kind,.int .i64 x.ty,.int .i64 0,.int .i64 0,.bool false,.int .i64 x.gl.ty,.bool x.gl.mu]∧Below w.heap.size w V') ⟨(((bb.other ne).other ne).other ne),bc.set.set.set,(((hb.setCell (Nat.le_succ _) _).setCell (Nat.le_succ _) _).setCell (Nat.le_succ _) _)⟩ ?_
 clear bb bc hb fz q0 q1 q2 q3 q4 q5 q6 q7 q8 p0 p1 p2 p3 p4 p5 p6 p7 p8
 rintro V ⟨bb,bc,hb⟩
 have q0:=bb.2.1 0 _ rfl
 have q1:=bb.2.1 1 _ rfl
 have q2:=bb.2.1 2 _ rfl
 have q3:=bb.2.1 3 _ rfl
 have q4:=bb.2.1 4 _ rfl
 have q5:=bb.2.1 5 _ rfl
 have q6:=bb.2.1 6 _ rfl
 have q7:=bb.2.1 7 _ rfl
 have q8:=bb.2.1 8 _ rfl
 have p0:=bc.2.1 0 _ rfl
 have p1:=bc.2.1 1 _ rfl
 have p2:=bc.2.1 2 _ rfl
 have p3:=bc.2.1 3 _ rfl
 have p4:=bc.2.1 4 _ rfl
 have p5:=bc.2.1 5 _ rfl
 have p6:=bc.2.1 6 _ rfl
 have p7:=bc.2.1 7 _ rfl
 have p8:=bc.2.1 8 _ rfl
 by_cases ht:x.ty=0
 case neg =>
  have HF2:Hid (impB x=false):=kind_oth (by rw [HF.out];simp [ht])
  clear HF bb bc
  cases z3 <;>
  · go_wp2
    go_ret
    exact ⟨by rw [HF2.out];rfl,hb⟩
 have HF:Hid (impK x=(z3&&z2)):=by rw [Hid,HF.out];simp [ht]
 by_cases hall:(z2&&z3)=true
 · have HF:Hid (impK x=true):=by rw [Hid,HF.out];revert hall;cases z2 <;> cases z3 <;> simp
   simp only [Bool.and_eq_true] at hall
   obtain ⟨rfl,rfl⟩:=hall
   clear bc
   have HC0:=Hm (iname_ok x.mod V l0)
   generalize ht0:nameB x.mod=t0 at HC0
   cases t0
   · go_wp2_with fail
     refine HC0.out.mono ?_
     rintro e W1 ⟨rfl,hb0⟩
     have hb:=hb.trans (hb0.mono hb.size)
     clear hb0 bb
     go_wp2
     go_ret
     exact ⟨by simp [impB,ht0],hb⟩
   go_wp2_with fail
   refine HC0.out.mono ?_
   rintro e W1 ⟨rfl,hb0⟩
   have bb:=bb.keep hb0
   have hb:=hb.trans (hb0.mono hb.size)
   clear hb0 HC0
   have q0:=bb.2.1 0 _ rfl
   have q1:=bb.2.1 1 _ rfl
   have q2:=bb.2.1 2 _ rfl
   have q3:=bb.2.1 3 _ rfl
   have q4:=bb.2.1 4 _ rfl
   have q5:=bb.2.1 5 _ rfl
   have q6:=bb.2.1 6 _ rfl
   have q7:=bb.2.1 7 _ rfl
   have q8:=bb.2.1 8 _ rfl
   have HC1:=Hm (iname_ok x.nm W1 l1)
   generalize ht1:nameB x.nm=t1 at HC1
   cases t1 <;>
   · go_wp2_with fail
     refine HC1.out.mono ?_
     rintro e W2 ⟨rfl,hb1⟩
     have hb:=hb.trans (hb1.mono hb.size)
     clear hb1 bb
     go_wp2
     go_ret
     exact ⟨by simp [impB,ht0,ht1,HF.out],hb⟩
 · have HF2:Hid (impB x=false):=kind_oth (by rw [HF.out];revert hall;cases z2 <;> cases z3 <;> simp)
   clear HF bb bc
   cases z2 <;> cases z3 <;> first
   | (exact absurd rfl hall)
   | (clear hall
      go_wp2
      go_ret
      exact ⟨by rw [HF2.out];rfl,hb⟩)
theorem iimp2 (x:Imp) (w:World) (hl:Imp.LB 1048576 x) (k0:x.kind=2) :
    Calls Tryz.prog 50 #[.agg #[.string x.mod,.string x.nm,.int .i64 x.kind,.int .i64 x.ty,.int .i64 x.lim.min,.int .i64 x.lim.max,.bool x.lim.has,.int .i64 x.gl.ty,.bool x.gl.mu]] w fun e w'=>e=.returned (.bool (impB x))∧Below w.heap.size w w':=by
 obtain ⟨l0,l1⟩:=hl
 have KK:=Hm k0
 clear k0
 go_enter Tryz.func50,Tryz.ntmps50
 go_upto_region 1 with fail
 refine wp_gen (fun W=>Bk W w.heap.size [.string x.mod,.string x.nm,.int .i64 x.kind,.int .i64 x.ty,.int .i64 x.lim.min,.int .i64 x.lim.max,.bool x.lim.has,.int .i64 x.gl.ty,.bool x.gl.mu]∧Below w.heap.size w W∧W.heap.size=w.heap.size+1) ⟨Bk.new,(Below.refl _ _).alloc (Nat.le_refl _) _,by simp⟩ ?_
 rintro W ⟨bb,hb,hs⟩
 have q0:=bb.2.1 0 _ rfl
 have q1:=bb.2.1 1 _ rfl
 have q2:=bb.2.1 2 _ rfl
 have q3:=bb.2.1 3 _ rfl
 have q4:=bb.2.1 4 _ rfl
 have q5:=bb.2.1 5 _ rfl
 have q6:=bb.2.1 6 _ rfl
 have q7:=bb.2.1 7 _ rfl
 have q8:=bb.2.1 8 _ rfl
 go_region
 go_upto_region 2 with fail
 refine wp_gen (fun V=>Bk V w.heap.size [.string x.mod,.string x.nm,.int .i64 x.kind,.int .i64 x.ty,.int .i64 x.lim.min,.int .i64 x.lim.max,.bool x.lim.has,.int .i64 x.gl.ty,.bool x.gl.mu]∧Bk V (w.heap.size+1) [.string x.mod,.string x.nm,.int .i64 x.kind,.int .i64 x.ty,.int .i64 x.lim.min,.int .i64 x.lim.max,.bool x.lim.has,.int .i64 x.gl.ty,.bool x.gl.mu]∧Below w.heap.size w V) ⟨Bk.drew bb.past,by rw [← hs];exact Bk.drew Bk.new,hb.trans ((((Below.refl _ W).alloc (Nat.le_refl _) _).drew).mono hb.size)⟩ ?_
 clear bb hb hs q0 q1 q2 q3 q4 q5 q6 q7 q8
 rintro V ⟨bb,bc,hb⟩
 have q0:=bb.2.1 0 _ rfl
 have q1:=bb.2.1 1 _ rfl
 have q2:=bb.2.1 2 _ rfl
 have q3:=bb.2.1 3 _ rfl
 have q4:=bb.2.1 4 _ rfl
 have q5:=bb.2.1 5 _ rfl
 have q6:=bb.2.1 6 _ rfl
 have q7:=bb.2.1 7 _ rfl
 have q8:=bb.2.1 8 _ rfl
 have p0:=bc.2.1 0 _ rfl
 have p1:=bc.2.1 1 _ rfl
 have p2:=bc.2.1 2 _ rfl
 have p3:=bc.2.1 3 _ rfl
 have p4:=bc.2.1 4 _ rfl
 have p5:=bc.2.1 5 _ rfl
 have p6:=bc.2.1 6 _ rfl
 have p7:=bc.2.1 7 _ rfl
 have p8:=bc.2.1 8 _ rfl
 have EL:=eqLimZ x.lim
 have EG:=eqGtyZ x.gl
 have EL0:∀ w,(binOp .eql 99 (.agg #[.int .i64 0,.int .i64 0,.bool false]) (.agg #[.int .i64 0,.int .i64 0,.bool false])).run Tryz.prog w=.ok (.bool true) w:=fun w=>eqLim w 0 0 false
 have EG0:∀ w,(binOp .eql 101 (.agg #[.int .i64 0,.bool false]) (.agg #[.int .i64 0,.bool false])).run Tryz.prog w=.ok (.bool true) w:=fun w=>eqGty w 0 false
 generalize hz1:limZ x.lim=z1 at EL
 generalize hz2:gtZ x.gl=z2 at EG
 have k0:=KK.out
 have HK:=Hm (ilim_c x.lim V)
 generalize hz3:limB x.lim=z3 at HK
 have HF:Hid (impK x=(x.ty==0&&z3&&z2)):=by simp [Hid,impK1 (.inr k0),hz1,hz2,hz3]
 clear hz1 hz2 hz3
 go_wp2_with fail
 refine HK.out.mono ?_
 rintro e V1 ⟨rfl,hv⟩
 have bb:=bb.keep hv
 have bc:=bc.keep hv
 have hb:=hb.trans (hv.mono hb.size)
 clear hv HK q0 q1 q2 q3 q4 q5 q6 q7 q8 p0 p1 p2 p3 p4 p5 p6 p7 p8
 have ne:w.heap.size+1≠w.heap.size:=by omega
 have q0:=bb.2.1 0 _ rfl
 have q1:=bb.2.1 1 _ rfl
 have q2:=bb.2.1 2 _ rfl
 have q3:=bb.2.1 3 _ rfl
 have q4:=bb.2.1 4 _ rfl
 have q5:=bb.2.1 5 _ rfl
 have q6:=bb.2.1 6 _ rfl
 have q7:=bb.2.1 7 _ rfl
 have q8:=bb.2.1 8 _ rfl
 have p0:=bc.2.1 0 _ rfl
 have p1:=bc.2.1 1 _ rfl
 have p2:=bc.2.1 2 _ rfl
 have p3:=bc.2.1 3 _ rfl
 have p4:=bc.2.1 4 _ rfl
 have p5:=bc.2.1 5 _ rfl
 have p6:=bc.2.1 6 _ rfl
 have p7:=bc.2.1 7 _ rfl
 have p8:=bc.2.1 8 _ rfl
 have fz:∀ j,V1.frozen? ⟨w.heap.size+1,j,none⟩=false:=bc.2.2
 go_upto_region 10 with fail
 refine wp_gen (fun V'=>Bk V' w.heap.size [.string x.mod,.string x.nm,.int .i64 x.kind,.int .i64 x.ty,.int .i64 x.lim.min,.int .i64 x.lim.max,.bool x.lim.has,.int .i64 x.gl.ty,.bool x.gl.mu]∧Bk V' (w.heap.size+1) [.string x.mod,.string x.nm,.int .i64 x.kind,.int .i64 x.ty,.int .i64 0,.int .i64 0,.bool false,.int .i64 x.gl.ty,.bool x.gl.mu]∧Below w.heap.size w V') ⟨(((bb.other ne).other ne).other ne),bc.set.set.set,(((hb.setCell (Nat.le_succ _) _).setCell (Nat.le_succ _) _).setCell (Nat.le_succ _) _)⟩ ?_
 clear bb bc hb fz q0 q1 q2 q3 q4 q5 q6 q7 q8 p0 p1 p2 p3 p4 p5 p6 p7 p8
 rintro V ⟨bb,bc,hb⟩
 have q0:=bb.2.1 0 _ rfl
 have q1:=bb.2.1 1 _ rfl
 have q2:=bb.2.1 2 _ rfl
 have q3:=bb.2.1 3 _ rfl
 have q4:=bb.2.1 4 _ rfl
 have q5:=bb.2.1 5 _ rfl
 have q6:=bb.2.1 6 _ rfl
 have q7:=bb.2.1 7 _ rfl
 have q8:=bb.2.1 8 _ rfl
 have p0:=bc.2.1 0 _ rfl
 have p1:=bc.2.1 1 _ rfl
 have p2:=bc.2.1 2 _ rfl
 have p3:=bc.2.1 3 _ rfl
 have p4:=bc.2.1 4 _ rfl
 have p5:=bc.2.1 5 _ rfl
 have p6:=bc.2.1 6 _ rfl
 have p7:=bc.2.1 7 _ rfl
 have p8:=bc.2.1 8 _ rfl
 by_cases ht:x.ty=0
 case neg =>
  have HF2:Hid (impB x=false):=kind_oth (by rw [HF.out];simp [ht])
  clear HF bb bc
  cases z3 <;>
  · go_wp2
    go_ret
    exact ⟨by rw [HF2.out];rfl,hb⟩
 have HF:Hid (impK x=(z3&&z2)):=by rw [Hid,HF.out];simp [ht]
 by_cases hall:(z2&&z3)=true
 · have HF:Hid (impK x=true):=by rw [Hid,HF.out];revert hall;cases z2 <;> cases z3 <;> simp
   simp only [Bool.and_eq_true] at hall
   obtain ⟨rfl,rfl⟩:=hall
   clear bc
   have HC0:=Hm (iname_ok x.mod V l0)
   generalize ht0:nameB x.mod=t0 at HC0
   cases t0
   · go_wp2_with fail
     refine HC0.out.mono ?_
     rintro e W1 ⟨rfl,hb0⟩
     have hb:=hb.trans (hb0.mono hb.size)
     clear hb0 bb
     go_wp2
     go_ret
     exact ⟨by simp [impB,ht0],hb⟩
   go_wp2_with fail
   refine HC0.out.mono ?_
   rintro e W1 ⟨rfl,hb0⟩
   have bb:=bb.keep hb0
   have hb:=hb.trans (hb0.mono hb.size)
   clear hb0 HC0
   have q0:=bb.2.1 0 _ rfl
   have q1:=bb.2.1 1 _ rfl
   have q2:=bb.2.1 2 _ rfl
   have q3:=bb.2.1 3 _ rfl
   have q4:=bb.2.1 4 _ rfl
   have q5:=bb.2.1 5 _ rfl
   have q6:=bb.2.1 6 _ rfl
   have q7:=bb.2.1 7 _ rfl
   have q8:=bb.2.1 8 _ rfl
   have HC1:=Hm (iname_ok x.nm W1 l1)
   generalize ht1:nameB x.nm=t1 at HC1
   cases t1 <;>
   · go_wp2_with fail
     refine HC1.out.mono ?_
     rintro e W2 ⟨rfl,hb1⟩
     have hb:=hb.trans (hb1.mono hb.size)
     clear hb1 bb
     go_wp2
     go_ret
     exact ⟨by simp [impB,ht0,ht1,HF.out],hb⟩
 · have HF2:Hid (impB x=false):=kind_oth (by rw [HF.out];revert hall;cases z2 <;> cases z3 <;> simp)
   clear HF bb bc
   cases z2 <;> cases z3 <;> first
   | (exact absurd rfl hall)
   | (clear hall
      go_wp2
      go_ret
      exact ⟨by rw [HF2.out];rfl,hb⟩)
theorem iimp3 (x:Imp) (w:World) (hl:Imp.LB 1048576 x) (k0:x.kind=3) :
    Calls Tryz.prog 50 #[.agg #[.string x.mod,.string x.nm,.int .i64 x.kind,.int .i64 x.ty,.int .i64 x.lim.min,.int .i64 x.lim.max,.bool x.lim.has,.int .i64 x.gl.ty,.bool x.gl.mu]] w fun e w'=>e=.returned (.bool (impB x))∧Below w.heap.size w w':=by
 obtain ⟨l0,l1⟩:=hl
 have KK:=Hm k0
 clear k0
 go_enter Tryz.func50,Tryz.ntmps50
 go_upto_region 1 with fail
 refine wp_gen (fun W=>Bk W w.heap.size [.string x.mod,.string x.nm,.int .i64 x.kind,.int .i64 x.ty,.int .i64 x.lim.min,.int .i64 x.lim.max,.bool x.lim.has,.int .i64 x.gl.ty,.bool x.gl.mu]∧Below w.heap.size w W∧W.heap.size=w.heap.size+1) ⟨Bk.new,(Below.refl _ _).alloc (Nat.le_refl _) _,by simp⟩ ?_
 rintro W ⟨bb,hb,hs⟩
 have q0:=bb.2.1 0 _ rfl
 have q1:=bb.2.1 1 _ rfl
 have q2:=bb.2.1 2 _ rfl
 have q3:=bb.2.1 3 _ rfl
 have q4:=bb.2.1 4 _ rfl
 have q5:=bb.2.1 5 _ rfl
 have q6:=bb.2.1 6 _ rfl
 have q7:=bb.2.1 7 _ rfl
 have q8:=bb.2.1 8 _ rfl
 go_region
 go_upto_region 2 with fail
 refine wp_gen (fun V=>Bk V w.heap.size [.string x.mod,.string x.nm,.int .i64 x.kind,.int .i64 x.ty,.int .i64 x.lim.min,.int .i64 x.lim.max,.bool x.lim.has,.int .i64 x.gl.ty,.bool x.gl.mu]∧Bk V (w.heap.size+1) [.string x.mod,.string x.nm,.int .i64 x.kind,.int .i64 x.ty,.int .i64 x.lim.min,.int .i64 x.lim.max,.bool x.lim.has,.int .i64 x.gl.ty,.bool x.gl.mu]∧Below w.heap.size w V) ⟨Bk.drew bb.past,by rw [← hs];exact Bk.drew Bk.new,hb.trans ((((Below.refl _ W).alloc (Nat.le_refl _) _).drew).mono hb.size)⟩ ?_
 clear bb hb hs q0 q1 q2 q3 q4 q5 q6 q7 q8
 rintro V ⟨bb,bc,hb⟩
 have q0:=bb.2.1 0 _ rfl
 have q1:=bb.2.1 1 _ rfl
 have q2:=bb.2.1 2 _ rfl
 have q3:=bb.2.1 3 _ rfl
 have q4:=bb.2.1 4 _ rfl
 have q5:=bb.2.1 5 _ rfl
 have q6:=bb.2.1 6 _ rfl
 have q7:=bb.2.1 7 _ rfl
 have q8:=bb.2.1 8 _ rfl
 have p0:=bc.2.1 0 _ rfl
 have p1:=bc.2.1 1 _ rfl
 have p2:=bc.2.1 2 _ rfl
 have p3:=bc.2.1 3 _ rfl
 have p4:=bc.2.1 4 _ rfl
 have p5:=bc.2.1 5 _ rfl
 have p6:=bc.2.1 6 _ rfl
 have p7:=bc.2.1 7 _ rfl
 have p8:=bc.2.1 8 _ rfl
 have EL:=eqLimZ x.lim
 have EG:=eqGtyZ x.gl
 have EL0:∀ w,(binOp .eql 99 (.agg #[.int .i64 0,.int .i64 0,.bool false]) (.agg #[.int .i64 0,.int .i64 0,.bool false])).run Tryz.prog w=.ok (.bool true) w:=fun w=>eqLim w 0 0 false
 have EG0:∀ w,(binOp .eql 101 (.agg #[.int .i64 0,.bool false]) (.agg #[.int .i64 0,.bool false])).run Tryz.prog w=.ok (.bool true) w:=fun w=>eqGty w 0 false
 generalize hz1:limZ x.lim=z1 at EL
 generalize hz2:gtZ x.gl=z2 at EG
 have k0:=KK.out
 have HK:=Hm (igt_c x.gl V)
 generalize hz3:tyB x.gl.ty=z3 at HK
 have HF:Hid (impK x=(x.ty==0&&z1&&z3)):=by simp [Hid,impK3 k0,hz1,hz2,hz3]
 clear hz1 hz2 hz3
 go_wp2_with fail
 refine HK.out.mono ?_
 rintro e V1 ⟨rfl,hv⟩
 have bb:=bb.keep hv
 have bc:=bc.keep hv
 have hb:=hb.trans (hv.mono hb.size)
 clear hv HK q0 q1 q2 q3 q4 q5 q6 q7 q8 p0 p1 p2 p3 p4 p5 p6 p7 p8
 have ne:w.heap.size+1≠w.heap.size:=by omega
 have q0:=bb.2.1 0 _ rfl
 have q1:=bb.2.1 1 _ rfl
 have q2:=bb.2.1 2 _ rfl
 have q3:=bb.2.1 3 _ rfl
 have q4:=bb.2.1 4 _ rfl
 have q5:=bb.2.1 5 _ rfl
 have q6:=bb.2.1 6 _ rfl
 have q7:=bb.2.1 7 _ rfl
 have q8:=bb.2.1 8 _ rfl
 have p0:=bc.2.1 0 _ rfl
 have p1:=bc.2.1 1 _ rfl
 have p2:=bc.2.1 2 _ rfl
 have p3:=bc.2.1 3 _ rfl
 have p4:=bc.2.1 4 _ rfl
 have p5:=bc.2.1 5 _ rfl
 have p6:=bc.2.1 6 _ rfl
 have p7:=bc.2.1 7 _ rfl
 have p8:=bc.2.1 8 _ rfl
 have fz:∀ j,V1.frozen? ⟨w.heap.size+1,j,none⟩=false:=bc.2.2
 go_upto_region 10 with fail
 refine wp_gen (fun V'=>Bk V' w.heap.size [.string x.mod,.string x.nm,.int .i64 x.kind,.int .i64 x.ty,.int .i64 x.lim.min,.int .i64 x.lim.max,.bool x.lim.has,.int .i64 x.gl.ty,.bool x.gl.mu]∧Bk V' (w.heap.size+1) [.string x.mod,.string x.nm,.int .i64 x.kind,.int .i64 x.ty,.int .i64 x.lim.min,.int .i64 x.lim.max,.bool x.lim.has,.int .i64 0,.bool false]∧Below w.heap.size w V') ⟨((bb.other ne).other ne),bc.set.set,((hb.setCell (Nat.le_succ _) _).setCell (Nat.le_succ _) _)⟩ ?_
 clear bb bc hb fz q0 q1 q2 q3 q4 q5 q6 q7 q8 p0 p1 p2 p3 p4 p5 p6 p7 p8
 rintro V ⟨bb,bc,hb⟩
 have q0:=bb.2.1 0 _ rfl
 have q1:=bb.2.1 1 _ rfl
 have q2:=bb.2.1 2 _ rfl
 have q3:=bb.2.1 3 _ rfl
 have q4:=bb.2.1 4 _ rfl
 have q5:=bb.2.1 5 _ rfl
 have q6:=bb.2.1 6 _ rfl
 have q7:=bb.2.1 7 _ rfl
 have q8:=bb.2.1 8 _ rfl
 have p0:=bc.2.1 0 _ rfl
 have p1:=bc.2.1 1 _ rfl
 have p2:=bc.2.1 2 _ rfl
 have p3:=bc.2.1 3 _ rfl
 have p4:=bc.2.1 4 _ rfl
 have p5:=bc.2.1 5 _ rfl
 have p6:=bc.2.1 6 _ rfl
 have p7:=bc.2.1 7 _ rfl
 have p8:=bc.2.1 8 _ rfl
 by_cases ht:x.ty=0
 case neg =>
  have HF2:Hid (impB x=false):=kind_oth (by rw [HF.out];simp [ht])
  clear HF bb bc
  cases z3 <;>
  · go_wp2
    go_ret
    exact ⟨by rw [HF2.out];rfl,hb⟩
 have HF:Hid (impK x=(z1&&z3)):=by rw [Hid,HF.out];simp [ht]
 by_cases hall:(z1&&z3)=true
 · have HF:Hid (impK x=true):=by rw [Hid,HF.out];revert hall;cases z1 <;> cases z3 <;> simp
   simp only [Bool.and_eq_true] at hall
   obtain ⟨rfl,rfl⟩:=hall
   clear bc
   have HC0:=Hm (iname_ok x.mod V l0)
   generalize ht0:nameB x.mod=t0 at HC0
   cases t0
   · go_wp2_with fail
     refine HC0.out.mono ?_
     rintro e W1 ⟨rfl,hb0⟩
     have hb:=hb.trans (hb0.mono hb.size)
     clear hb0 bb
     go_wp2
     go_ret
     exact ⟨by simp [impB,ht0],hb⟩
   go_wp2_with fail
   refine HC0.out.mono ?_
   rintro e W1 ⟨rfl,hb0⟩
   have bb:=bb.keep hb0
   have hb:=hb.trans (hb0.mono hb.size)
   clear hb0 HC0
   have q0:=bb.2.1 0 _ rfl
   have q1:=bb.2.1 1 _ rfl
   have q2:=bb.2.1 2 _ rfl
   have q3:=bb.2.1 3 _ rfl
   have q4:=bb.2.1 4 _ rfl
   have q5:=bb.2.1 5 _ rfl
   have q6:=bb.2.1 6 _ rfl
   have q7:=bb.2.1 7 _ rfl
   have q8:=bb.2.1 8 _ rfl
   have HC1:=Hm (iname_ok x.nm W1 l1)
   generalize ht1:nameB x.nm=t1 at HC1
   cases t1 <;>
   · go_wp2_with fail
     refine HC1.out.mono ?_
     rintro e W2 ⟨rfl,hb1⟩
     have hb:=hb.trans (hb1.mono hb.size)
     clear hb1 bb
     go_wp2
     go_ret
     exact ⟨by simp [impB,ht0,ht1,HF.out],hb⟩
 · have HF2:Hid (impB x=false):=kind_oth (by rw [HF.out];revert hall;cases z1 <;> cases z3 <;> simp)
   clear HF bb bc
   cases z1 <;> cases z3 <;> first
   | (exact absurd rfl hall)
   | (clear hall
      go_wp2
      go_ret
      exact ⟨by rw [HF2.out];rfl,hb⟩)
theorem iimp4 (x:Imp) (w:World) (hl:Imp.LB 1048576 x) (k0:¬ x.kind=0∧¬ x.kind=1∧¬ x.kind=2∧¬ x.kind=3) :
    Calls Tryz.prog 50 #[.agg #[.string x.mod,.string x.nm,.int .i64 x.kind,.int .i64 x.ty,.int .i64 x.lim.min,.int .i64 x.lim.max,.bool x.lim.has,.int .i64 x.gl.ty,.bool x.gl.mu]] w fun e w'=>e=.returned (.bool (impB x))∧Below w.heap.size w w':=by
 obtain ⟨l0,l1⟩:=hl
 have KK:=Hm k0
 clear k0
 go_enter Tryz.func50,Tryz.ntmps50
 go_upto_region 1 with fail
 refine wp_gen (fun W=>Bk W w.heap.size [.string x.mod,.string x.nm,.int .i64 x.kind,.int .i64 x.ty,.int .i64 x.lim.min,.int .i64 x.lim.max,.bool x.lim.has,.int .i64 x.gl.ty,.bool x.gl.mu]∧Below w.heap.size w W∧W.heap.size=w.heap.size+1) ⟨Bk.new,(Below.refl _ _).alloc (Nat.le_refl _) _,by simp⟩ ?_
 rintro W ⟨bb,hb,hs⟩
 have q0:=bb.2.1 0 _ rfl
 have q1:=bb.2.1 1 _ rfl
 have q2:=bb.2.1 2 _ rfl
 have q3:=bb.2.1 3 _ rfl
 have q4:=bb.2.1 4 _ rfl
 have q5:=bb.2.1 5 _ rfl
 have q6:=bb.2.1 6 _ rfl
 have q7:=bb.2.1 7 _ rfl
 have q8:=bb.2.1 8 _ rfl
 go_region
 go_upto_region 2 with fail
 refine wp_gen (fun V=>Bk V w.heap.size [.string x.mod,.string x.nm,.int .i64 x.kind,.int .i64 x.ty,.int .i64 x.lim.min,.int .i64 x.lim.max,.bool x.lim.has,.int .i64 x.gl.ty,.bool x.gl.mu]∧Bk V (w.heap.size+1) [.string x.mod,.string x.nm,.int .i64 x.kind,.int .i64 x.ty,.int .i64 x.lim.min,.int .i64 x.lim.max,.bool x.lim.has,.int .i64 x.gl.ty,.bool x.gl.mu]∧Below w.heap.size w V) ⟨Bk.drew bb.past,by rw [← hs];exact Bk.drew Bk.new,hb.trans ((((Below.refl _ W).alloc (Nat.le_refl _) _).drew).mono hb.size)⟩ ?_
 clear bb hb hs q0 q1 q2 q3 q4 q5 q6 q7 q8
 rintro V ⟨bb,bc,hb⟩
 have q0:=bb.2.1 0 _ rfl
 have q1:=bb.2.1 1 _ rfl
 have q2:=bb.2.1 2 _ rfl
 have q3:=bb.2.1 3 _ rfl
 have q4:=bb.2.1 4 _ rfl
 have q5:=bb.2.1 5 _ rfl
 have q6:=bb.2.1 6 _ rfl
 have q7:=bb.2.1 7 _ rfl
 have q8:=bb.2.1 8 _ rfl
 have p0:=bc.2.1 0 _ rfl
 have p1:=bc.2.1 1 _ rfl
 have p2:=bc.2.1 2 _ rfl
 have p3:=bc.2.1 3 _ rfl
 have p4:=bc.2.1 4 _ rfl
 have p5:=bc.2.1 5 _ rfl
 have p6:=bc.2.1 6 _ rfl
 have p7:=bc.2.1 7 _ rfl
 have p8:=bc.2.1 8 _ rfl
 have EL:=eqLimZ x.lim
 have EG:=eqGtyZ x.gl
 have EL0:∀ w,(binOp .eql 99 (.agg #[.int .i64 0,.int .i64 0,.bool false]) (.agg #[.int .i64 0,.int .i64 0,.bool false])).run Tryz.prog w=.ok (.bool true) w:=fun w=>eqLim w 0 0 false
 have EG0:∀ w,(binOp .eql 101 (.agg #[.int .i64 0,.bool false]) (.agg #[.int .i64 0,.bool false])).run Tryz.prog w=.ok (.bool true) w:=fun w=>eqGty w 0 false
 generalize hz1:limZ x.lim=z1 at EL
 generalize hz2:gtZ x.gl=z2 at EG
 obtain ⟨k0,k1,k2,k3⟩:=KK.out
 have HF2:Hid (impB x=false):=kind_oth (by rw [impK4 k0 k1 k2 k3];simp)
 clear hz1 hz2 bb bc
 by_cases ht:x.ty=0 <;> cases z1 <;> cases z2 <;>
 · go_wp2
   go_ret
   exact ⟨by rw [HF2.out];rfl,hb⟩
theorem iimp_c (x:Imp) (w:World) (hI:Imp.Is 0 w x) (hl:Imp.LB 1048576 x) :
    Calls Tryz.prog 50 #[.agg #[.string x.mod,.string x.nm,.int .i64 x.kind,.int .i64 x.ty,.int .i64 x.lim.min,.int .i64 x.lim.max,.bool x.lim.has,.int .i64 x.gl.ty,.bool x.gl.mu]] w fun e w'=>e=.returned (.bool (impB x))∧Below w.heap.size w w':=by
 by_cases k0:x.kind=0
 · exact iimp0 x w hl k0
 by_cases k1:x.kind=1
 · exact iimp1 x w hl k1
 by_cases k2:x.kind=2
 · exact iimp2 x w hl k2
 by_cases k3:x.kind=3
 · exact iimp3 x w hl k3
 exact iimp4 x w hl ⟨k0,k1,k2,k3⟩
end Go.Proofs.YtdbmolambolmgaaGreat
