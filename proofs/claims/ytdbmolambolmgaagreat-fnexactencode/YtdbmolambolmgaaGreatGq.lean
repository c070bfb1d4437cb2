import Derived.Test.YtdbmolambolmgaaGreatGp
import Derived.Laws.StructEq
set_option linter.all false
set_option maxHeartbeats 16000000
set_option maxRecDepth 100000
namespace Go.Proofs.YtdbmolambolmgaaGreat
open Go.RowKit Go.Sort
theorem eqLim (w:World) (a:Int) (b:Int) (h:Bool):(binOp .eql 99 (.agg #[.int .i64 a,.int .i64 b,.bool h]) (.agg #[.int .i64 0,.int .i64 0,.bool false])).run Tryz.prog w=.ok (.bool (a==0&&(b==0&&h==false))) w:=by
 have hF:(Tryz.prog.fieldsOf 99).toList.map (fun f=>(f.type,f.offset,decide (f.name= "_")))=[(2,0,false),(2,1,false),(4,2,false)]:=by kernel_rfl
 rw [run_eql_struct,show (10000:Nat)=9998+1+1 from rfl,run_equalIn_struct w (9998+1) _ _ _ (by kernel_rfl) (by kernel_rfl)]
 generalize (Tryz.prog.fieldsOf 99).toList=fs at hF
 obtain ⟨f0,r0,rfl,e0,h0⟩:=List.map_eq_cons_iff.1 hF
 obtain ⟨f1,r1,rfl,e1,h1⟩:=List.map_eq_cons_iff.1 h0
 obtain ⟨f2,r2,rfl,e2,h2⟩:=List.map_eq_cons_iff.1 h1
 obtain rfl:=List.map_eq_nil_iff.1 h2
 simp only [Prod.mk.injEq,decide_eq_false_iff_not] at e0 e1 e2
 obtain ⟨t0,o0,n0⟩:=e0
 obtain ⟨t1,o1,n1⟩:=e1
 obtain ⟨t2,o2,n2⟩:=e2
 simp only [Op.eqFields,ne_eq,n0,n1,n2,not_false_eq_true,if_true,t0,o0,t1,o1,t2,o2,Sem.run_bind]
 have p0:∀ (x y z:Value),(part 2 #[x,y,z] 0).run Tryz.prog w=.ok x w:=fun x y z=>by simp [part,isAgg,run_underlying Tryz.underlying2]
 have p1:∀ (x y z:Value),(part 2 #[x,y,z] 1).run Tryz.prog w=.ok y w:=fun x y z=>by simp [part,isAgg,run_underlying Tryz.underlying2]
 have p2:∀ (x y z:Value),(part 4 #[x,y,z] 2).run Tryz.prog w=.ok z w:=fun x y z=>by simp [part,isAgg,run_underlying Tryz.underlying4]
 simp only [p0,p1,p2,Result.andThen_ok,run_equalIn_int w 9998 2 .i64 .i64 _ _ Tryz.underlying2,run_equalIn_bool' w 9998 4 _ _ Tryz.underlying4]
 by_cases ka:a=0 <;> by_cases kb:b=0 <;> cases h <;> simp [Sem.run_bind,p0,p1,p2,run_equalIn_int w 9998 2 .i64 .i64 _ _ Tryz.underlying2,run_equalIn_bool' w 9998 4 _ _ Tryz.underlying4,ka,kb]
theorem eqGty (w:World) (a:Int) (h:Bool):(binOp .eql 101 (.agg #[.int .i64 a,.bool h]) (.agg #[.int .i64 0,.bool false])).run Tryz.prog w=.ok (.bool (a==0&&h==false)) w:=by
 have hF:(Tryz.prog.fieldsOf 101).toList.map (fun f=>(f.type,f.offset,decide (f.name= "_")))=[(2,0,false),(4,1,false)]:=by kernel_rfl
 rw [run_eql_struct,show (10000:Nat)=9998+1+1 from rfl,run_equalIn_struct w (9998+1) _ _ _ (by kernel_rfl) (by kernel_rfl)]
 generalize (Tryz.prog.fieldsOf 101).toList=fs at hF
 obtain ⟨f0,r0,rfl,e0,h0⟩:=List.map_eq_cons_iff.1 hF
 obtain ⟨f1,r1,rfl,e1,h1⟩:=List.map_eq_cons_iff.1 h0
 obtain rfl:=List.map_eq_nil_iff.1 h1
 simp only [Prod.mk.injEq,decide_eq_false_iff_not] at e0 e1
 obtain ⟨t0,o0,n0⟩:=e0
 obtain ⟨t1,o1,n1⟩:=e1
 simp only [Op.eqFields,ne_eq,n0,n1,not_false_eq_true,if_true,t0,o0,t1,o1,Sem.run_bind]
 have p0:∀ (x y:Value),(part 2 #[x,y] 0).run Tryz.prog w=.ok x w:=fun x y=>by simp [part,isAgg,run_underlying Tryz.underlying2]
 have p1:∀ (x y:Value),(part 4 #[x,y] 1).run Tryz.prog w=.ok y w:=fun x y=>by simp [part,isAgg,run_underlying Tryz.underlying4]
 simp only [p0,p1,Result.andThen_ok,run_equalIn_int w 9998 2 .i64 .i64 _ _ Tryz.underlying2,run_equalIn_bool' w 9998 4 _ _ Tryz.underlying4]
 by_cases ka:a=0 <;> cases h <;> simp [Sem.run_bind,p0,p1,run_equalIn_int w 9998 2 .i64 .i64 _ _ Tryz.underlying2,run_equalIn_bool' w 9998 4 _ _ Tryz.underlying4,ka]
open Go.RowKit Go.Sort
def limZ (l:Limits):Bool:=l.min==0&&(l.max==0&&l.has==false)
def gtZ (g:GType):Bool:=g.ty==0&&g.mu==false
def impK (x:Imp):Bool:=if x.kind=0 then u32B x.ty&&limZ x.lim&&gtZ x.gl else if x.kind=1∨x.kind=2 then x.ty==0&&limB x.lim&&gtZ x.gl else if x.kind=3 then x.ty==0&&limZ x.lim&&tyB x.gl.ty else false
def impB (x:Imp):Bool:=nameB x.mod&&nameB x.nm&&impK x
theorem impK0 {x:Imp} (h:x.kind=0):impK x=(u32B x.ty&&limZ x.lim&&gtZ x.gl):=by simp [impK,h]
theorem impK1 {x:Imp} (h:x.kind=1∨x.kind=2):impK x=(x.ty==0&&limB x.lim&&gtZ x.gl):=by
 have:¬ x.kind=0:=by omega
 simp [impK,h,this]
theorem impK3 {x:Imp} (h:x.kind=3):impK x=(x.ty==0&&limZ x.lim&&tyB x.gl.ty):=by simp [impK,h]
theorem impK4 {x:Imp} (h0:¬ x.kind=0) (h1:¬ x.kind=1) (h2:¬ x.kind=2) (h3:¬ x.kind=3):impK x=false:=by simp [impK,h0,h1,h2,h3]
theorem eqLimZ (l:Limits) (w:World):(binOp .eql 99 (.agg #[.int .i64 l.min,.int .i64 l.max,.bool l.has]) (.agg #[.int .i64 0,.int .i64 0,.bool false])).run Tryz.prog w=.ok (.bool (limZ l)) w:=eqLim w _ _ _
theorem eqGtyZ (g:GType) (w:World):(binOp .eql 101 (.agg #[.int .i64 g.ty,.bool g.mu]) (.agg #[.int .i64 0,.bool false])).run Tryz.prog w=.ok (.bool (gtZ g)) w:=eqGty w _ _
attribute [-go_sem] run_eql_struct
theorem simp_c (x:Imp) (w:World) (hI:Imp.Is 0 w x) (hl:Imp.LB 1048576 x) :
    Calls Tryz.prog 109 #[.agg #[.string x.mod,.string x.nm,.int .i64 x.kind,.int .i64 x.ty,.int .i64 x.lim.min,.int .i64 x.lim.max,.bool x.lim.has,.int .i64 x.gl.ty,.bool x.gl.mu]] w fun e w'=>e=.returned (.bool (impB x))∧Below w.heap.size w w':=by
 obtain ⟨l0,l1⟩:=hl
 go_enter Tryz.func109,Tryz.ntmps109
 go_upto_region 1 with fail
 refine wp_gen (fun W=>Bk W w.heap.size [.string x.mod,.string x.nm,.int .i64 x.kind,.int .i64 x.ty,.int .i64 x.lim.min,.int .i64 x.lim.max,.bool x.lim.has,.int .i64 x.gl.ty,.bool x.gl.mu]∧Below w.heap.size w W) ⟨Bk.new,(Below.refl _ _).alloc (Nat.le_refl _) _⟩ ?_
 rintro W ⟨bb,hb⟩
 have q0:=bb.2.1 0 _ rfl
 have q1:=bb.2.1 1 _ rfl
 have q2:=bb.2.1 2 _ rfl
 have q3:=bb.2.1 3 _ rfl
 have q4:=bb.2.1 4 _ rfl
 have q5:=bb.2.1 5 _ rfl
 have q6:=bb.2.1 6 _ rfl
 have q7:=bb.2.1 7 _ rfl
 have q8:=bb.2.1 8 _ rfl
 have HC0:=Hm (sname_ok x.mod W l0)
 generalize ht0:nameB x.mod=t0 at HC0
 cases t0
 · go_wp2_with fail
   refine HC0.out.mono ?_
   rintro e W1 ⟨rfl,hb0⟩
   have hb:=hb.trans (hb0.mono hb.size)
   clear hb0 bb
   go_wp2
   go_ret
   exact ⟨by simp [impB,ht0],hb⟩
 go_wp2_with fail
 refine HC0.out.mono ?_
 rintro e W1 ⟨rfl,hb0⟩
 have bb:=bb.keep hb0
 have hb:=hb.trans (hb0.mono hb.size)
 clear hb0 HC0
 have q0:=bb.2.1 0 _ rfl
 have q1:=bb.2.1 1 _ rfl
 have q2:=bb.2.1 2 _ rfl
 have q3:=bb.2.1 3 _ rfl
 have q4:=bb.2.1 4 _ rfl
 have q5:=bb.2.1 5 _ rfl
 have q6:=bb.2.1 6 _ rfl
 have q7:=bb.2.1 7 _ rfl
 have q8:=bb.2.1 8 _ rfl
 have HC1:=Hm (sname_ok x.nm W1 l1)
 generalize ht1:nameB x.nm=t1 at HC1
 cases t1
 · go_wp2_with fail
   refine HC1.out.mono ?_
   rintro e W2 ⟨rfl,hb1⟩
   have hb:=hb.trans (hb1.mono hb.size)
   clear hb1 bb
   go_wp2
   go_ret
   exact ⟨by simp [impB,ht0,ht1],hb⟩
 go_wp2_with fail
 refine HC1.out.mono ?_
 rintro e W2 ⟨rfl,hb1⟩
 have bb:=bb.keep hb1
 have hb:=hb.trans (hb1.mono hb.size)
 clear hb1 HC1
 have q0:=bb.2.1 0 _ rfl
 have q1:=bb.2.1 1 _ rfl
 have q2:=bb.2.1 2 _ rfl
 have q3:=bb.2.1 3 _ rfl
 have q4:=bb.2.1 4 _ rfl
 have q5:=bb.2.1 5 _ rfl
 have q6:=bb.2.1 6 _ rfl
 have q7:=bb.2.1 7 _ rfl
 have q8:=bb.2.1 8 _ rfl
 have EL:=eqLimZ x.lim
 have EG:=eqGtyZ x.gl
 generalize hz1:limZ x.lim=z1 at EL
 generalize hz2:gtZ x.gl=z2 at EG
 by_cases k0:x.kind=0
 · have HK:=Hm (u32_c x.ty W2)
   generalize hz3:u32B x.ty=z3 at HK
   have HF:Hid (impB x=(z3&&z1&&z2)):=by simp [Hid,impB,ht0,ht1,impK0 k0,hz1,hz2,hz3]
   clear hz1 hz2 hz3 ht0 ht1 bb
   cases z1 <;> cases z2 <;> cases z3 <;>
   · go_wp2_with (refine HK.out.mono ?_;rintro e w1 ⟨rfl,rfl⟩)
     go_ret
     exact ⟨by rw [HF.out];rfl,hb⟩
 by_cases k1:x.kind=1∨x.kind=2
 · have HK:=Hm (slim_c x.lim W2)
   generalize hz3:limB x.lim=z3 at HK
   have HF:Hid (impB x=(x.ty==0&&z3&&z2)):=by simp [Hid,impB,ht0,ht1,impK1 k1,hz2,hz3]
   clear hz1 hz2 hz3 ht0 ht1
   by_cases h0:x.ty=0
   · have HF:Hid (impB x=(z3&&z2)):=by rw [Hid,HF.out];simp [h0]
     rcases k1 with k1 | k1 <;> cases z2 <;> cases z3 <;>
     · go_wp2_with fail
       refine HK.out.mono ?_
       rintro e W3 ⟨rfl,hb3⟩
       have hb:=hb.trans (hb3.mono hb.size)
       clear hb3 bb
       go_wp2
       go_ret
       exact ⟨by rw [HF.out];rfl,hb⟩
   · have HF:Hid (impB x=false):=by rw [Hid,HF.out];simp [h0]
     clear HK bb
     rcases k1 with k1 | k1 <;>
     · go_wp2
       go_ret
       exact ⟨by rw [HF.out];rfl,hb⟩
 obtain ⟨k1,k2⟩:¬ x.kind=1∧¬ x.kind=2:=⟨fun h=>k1 (.inl h),fun h=>k1 (.inr h)⟩
 by_cases k3:x.kind=3
 · have HK:=Hm (ty_c x.gl.ty W2)
   generalize hz3:tyB x.gl.ty=z3 at HK
   have HF:Hid (impB x=(x.ty==0&&z1&&z3)):=by simp [Hid,impB,ht0,ht1,impK3 k3,hz1,hz3]
   clear hz1 hz2 hz3 ht0 ht1 bb
   by_cases h0:x.ty=0
   · have HF:Hid (impB x=(z1&&z3)):=by rw [Hid,HF.out];simp [h0]
     cases z1 <;> cases z3 <;>
     · go_wp2_with (refine HK.out.mono ?_;rintro e w1 ⟨rfl,rfl⟩)
       go_ret
       exact ⟨by rw [HF.out];rfl,hb⟩
   · have HF:Hid (impB x=false):=by rw [Hid,HF.out];simp [h0]
     clear HK
     go_wp2
     go_ret
     exact ⟨by rw [HF.out];rfl,hb⟩
 have HF:Hid (impB x=false):=by simp [Hid,impB,impK4 k0 k1 k2 k3]
 clear hz1 hz2 ht0 ht1 bb
 go_wp2
 go_ret
 exact ⟨by rw [HF.out];rfl,hb⟩
end Go.Proofs.YtdbmolambolmgaaGreat
