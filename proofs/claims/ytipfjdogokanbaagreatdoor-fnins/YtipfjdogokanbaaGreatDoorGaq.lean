import Derived.Test.YtipfjdogokanbaaGreatDoorGap
import Derived.Test.YtipfjdogokanbaaGreatDoorGaf
import Derived.Deep.RegionHeld3
import Derived.Deep.Cut
import Derived.Test.YtipfjdogokanbaaGreatDoorGaa
import Derived.Maps.AppendAt
import Derived.Laws.AppendOwnNone
set_option linter.all false
set_option maxHeartbeats 400000000
set_option maxRecDepth 100000
set_option linter.all false
namespace Go.Proofs.YtipfjdogokanbaaGreatDoor.An
open Go.RowKit Go.Sort
theorem Qj {P:Program}{c:Code}{Q:Exit->Act->World->Prop}{a:Act}{w0:World}(R:World->Prop)(hR:R w0)(h:∀ W,R W->c.wp P Q a W):c.wp P Q a w0:=h w0 hR
theorem Qf {P:Program}{fn:Func}{Rr:Ending->World->Prop}{ex:Exit}{a:Act}{w0:World}(R:World->Prop)(hR:R w0)(h:∀ W,R W->bodyPost P fn Rr ex a W):bodyPost P fn Rr ex a w0:=h w0 hR
theorem Q6 {w V:World}{q X:Nat}(g:w.grownBy V (some q))(hX:w.heap.size<=X)(o:Nat)(u:Value):w.grownBy (V.setCell ⟨X,o,none⟩ u) (some q) :=
 ⟨g.os,g.tape,g.output,by simpa [World.setCell] using g.size,λk hk hne=>(Below.heap_setCell _ _ _ _ (by show k≠X;omega)).trans (g.block k hk hne)⟩
theorem cur_far {V:World}{g B o:Nat}{a:Option Addr}{cap:Nat}{xs:List Int}{u:Value}(h:L3.Cur V g a cap xs)(hg:g<B):L3.Cur (V.setCell ⟨B,o,none⟩ u) g a cap xs :=
 h.below ((Below.refl B V).setCell (Nat.le_refl B) u) hg
structure Cq (w:World)(G g:Nat)(a:Option Addr)(cap:Nat)(xs:List Int)(V:World):Prop where
 z:C5 V w.heap.size 0 (.int .i64 0) (.int .i64 0) (.int .i64 0) (.int .u64 0) (.slice none 0 0)
 c:L3.Cur V g a cap xs
 gr:w.grownBy V (some g)
 p:V.cell? ⟨G,0,none⟩=some (.pointer (some ⟨g,0,none⟩))
 hg:g<w.heap.size
 hG:G<w.heap.size
 ne:G≠g
theorem Cq.step {w V V':World}{G g:Nat}{a:Option Addr}{cap:Nat}{xs:List Int}(h:Cq w G g a cap xs V)(hc:L3.Cur V' g a cap xs)(hg:V.grownBy V' (some g)):Cq w G g a cap xs V':=by
 have hlt:w.heap.size<V.heap.size:=World.block_lt_of_cell? V _ h.z.1.1;have hk:V'.heap[w.heap.size]?=V.heap[w.heap.size]?:=hg.block _ hlt (by simp;have:=h.hg;omega);have hp:V'.heap[G]?=V.heap[G]?:=hg.block _ (by have:=h.hG;omega) (by simp;exact h.ne);obtain ⟨⟨z0,z1,z2,z3,z4⟩,zf⟩:=h.z
 exact ⟨⟨⟨(World.cell?_of_block hk).trans z0,(World.cell?_of_block hk).trans z1,(World.cell?_of_block hk).trans z2,(World.cell?_of_block hk).trans z3,(World.cell?_of_block hk).trans z4⟩,λi=>(World.frozen?_of_block hk).trans (zf i)⟩,hc,L3.Qa h.gr hg,(World.cell?_of_block hp).trans h.p,h.hg,h.hG,h.ne⟩
theorem Cq.below {w V V':World}{G g:Nat}{a:Option Addr}{cap:Nat}{xs:List Int}(h:Cq w G g a cap xs V)(hb:Below V.heap.size V V'):Cq w G g a cap xs V' :=
 h.step (h.c.below hb (by have:=h.gr.size;have:=h.hg;omega)) ⟨hb.os,hb.tape,hb.output,hb.size,λk hk _=>hb.block k hk⟩
theorem Cq.new {w:World}{G g:Nat}{a:Option Addr}{cap:Nat}{xs:List Int}{t:TypeId}(hc:L3.Cur w g a cap xs)(hp:w.cell? ⟨G,0,none⟩=some (.pointer (some ⟨g,0,none⟩)))(ne:G≠g):Cq w G g a cap xs (w.alloc (.cells #[.int .i64 0,.int .i64 0,.int .i64 0,.int .u64 0,.slice none 0 0] t)):=by
 have hb:Below w.heap.size w (w.alloc (.cells #[.int .i64 0,.int .i64 0,.int .i64 0,.int .u64 0,.slice none 0 0] t)):=(Below.refl _ _).alloc (Nat.le_refl _) _;have hg:=L3.Cur.lt hc;have hG:G<w.heap.size:=World.block_lt_of_cell? w _ hp
 exact ⟨C5.new,hc.below hb hg,⟨hb.os,hb.tape,hb.output,hb.size,λk hk _=>hb.block k hk⟩,(hb.cell (p:=⟨G,0,none⟩) hG).trans hp,hg,hG,ne⟩
theorem Cq.fin {w V:World}{G g:Nat}{a:Option Addr}{cap:Nat}{xs:List Int}(h:Cq w G g a cap xs V)(u0 u1 u2 u3 u4:Value):C5 (((((V.setCell ⟨w.heap.size,0,none⟩ u0).setCell ⟨w.heap.size,1,none⟩ u1).setCell ⟨w.heap.size,2,none⟩ u2).setCell ⟨w.heap.size,3,none⟩ u3).setCell ⟨w.heap.size,4,none⟩ u4) w.heap.size 0 u0 u1 u2 u3 u4/\L3.Cur (((((V.setCell ⟨w.heap.size,0,none⟩ u0).setCell ⟨w.heap.size,1,none⟩ u1).setCell ⟨w.heap.size,2,none⟩ u2).setCell ⟨w.heap.size,3,none⟩ u3).setCell ⟨w.heap.size,4,none⟩ u4) g a cap xs/\w.grownBy (((((V.setCell ⟨w.heap.size,0,none⟩ u0).setCell ⟨w.heap.size,1,none⟩ u1).setCell ⟨w.heap.size,2,none⟩ u2).setCell ⟨w.heap.size,3,none⟩ u3).setCell ⟨w.heap.size,4,none⟩ u4) (some g):=by
 obtain ⟨⟨z0,z1,z2,z3,z4⟩,zf⟩:=h.z
 simp only [Nat.zero_add] at z0 z1 z2 z3 z4
 have g0:=Q6 h.gr (Nat.le_refl _) 0 u0;have g1:=Q6 g0 (Nat.le_refl _) 1 u1;have g2:=Q6 g1 (Nat.le_refl _) 2 u2;have g3:=Q6 g2 (Nat.le_refl _) 3 u3;have g4:=Q6 g3 (Nat.le_refl _) 4 u4
 refine ⟨⟨⟨?_,?_,?_,?_,?_⟩,λi=>by simp only [World.frozen?_setCell];exact zf i⟩,cur_far (cur_far (cur_far (cur_far (cur_far h.c h.hg) h.hg) h.hg) h.hg) h.hg,g4⟩
 . exact Qc (Qc (Qc (Qc (Qh z0) (by decide)) (by decide)) (by decide)) (by decide)
 . exact Qc (Qc (Qc (Qh (Qc z1 (by decide))) (by decide)) (by decide)) (by decide)
 . exact Qc (Qc (Qh (Qc (Qc z2 (by decide)) (by decide))) (by decide)) (by decide)
 . exact Qc (Qh (Qc (Qc (Qc z3 (by decide)) (by decide)) (by decide))) (by decide)
 . exact Qh (Qc (Qc (Qc (Qc z4 (by decide)) (by decide)) (by decide)) (by decide))
def CoP (w:World)(g:Nat)(a:Option Addr)(cap:Nat)(xs:List Int)(e:Ending)(w':World):Prop:=∃ op v:Int,e=.returned (inV ⟨op,0,0,v,[]⟩ none 0)/\0<=v/\v<=18446744073709551615/\L3.Cur w' g a cap xs/\w.grownBy w' (some g)
theorem f32_c (w:World):Calls Tryz.prog 103 #[] w λe w'=>e=.returned L3.FSn/\Below w.heap.size w w':=by
 go_enter Tryz.func103,Tryz.ntmps103
 go_wp2
 exact bodyPost_ret (v:=L3.FSn) (by simp [results,Tryz.results103,go_sem]) rfl ⟨rfl,(Below.refl _ _).alloc (Nat.le_refl _) _⟩
theorem f64_c (w:World):Calls Tryz.prog 104 #[] w λe w'=>e=.returned L3.FSw/\Below w.heap.size w w':=by
 go_enter Tryz.func104,Tryz.ntmps104
 go_wp2
 exact bodyPost_ret (v:=L3.FSw) (by simp [results,Tryz.results104,go_sem]) rfl ⟨rfl,(Below.refl _ _).alloc (Nat.le_refl _) _⟩
theorem con127_c (G g:Nat)(a:Option Addr)(cap:Nat)(xs:List Int)(w:World)(hl:xs.length<=1099511627776)(hB:L3.Qt xs)(hC:L3.Cur w g a cap xs)(hp:w.cell? ⟨G,0,none⟩=some (.pointer (some ⟨g,0,none⟩)))(ne:G≠g) :
    Calls Tryz.prog 45 #[.pointer (some ⟨G,0,none⟩),.int .i64 127] w (CoP w g a cap xs):=by
 have KD:=Hm (λW (hC:L3.Cur W g a cap xs)=>L3.Xl g a cap xs W hl hB hC);have KO:=Hm (λW (hC:L3.Cur W g a cap xs)=>L3.once_any g a cap xs 2 W hl hB hC (by decide) (by decide));have KB:=Hm (λW (hC:L3.Cur W g a cap xs)=>L3.JX g a cap xs 12 W hl hB hC (by decide) (by decide));have CN:=Hm (Cq.new (t:=26) hC hp ne);clear hC hp hB ne
 go_enter Tryz.func45,Tryz.ntmps45
 go_upto_region 3 with fail
 refine Qj (λU=>Cq w G g a cap xs U) CN.o ?_
 rintro U cU;have CQ:=Hm cU;have p1:=cU.p;clear cU CN
 go_wp2_with fail
 refine (KD.o _ CQ.o.c).mono ?_
 rintro e w1 ⟨x,rfl,hx0,hx1,hc,hg⟩;have CQ:=Hm (CQ.o.step hc hg);have p1:=CQ.o.p;clear hc hg
 go_wp2_with fail
 refine (KO.o _ CQ.o.c).mono ?_
 rintro e w2 ⟨r,rfl,hc,hg⟩;have CQ:=Hm (CQ.o.step hc hg);have p1:=CQ.o.p;clear hc hg
 cases r with
|true =>
  go_wp2_with fail
  refine (KB.o _ CQ.o.c).mono ?_
  rintro e w3 ⟨y,rfl,hy0,hy1,hc,hg⟩;have CQ:=Hm (CQ.o.step hc hg);have wy:IntKind.u64.wrap y=y:=by rw [IntKind.wrap_u64];omega
  clear hc hg;have KL:=Hm (λW=>L3.Xh y W hy0 (by omega))
  go_wp2_with fail
  refine (KL.o _).mono ?_
  rintro e w9 ⟨rfl,rfl⟩;clear KL;obtain ⟨⟨z0,z1,z2,z3,z4⟩,zf⟩:=CQ.o.z
  simp only [Nat.zero_add] at z0 z1 z2 z3 z4
  have zf0:=zf 0;have zf1:=zf 1;have zf2:=zf 2;have zf3:=zf 3;have zf4:=zf 4;clear zf
  go_wp2
  refine Qf (λV=>C5 V w.heap.size 0 (.int .i64 65) (.int .i64 0) (.int .i64 0) (.int .u64 (y%4294967296)) (.slice none 0 0)/\L3.Cur V g a cap xs/\w.grownBy V (some g)) (CQ.o.fin _ _ _ _ _) ?_
  rintro V ⟨⟨⟨t0,t1,t2,t3,t4⟩,-⟩,cV,gV⟩
  simp only [Nat.zero_add] at t0 t1 t2 t3 t4
  have HU:=Hm (And.intro cV gV);clear cV gV
  exact bodyPost_ret (v:=inV ⟨65,0,0,y%4294967296,[]⟩ none 0) (by simp [results,Tryz.results45,go_sem,t0,t1,t2,t3,t4]) rfl ⟨65,y%4294967296,rfl,(by omega),(by omega),HU.o.1,HU.o.2⟩
|false =>
  have KL:=Hm (λW=>L3.Xh x W hx0 hx1)
  go_wp2_with fail
  refine (KL.o _).mono ?_
  rintro e w9 ⟨rfl,rfl⟩;clear KL;obtain ⟨⟨z0,z1,z2,z3,z4⟩,zf⟩:=CQ.o.z
  simp only [Nat.zero_add] at z0 z1 z2 z3 z4
  have zf0:=zf 0;have zf1:=zf 1;have zf2:=zf 2;have zf3:=zf 3;have zf4:=zf 4;clear zf
  go_wp2
  refine Qf (λV=>C5 V w.heap.size 0 (.int .i64 65) (.int .i64 0) (.int .i64 0) (.int .u64 (x%4294967296)) (.slice none 0 0)/\L3.Cur V g a cap xs/\w.grownBy V (some g)) (CQ.o.fin _ _ _ _ _) ?_
  rintro V ⟨⟨⟨t0,t1,t2,t3,t4⟩,-⟩,cV,gV⟩
  simp only [Nat.zero_add] at t0 t1 t2 t3 t4
  have HU:=Hm (And.intro cV gV);clear cV gV
  exact bodyPost_ret (v:=inV ⟨65,0,0,x%4294967296,[]⟩ none 0) (by simp [results,Tryz.results45,go_sem,t0,t1,t2,t3,t4]) rfl ⟨65,x%4294967296,rfl,(by omega),(by omega),HU.o.1,HU.o.2⟩
theorem con126_c (G g:Nat)(a:Option Addr)(cap:Nat)(xs:List Int)(w:World)(hl:xs.length<=1099511627776)(hB:L3.Qt xs)(hC:L3.Cur w g a cap xs)(hp:w.cell? ⟨G,0,none⟩=some (.pointer (some ⟨g,0,none⟩)))(ne:G≠g) :
    Calls Tryz.prog 45 #[.pointer (some ⟨G,0,none⟩),.int .i64 126] w (CoP w g a cap xs):=by
 have KD:=Hm (λW (hC:L3.Cur W g a cap xs)=>L3.Xl g a cap xs W hl hB hC);have CN:=Hm (Cq.new (t:=26) hC hp ne);clear hC hp hB ne
 go_enter Tryz.func45,Tryz.ntmps45
 go_upto_region 8 with fail
 refine Qj (λU=>Cq w G g a cap xs U) CN.o ?_
 rintro U cU;have CQ:=Hm cU;have p1:=cU.p;clear cU CN
 go_wp2_with fail
 refine (KD.o _ CQ.o.c).mono ?_
 rintro e w1 ⟨x,rfl,hx0,hx1,hc,hg⟩;have CQ:=Hm (CQ.o.step hc hg);clear hc hg;obtain ⟨⟨z0,z1,z2,z3,z4⟩,zf⟩:=CQ.o.z
 simp only [Nat.zero_add] at z0 z1 z2 z3 z4
 have zf0:=zf 0;have zf1:=zf 1;have zf2:=zf 2;have zf3:=zf 3;have zf4:=zf 4;clear zf
 go_wp2
 refine Qf (λV=>C5 V w.heap.size 0 (.int .i64 66) (.int .i64 0) (.int .i64 0) (.int .u64 (x)) (.slice none 0 0)/\L3.Cur V g a cap xs/\w.grownBy V (some g)) (CQ.o.fin _ _ _ _ _) ?_
 rintro V ⟨⟨⟨t0,t1,t2,t3,t4⟩,-⟩,cV,gV⟩
 simp only [Nat.zero_add] at t0 t1 t2 t3 t4
 have HU:=Hm (And.intro cV gV);clear cV gV
 exact bodyPost_ret (v:=inV ⟨66,0,0,x,[]⟩ none 0) (by simp [results,Tryz.results45,go_sem,t0,t1,t2,t3,t4]) rfl ⟨66,x,rfl,hx0,hx1,HU.o.1,HU.o.2⟩
end Go.Proofs.YtipfjdogokanbaaGreatDoor.An
set_option linter.all false
namespace Go.Proofs.YtipfjdogokanbaaGreatDoor.An
open Go.RowKit Go.Sort
theorem Cq.drew {w V:World}{G g:Nat}{a:Option Addr}{cap:Nat}{xs:List Int}(h:Cq w G g a cap xs V):Cq w G g a cap xs V.drew :=
 ⟨⟨h.z.1,h.z.2⟩,L3.Cur.of_heap h.c rfl,⟨h.gr.os,h.gr.tape,h.gr.output,h.gr.size,h.gr.block⟩,h.p,h.hg,h.hG,h.ne⟩
theorem con125_c (G g:Nat)(a:Option Addr)(cap:Nat)(xs:List Int)(w:World)(hl:xs.length<=1099511627776)(hB:L3.Qt xs)(hC:L3.Cur w g a cap xs)(hp:w.cell? ⟨G,0,none⟩=some (.pointer (some ⟨g,0,none⟩)))(ne:G≠g) :
    Calls Tryz.prog 45 #[.pointer (some ⟨G,0,none⟩),.int .i64 125] w (CoP w g a cap xs):=by
 have KN:=Hm (λW (hC:L3.Cur W g a cap xs)=>L3.draw3_n g a cap xs W hl hB hC);have CN:=Hm (Cq.new (t:=26) hC hp ne);clear hC hp hB ne
 go_enter Tryz.func45,Tryz.ntmps45
 go_upto_region 11 with fail
 refine Qj (λU=>Cq w G g a cap xs U) CN.o ?_
 rintro U cU;have CQ:=Hm cU;have p1:=cU.p;clear cU CN
 go_cut [7] from 42 to 47 (λv wc=>∃ x:Int,v=.int .u64 x/\0<=x/\x<=18446744073709551615/\Cq w G g a cap xs wc)
 case first =>
  go_region_held3 (fun w'=>w'.cell? ⟨G,0,none⟩=some (.pointer (some ⟨g,0,none⟩))) (first | exact p1 | exact p2 | exact p3) (first
  |(go_at_call 103;refine (f32_c _).mono ?_;rintro e w1 ⟨rfl,hb⟩;have CQn:Hid (Cq w G g a cap xs w1):=(by first|exact CQ.o.drew.below hb|exact CQ.o.below hb);have p2:=CQn.o.p)
   | (go_at_call 102;refine (KN.o _ ?hcur).mono ?_;(case hcur=>first | exact CQn.o.c | exact CQn.o.drew.c);rintro e w3 ⟨x,rfl,hx0,hx1,hc,hg⟩;have CQm:Hid (Cq w G g a cap xs w3):=(by first | exact CQn.o.step hc hg | exact CQn.o.drew.step hc hg);have p3:=CQm.o.p))
  all_goals
   go_wp2_with fail
   go_meet
   case rel=>exact ⟨_,rfl,hx0,hx1,by first|exact CQm.o|exact CQm.o.drew⟩
 case rest =>
  obtain ⟨x,rfl,hx0,hx1,hDD⟩:=hcut;clear p1 CQ;have CQ:=Hm hDD;clear hDD;have KL:=Hm (λW=>L3.Xh x W hx0 hx1)
  go_wp2_with fail
  refine (KL.o _).mono ?_
  rintro e w9 ⟨rfl,rfl⟩;clear KL;obtain ⟨⟨z0,z1,z2,z3,z4⟩,zf⟩:=CQ.o.z
  simp only [Nat.zero_add] at z0 z1 z2 z3 z4
  have zf0:=zf 0;have zf1:=zf 1;have zf2:=zf 2;have zf3:=zf 3;have zf4:=zf 4;clear zf
  go_wp2
  refine Qf (λV=>C5 V w.heap.size 0 (.int .i64 67) (.int .i64 0) (.int .i64 0) (.int .u64 (x%4294967296)) (.slice none 0 0)/\L3.Cur V g a cap xs/\w.grownBy V (some g)) (CQ.o.fin _ _ _ _ _) ?_
  rintro V ⟨⟨⟨t0,t1,t2,t3,t4⟩,-⟩,cV,gV⟩
  simp only [Nat.zero_add] at t0 t1 t2 t3 t4
  have HU:=Hm (And.intro cV gV);clear cV gV
  exact bodyPost_ret (v:=inV ⟨67,0,0,x%4294967296,[]⟩ none 0) (by simp [results,Tryz.results45,go_sem,t0,t1,t2,t3,t4]) rfl ⟨67,x%4294967296,rfl,(by omega),(by omega),HU.o.1,HU.o.2⟩
theorem con124_c (G g:Nat)(a:Option Addr)(cap:Nat)(xs:List Int)(w:World)(hl:xs.length<=1099511627776)(hB:L3.Qt xs)(hC:L3.Cur w g a cap xs)(hp:w.cell? ⟨G,0,none⟩=some (.pointer (some ⟨g,0,none⟩)))(ne:G≠g) :
    Calls Tryz.prog 45 #[.pointer (some ⟨G,0,none⟩),.int .i64 124] w (CoP w g a cap xs):=by
 have KW:=Hm (λW (hC:L3.Cur W g a cap xs)=>L3.draw3_w g a cap xs W hl hB hC);have CN:=Hm (Cq.new (t:=26) hC hp ne);clear hC hp hB ne
 go_enter Tryz.func45,Tryz.ntmps45
 go_upto_region 13 with fail
 refine Qj (λU=>Cq w G g a cap xs U) CN.o ?_
 rintro U cU;have CQ:=Hm cU;have p1:=cU.p;clear cU CN
 go_cut [8] from 51 to 56 (λv wc=>∃ x:Int,v=.int .u64 x/\0<=x/\x<=18446744073709551615/\Cq w G g a cap xs wc)
 case first =>
  go_region_held3 (fun w'=>w'.cell? ⟨G,0,none⟩=some (.pointer (some ⟨g,0,none⟩))) (first | exact p1 | exact p2 | exact p3) (first
  |(go_at_call 104;refine (f64_c _).mono ?_;rintro e w1 ⟨rfl,hb⟩;have CQn:Hid (Cq w G g a cap xs w1):=(by first|exact CQ.o.drew.below hb|exact CQ.o.below hb);have p2:=CQn.o.p)
   | (go_at_call 102;refine (KW.o _ ?hcur).mono ?_;(case hcur=>first | exact CQn.o.c | exact CQn.o.drew.c);rintro e w3 ⟨x,rfl,hx0,hx1,hc,hg⟩;have CQm:Hid (Cq w G g a cap xs w3):=(by first | exact CQn.o.step hc hg | exact CQn.o.drew.step hc hg);have p3:=CQm.o.p))
  all_goals
   go_wp2_with fail
   go_meet
   case rel=>exact ⟨_,rfl,hx0,hx1,by first|exact CQm.o|exact CQm.o.drew⟩
 case rest =>
  obtain ⟨x,rfl,hx0,hx1,hDD⟩:=hcut;clear p1 CQ;have CQ:=Hm hDD;clear hDD;obtain ⟨⟨z0,z1,z2,z3,z4⟩,zf⟩:=CQ.o.z
  simp only [Nat.zero_add] at z0 z1 z2 z3 z4
  have zf0:=zf 0;have zf1:=zf 1;have zf2:=zf 2;have zf3:=zf 3;have zf4:=zf 4;clear zf
  go_wp2
  refine Qf (λV=>C5 V w.heap.size 0 (.int .i64 68) (.int .i64 0) (.int .i64 0) (.int .u64 (x)) (.slice none 0 0)/\L3.Cur V g a cap xs/\w.grownBy V (some g)) (CQ.o.fin _ _ _ _ _) ?_
  rintro V ⟨⟨⟨t0,t1,t2,t3,t4⟩,-⟩,cV,gV⟩
  simp only [Nat.zero_add] at t0 t1 t2 t3 t4
  have HU:=Hm (And.intro cV gV);clear cV gV
  exact bodyPost_ret (v:=inV ⟨68,0,0,x,[]⟩ none 0) (by simp [results,Tryz.results45,go_sem,t0,t1,t2,t3,t4]) rfl ⟨68,x,rfl,(by omega),(by omega),HU.o.1,HU.o.2⟩
theorem const_c (t:Int)(ht:t=127\/t=126\/t=125\/t=124)(G g:Nat)(a:Option Addr)(cap:Nat)(xs:List Int)(w:World)(hl:xs.length<=1099511627776)(hB:L3.Qt xs)(hC:L3.Cur w g a cap xs)(hp:w.cell? ⟨G,0,none⟩=some (.pointer (some ⟨g,0,none⟩)))(ne:G≠g) :
    Calls Tryz.prog 45 #[.pointer (some ⟨G,0,none⟩),.int .i64 t] w (CoP w g a cap xs):=by
 rcases ht with rfl|rfl|rfl|rfl
 . exact con127_c G g a cap xs w hl hB hC hp ne
 . exact con126_c G g a cap xs w hl hB hC hp ne
 . exact con125_c G g a cap xs w hl hB hC hp ne
 . exact con124_c G g a cap xs w hl hB hC hp ne
end Go.Proofs.YtipfjdogokanbaaGreatDoor.An
set_option linter.all false
namespace Go.Proofs.YtipfjdogokanbaaGreatDoor.An
open Go.RowKit Go.Sort
theorem own_past {w w':World}{B e n:Nat}{v:Value}{r:Option Nat}{xs:List Value}(h:w.ownsRow B e 1 v n xs)(hg:w.grownBy w' r)(hne:∀ k,v.ownBlock=some k->r≠some k):w'.ownsRow B e 1 v n xs:=by
 refine ⟨h.1,?_⟩
 rcases h.2 with h0|⟨g,cap,cur,hv,hB,hh,rr⟩
 . exact .inl h0
 . subst hv
   exact .inr ⟨g,cap,cur,rfl,hB,(hg.block g (h.lt g rfl).2 (λe=>hne g rfl e.symm)).trans hh,rr⟩
theorem slice_of {w:World}{B e:Nat}{v:Value}{n:Nat}{zs:List Value}(h:w.ownsRow B e 1 v n zs):∃ a c,v=.slice a n c:=by
 rcases h.2 with ⟨e,h0⟩|⟨g,cap,cur,hv,_⟩
 . rw [h0];exact ⟨_,_,e⟩
 . exact ⟨_,_,hv⟩
theorem gr_below {w V V':World}{g:Nat}(h:w.grownBy V (some g))(hb:Below w.heap.size V V')(hs:V.heap.size<=V'.heap.size):w.grownBy V' (some g) :=
 ⟨hb.os.trans h.os,hb.tape.trans h.tape,hb.output.trans h.output,Nat.le_trans h.size hs,λk hk hne=>(hb.block k hk).trans (h.block k hk hne)⟩
theorem infoB:(Tryz.prog.info? 5).map (λi=>(i.zero,i.size,i.bytes))=some (some (.int .u8 0),1,1):=by kernel_rfl
def SoP (n:Int)(w:World)(g:Nat)(a:Option Addr)(cap:Nat)(xs:List Int)(e:Ending)(w':World):Prop:=∃ (v:Value) (ys:List Int),e=.returned v/\(ys.length:Int)=n/\L3.Qt ys/\w'.ownsRow w.heap.size 5 1 v ys.length (U ys)/\L3.Cur w' g a cap xs/\w.grownBy w' (some g)
theorem allB_snoc {ys:List Int}{x:Int}(h:L3.Qt ys)(h0:0<=x)(h1:x<=255):L3.Qt (ys++[x]):=by
 intro i
 rcases Nat.lt_trichotomy i ys.length with c|c|c
 . have:=h i
   simp only [List.getD,List.getElem?_append_left c] at this⊢
   exact this
 . subst c
   simp [List.getD];omega
 . rw [List.getD_eq_getElem?_getD,List.getElem?_eq_none (by simp;omega)];simp
theorem some_c (n:Int)(g:Nat)(a:Option Addr)(cap:Nat)(xs:List Int)(w:World)(hl:xs.length<=1099511627776)(hB:L3.Qt xs)(hC:L3.Cur w g a cap xs)(hn0:0<=n)(hn1:n<=255) :
    Calls Tryz.prog 34 #[.pointer (some ⟨g,0,none⟩),.int .i64 n] w (SoP n w g a cap xs):=by
 obtain ⟨i0,hi,hz0,hz1,hz2⟩:=info_parts infoB;have KY:=Hm (λW (hC:L3.Cur W g a cap xs)=>L3.byte_any g a cap xs W hl hB hC);have hgw:=L3.Cur.lt hC;have hbA:Below w.heap.size w (w.alloc (.cells #[] 5)):=(Below.refl _ _).alloc (Nat.le_refl _) _;have C0:=Hm (And.intro (hC.below hbA hgw) (show w.grownBy (w.alloc (.cells #[] 5)) (some g) from ⟨hbA.os,hbA.tape,hbA.output,hbA.size,λk hk _=>hbA.block k hk⟩));clear hB hC hbA
 go_enter Tryz.func34,Tryz.ntmps34
 go_wp2
 go_loopw [5,6] (λv iv wr=>∃ (ys:List Int),iv=.int .i64 (ys.length:Int)/\(ys.length:Int)<=n/\L3.Qt ys/\wr.ownsRow w.heap.size 5 1 v ys.length (U ys)/\L3.Cur wr g a cap xs/\w.grownBy wr (some g)) (λ_ iv _=>n.toNat-(intOf iv).toNat)
 case atStart=>exact ⟨[],rfl,by simpa using hn0,λi=>by simp,⟨by simp,.inr ⟨w.heap.size,0,#[],rfl,Nat.le_refl _,Array.getElem?_push_size,Nat.le_refl _,Nat.zero_le _,rfl,rfl⟩⟩,C0.o.1,C0.o.2⟩
 case round =>
  obtain ⟨ys,rfl,hk,hA,ho,hc,hg⟩:=hrel;have HC:=Hm hc;have HG:=Hm hg;have HA:=Hm hA;have HO:=Hm ho;have hsz:=hg.size;obtain ⟨va,vc,rfl⟩:=slice_of ho;clear hc hg hA ho C0
  by_cases hlt:(ys.length:Int)<n
  . go_wp2_with fail
    refine (KY.o _ HC.o).mono ?_
    rintro e w1 ⟨x,rfl,hx0,hx1,hc,hg⟩;have ho:=own_past HO.o hg (λj hj e=>by have:=(HO.o.lt j hj).1;simp at e;omega);have HC:=Hm hc;have HG:=Hm (L3.Qa HG.o hg);have hs1:=hg.size;have wx:IntKind.u8.wrap x=x:=by rw [IntKind.wrap_u8];omega
    have wk:IntKind.i64.wrap ((ys.length:Int)+1)=(ys.length:Int)+1:=by rw [IntKind.wrap_i64];omega
    clear hc hg HO
    go_wp2_with (at_builtin;refine wpList_append_own_at _ rfl _ _ 22 rfl w.heap.size 5 i0 (.int .u8 0) 1 1 Tryz.underlying22 hi hz0 hz1 hz2 rfl (by decide) _ _ _ rfl (ho.alloc _) ⟨w1.heap.size,0,none⟩ 1 1 [.int .u8 x] rfl rfl (cell_one_new _ _ _) (by intro u hu;simp at hu;subst hu;rfl) (by unfold maxLen;omega) (by omega) (by simp;omega) ?_;intro v' w2 hown' hgrow hnn hloc;have HO2:=Hm (And.intro hown' hgrow);obtain ⟨va2,vc2,rfl⟩:=slice_of hown';clear hown' hgrow hnn hloc)
    have hbW:RowKit.Below w.heap.size w1 w2:=((Below.refl w.heap.size w1).alloc (by omega) _).grown HO2.o.2 (by simp;omega) (λj hj=>(ho.lt j hj).1)
    refine ⟨⟨ys++[x],(by simp),by simp;omega,allB_snoc HA.o hx0 hx1,?_,HC.o.below hbW hgw,gr_below HG.o hbW hbW.size⟩,by simp [intOf];omega⟩
    have h4:=HO2.o.1;rw [List.length_append]
    simpa [U] using h4
  . go_wp2
    go_ret
    exact ⟨_,ys,rfl,by omega,HA.o,HO.o,HC.o,HG.o⟩
end Go.Proofs.YtipfjdogokanbaaGreatDoor.An
set_option linter.all false
namespace Go.Proofs.YtipfjdogokanbaaGreatDoor.An
open Go.RowKit Go.Sort
structure Bz (w V:World):Prop where
 z:C5 V w.heap.size 0 (.int .i64 0) (.int .i64 0) (.int .i64 0) (.int .u64 0) (.slice none 0 0)
 b:RowKit.Below w.heap.size w V
theorem Bz.new {w:World}{t:TypeId}:Bz w (w.alloc (.cells #[.int .i64 0,.int .i64 0,.int .i64 0,.int .u64 0,.slice none 0 0] t)):=⟨C5.new,(Below.refl _ _).alloc (Nat.le_refl _) _⟩
theorem Bz.fin {w V:World}(h:Bz w V)(u0 u1 u2 u3 u4:Value):C5 (((((V.setCell ⟨w.heap.size,0,none⟩ u0).setCell ⟨w.heap.size,1,none⟩ u1).setCell ⟨w.heap.size,2,none⟩ u2).setCell ⟨w.heap.size,3,none⟩ u3).setCell ⟨w.heap.size,4,none⟩ u4) w.heap.size 0 u0 u1 u2 u3 u4/\RowKit.Below w.heap.size w (((((V.setCell ⟨w.heap.size,0,none⟩ u0).setCell ⟨w.heap.size,1,none⟩ u1).setCell ⟨w.heap.size,2,none⟩ u2).setCell ⟨w.heap.size,3,none⟩ u3).setCell ⟨w.heap.size,4,none⟩ u4):=by
 obtain ⟨⟨z0,z1,z2,z3,z4⟩,zf⟩:=h.z
 simp only [Nat.zero_add] at z0 z1 z2 z3 z4
 refine ⟨⟨⟨?_,?_,?_,?_,?_⟩,λi=>by simp only [World.frozen?_setCell];exact zf i⟩,((((h.b.setCell (Nat.le_refl _) u0).setCell (Nat.le_refl _) u1).setCell (Nat.le_refl _) u2).setCell (Nat.le_refl _) u3).setCell (Nat.le_refl _) u4⟩
 . exact Qc (Qc (Qc (Qc (Qh z0) (by decide)) (by decide)) (by decide)) (by decide)
 . exact Qc (Qc (Qc (Qh (Qc z1 (by decide))) (by decide)) (by decide)) (by decide)
 . exact Qc (Qc (Qh (Qc (Qc z2 (by decide)) (by decide))) (by decide)) (by decide)
 . exact Qc (Qh (Qc (Qc (Qc z3 (by decide)) (by decide)) (by decide))) (by decide)
 . exact Qh (Qc (Qc (Qc (Qc z4 (by decide)) (by decide)) (by decide)) (by decide))
theorem l4Op_c (op:Int)(w:World):Calls Tryz.prog 48 #[.int .i64 op] w λe w'=>e=.returned (inV ⟨op,0,0,0,[]⟩ none 0)/\RowKit.Below w.heap.size w w':=by
 go_enter Tryz.func48,Tryz.ntmps48
 go_upto_region 1 with fail
 refine Qj (λU=>Bz w U) Bz.new ?_
 rintro U cU;have CQ:=Hm cU;clear cU;obtain ⟨⟨z0,z1,z2,z3,z4⟩,zf⟩:=CQ.o.z
 simp only [Nat.zero_add] at z0 z1 z2 z3 z4
 have zf0:=zf 0;have zf1:=zf 1;have zf2:=zf 2;have zf3:=zf 3;have zf4:=zf 4;clear zf
 go_wp2
 refine Qf (λV=>C5 V w.heap.size 0 (.int .i64 op) (.int .i64 0) (.int .i64 0) (.int .u64 0) (.slice none 0 0)/\RowKit.Below w.heap.size w V) (CQ.o.fin _ _ _ _ _) ?_
 rintro V ⟨⟨⟨t0,t1,t2,t3,t4⟩,-⟩,bV⟩
 simp only [Nat.zero_add] at t0 t1 t2 t3 t4
 have HU:=Hm bV;clear bV
 exact bodyPost_ret (v:=inV ⟨op,0,0,0,[]⟩ none 0) (by simp [results,Tryz.results48,go_sem,t0,t1,t2,t3,t4]) rfl ⟨rfl,HU.o⟩
theorem l4A_c (op x:Int)(w:World):Calls Tryz.prog 106 #[.int .i64 op,.int .i64 x] w λe w'=>e=.returned (inV ⟨op,x,0,0,[]⟩ none 0)/\RowKit.Below w.heap.size w w':=by
 go_enter Tryz.func106,Tryz.ntmps106
 go_upto_region 1 with fail
 refine Qj (λU=>Bz w U) Bz.new ?_
 rintro U cU;have CQ:=Hm cU;clear cU;obtain ⟨⟨z0,z1,z2,z3,z4⟩,zf⟩:=CQ.o.z
 simp only [Nat.zero_add] at z0 z1 z2 z3 z4
 have zf0:=zf 0;have zf1:=zf 1;have zf2:=zf 2;have zf3:=zf 3;have zf4:=zf 4;clear zf
 go_wp2
 refine Qf (λV=>C5 V w.heap.size 0 (.int .i64 op) (.int .i64 x) (.int .i64 0) (.int .u64 0) (.slice none 0 0)/\RowKit.Below w.heap.size w V) (CQ.o.fin _ _ _ _ _) ?_
 rintro V ⟨⟨⟨t0,t1,t2,t3,t4⟩,-⟩,bV⟩
 simp only [Nat.zero_add] at t0 t1 t2 t3 t4
 have HU:=Hm bV;clear bV
 exact bodyPost_ret (v:=inV ⟨op,x,0,0,[]⟩ none 0) (by simp [results,Tryz.results106,go_sem,t0,t1,t2,t3,t4]) rfl ⟨rfl,HU.o⟩
end Go.Proofs.YtipfjdogokanbaaGreatDoor.An
set_option linter.all false
namespace Go.Proofs.YtipfjdogokanbaaGreatDoor.An
open Go.RowKit Go.Sort
def Bk (W:World)(g:Nat)(cs:List Value):Prop:=g<W.heap.size/\(∀ j v,cs[j]?=some v->W.cell? ⟨g,j,none⟩=some v)/\∀ j,W.frozen? ⟨g,j,none⟩=false
theorem Bk.keep {W W':World}{g:Nat}{cs:List Value}(h:Bk W g cs)(hb:Below W.heap.size W W'):Bk W' g cs :=
 ⟨Nat.lt_of_lt_of_le h.1 hb.size,λj v hv=>(hb.cell (p:=⟨g,j,none⟩) h.1).trans (h.2.1 j v hv),λj=>(hb.frozen (p:=⟨g,j,none⟩) h.1).trans (h.2.2 j)⟩
theorem Bk.new {w:World}{cs:List Value}{t:TypeId}:Bk (w.alloc (.cells cs.toArray t)) w.heap.size cs :=
 ⟨by simp,λj v hv=>Qi rfl (by simpa using hv),λj=>World.frozen?_alloc_new _ _ _ _⟩
theorem Bk.past {w:World}{g:Nat}{cs:List Value}{o:Obj}(h:Bk w g cs):Bk (w.alloc o) g cs:=h.keep ((Below.refl _ _).alloc (Nat.le_refl _) _)
theorem Bk.of {W W':World}{g:Nat}{cs:List Value}(h:Bk W g cs)(hs:W.heap.size<=W'.heap.size)(hb:W'.heap[g]?=W.heap[g]?):Bk W' g cs :=
 ⟨Nat.lt_of_lt_of_le h.1 hs,λj v hv=>(World.cell?_of_block (a:=⟨g,j,none⟩) hb).trans (h.2.1 j v hv),λj=>(World.frozen?_of_block (a:=⟨g,j,none⟩) hb).trans (h.2.2 j)⟩
theorem Bk.grown {W W':World}{g:Nat}{cs:List Value}{o:Option Nat}(h:Bk W g cs)(k:W.grownBy W' o)(hn:o≠some g):Bk W' g cs:=h.of k.size (k.block g h.1 (λe=>hn e.symm))
theorem Bk.set {W:World}{g j:Nat}{v:Value}{cs:List Value}(h:Bk W g cs):Bk (W.setCell ⟨g,j,none⟩ v) g (cs.set j v):=by
 refine ⟨by simpa using h.1,λi u hu=>?_,λi=>by rw [World.frozen?_setCell];exact h.2.2 i⟩
 by_cases hij:i=j
 . subst hij;rw [List.getElem?_set] at hu
   simp only [if_true] at hu
   split at hu
   . rename_i hl
     have:=h.2.1 i cs[i] (by simp [hl])
     injection hu with hu
     rw [<- hu]
     exact Qh this
   . cases hu
 . rw [List.getElem?_set_ne (λe=>hij e.symm)] at hu
   exact Qc (h.2.1 i u hu) (λe=>hij e.symm)
def LV (w:World)(S:Nat->Prop)(v:Value)(l:List Int):Prop:=(v=.slice none 0 0/\l=[])\/∃ b o c,v=.slice (some ⟨b,o,none⟩) l.length c/\¬ S b/\b<w.heap.size/\∀ i,i<l.length->w.cell? ⟨b,o+i,none⟩=some (.int .i64 (l.getD i 0))
theorem LV.keep {w w':World}{S S':Nat->Prop}{v:Value}{l:List Int}(h:LV w S v l)(hs:w.heap.size<=w'.heap.size)(hk:∀ b,¬ S b->b<w.heap.size->w'.heap[b]?=w.heap[b]?/\¬ S' b):LV w' S' v l:=by
 rcases h with h|⟨b,o,c,e,h1,h2,h3⟩
 . exact .inl h
 . exact .inr ⟨b,o,c,e,(hk b h1 h2).2,by omega,λi hi=>(World.cell?_of_block (a:=⟨b,o+i,none⟩) (hk b h1 h2).1).trans (h3 i hi)⟩
theorem LV.slice {w:World}{S:Nat->Prop}{v:Value}{l:List Int}(h:LV w S v l):∃ la lc,v=.slice la l.length lc/\Has w la l:=by
 rcases h with ⟨rfl,rfl⟩|⟨b,o,c,e,h1,h2,h3⟩
 . exact ⟨none,0,rfl,.inl rfl⟩
 . exact ⟨_,_,e,.inr ⟨b,o,rfl,h3⟩⟩
theorem own_lv {w:World}{S:Nat->Prop}{B:Nat}{v:Value}{l:List Int}(h:w.ownsRow B 2 1 v l.length (I l))(hn:∀ q,v.ownBlock=some q->¬ S q):LV w S v l:=by
 rcases h.2 with ⟨h0,h1⟩|⟨g,cap,cur,hv,hB,hh,_⟩
 . exact .inl ⟨h0,List.eq_nil_of_length_eq_zero h1⟩
 . subst hv
   refine .inr ⟨g,0,cap,rfl,hn g rfl,(h.lt g rfl).2,λi hi=>?_⟩
   rw [Nat.zero_add,h.cellAt i (by omega)]
   simp [I,List.getD,hi]
def cI (x:In)(v:Value):List Value:=[.int .i64 x.op,.int .i64 x.a,.int .i64 x.b,.int .u64 x.v,v]
def ceI (p:In × Value):List Value:=cI p.1 p.2
def zI:In × Value:=(⟨0,0,0,0,[]⟩,.slice none 0 0)
theorem infoI:(Tryz.prog.info? 26).map (λi=>(i.zero,i.size,i.bytes))=some (some (.agg #[.int .i64 0,.int .i64 0,.int .i64 0,.int .u64 0,.slice none 0 0]),5,56):=by kernel_rfl
theorem lit1 (w:World)(cs:List Value)(t:TypeId):∀ j u,cs[j]?=some u->(w.alloc (.cells cs.toArray t)).cell? ((⟨w.heap.size,0,none⟩:Addr).add j)=some u:=by
 intro j u hu
 rw [show (⟨w.heap.size,0,none⟩:Addr).add j=⟨w.heap.size,j,none⟩ by unfold Addr.add;split<;>simp_all]
 exact Qi rfl (by simpa using hu)
theorem lst_cells {w w':World}{b o:Nat}{l:List Int}(h:∀ i,i<l.length->w.cell? ⟨b,o+i,none⟩=some (.int .i64 (l.getD i 0)))(hb:w'.heap[b]?=w.heap[b]?):∀ j u,(I l)[j]?=some u->w'.cell? ((⟨b,o,none⟩:Addr).add j)=some u:=by
 intro j u hu
 rw [show (⟨b,o,none⟩:Addr).add j=⟨b,o+j,none⟩ by unfold Addr.add;split<;>simp_all]
 have hj:j<l.length:=by
  have:=List.getElem?_eq_some_iff.1 hu
  obtain ⟨h1,_⟩:=this
  simpa [I] using h1
 rw [World.cell?_of_block (a:=⟨b,o+j,none⟩) hb,h j hj,<- hu]
 simp [I,List.getD,hj]
theorem take_snoc {α:Type}(z:α)(l:List α)(k:Nat)(h:k<l.length):l.take (k+1)=l.take k++[l.getD k z]:=by
 rw [List.take_succ_eq_append_getElem h];simp [List.getD,h]
theorem Ql {w:World}{B e sz:Nat}{v:Value}{n:Nat}{L:List Value}(h:w.ownsRow B e sz v n L):∃ a c,v=.slice a n c:=by
 rcases h.2 with ⟨e,h0⟩|⟨g,cap,cur,hv,_⟩
 . rw [h0];exact ⟨_,_,e⟩
 . exact ⟨_,_,hv⟩
theorem Js {w w':World}{B e sz:Nat}{v:Value}{n:Nat}{L:List Value}(h:w.ownsRow B e sz v n L)(hb:∀ k,v.ownBlock=some k->w'.heap[k]?=w.heap[k]?):w'.ownsRow B e sz v n L:=by
 refine ⟨h.1,?_⟩
 rcases h.2 with h0|⟨g,cap,cur,hv,hB,hh,r⟩
 . exact .inl h0
 . subst hv
   exact .inr ⟨g,cap,cur,rfl,hB,(hb g rfl).trans hh,r⟩
def L9I (w:World)(ps:List (In × Value))(qs:List (In × Value))(v:Value)(W:World):Prop:=qs.length<=ps.length/\qs.map (·.1)=(ps.take qs.length).map (·.1)/\W.ownsRow w.heap.size 26 5 v qs.length (qs.flatMap ceI)/\(∀ q ∈ qs,LV W (λk=>v.ownBlock=some k\/k<w.heap.size) q.2 q.1.l)/\Below w.heap.size w W
theorem l9_next {w wr V2 w3:World}{ps qs:List (In × Value)}{v v3 lv:Value}{x:In}{o:Obj}(h:L9I w ps qs v wr)(hk:qs.length<ps.length)(hx:x=(ps.getD qs.length zI).1)(hb:Below wr.heap.size wr V2)(hl:LV V2 (λk=>k<wr.heap.size) lv x.l)(hg:(V2.alloc o).grownBy w3 v.ownBlock)(hat:v3.ownBlock=v.ownBlock\/v3.ownBlock=some (V2.alloc o).heap.size)(ho:w3.ownsRow w.heap.size 26 5 v3 (qs.length+1) (qs.flatMap ceI++cI x lv)):L9I w ps (qs++[(x,lv)]) v3 w3:=by
 obtain ⟨h1,h2,h3,h4,h5⟩:=h;have hlen:(qs++[(x,lv)]).length=qs.length+1:=by simp
 have hv:∀ q,v.ownBlock=some q->w.heap.size<=q/\q<wr.heap.size:=λq hq=>h3.lt q hq;have s1:=hb.size;have s2:(V2.alloc o).heap.size=V2.heap.size+1:=by simp
 have s3:=hg.size;have hold:∀ k,k<V2.heap.size->v.ownBlock≠some k->w3.heap[k]?=V2.heap[k]?:=λk hk hn=>(hg.block k (by omega) (λe=>hn e.symm)).trans (QC _ _ _ hk)
 refine ⟨by omega,?_,by rw [hlen];simpa [ceI] using ho,λq hq=>?_,?_⟩
 . rw [hlen,take_snoc zI ps _ hk,List.map_append,List.map_append,h2,hx];rfl
 . rcases List.mem_append.1 hq with hq|hq
   . refine (h4 q hq).keep (by omega) (λb hb1 hb2=>⟨(hold b (by omega) (λe=>hb1 (.inl e))).trans (hb.block b hb2),λe=>?_⟩)
     rcases e with e|e
     . rcases hat with e2|e2
       . exact hb1 (.inl (e2 ▸ e))
       . rw [e2] at e;injection e with e;omega
     . exact hb1 (.inr e)
   . have e:q=(x,lv):=by simpa using hq
     subst e;have s4:=h5.size
     refine hl.keep (by omega) (λb hb1 hb2=>⟨hold b hb2 (λe=>by have:=(hv b e).2;omega),λe=>?_⟩)
     rcases e with e|e
     . rcases hat with e2|e2
       . have:=(hv b (e2 ▸ e)).2;omega
       . rw [e2] at e;injection e with e;omega
     . omega
 . have s4:=h5.size
   refine ⟨hg.os.trans (hb.os.trans h5.os),hg.tape.trans (hb.tape.trans h5.tape),hg.output.trans (hb.output.trans h5.output),by omega,λk hk=>?_⟩
   exact (hold k (by omega) (λe=>by have:=(hv k e).1;omega)).trans ((hb.block k (by omega)).trans (h5.block k hk))
theorem l9_c (b c n:Nat)(ps:List (In × Value))(w:World)(hn:n=ps.length)(hc:∀ i,i<ps.length->C5 w b (i*5) (.int .i64 (ps.getD i zI).1.op) (.int .i64 (ps.getD i zI).1.a) (.int .i64 (ps.getD i zI).1.b) (.int .u64 (ps.getD i zI).1.v) (ps.getD i zI).2)(hL:∀ p ∈ ps,LV w (λ_=>False) p.2 p.1.l)(hm:n<=1000)(hl:∀ p ∈ ps,p.1.l.length<=4) :
    Calls Tryz.prog 105 #[.slice (some ⟨b,0,none⟩) n c] w λe w'=>∃ v qs,e=.returned v/\qs.length=n/\L9I w ps qs v w':=by
 obtain ⟨i0,hi,hz0,hz1,hz2⟩:=info_parts infoI;obtain ⟨i2,hi2,hy0,hy1,hy2⟩:=info_parts Tryz.info2;have HST:Hid (L9I w ps [] (.slice (some ⟨w.heap.size,0,none⟩) 0 0) (w.alloc (.cells #[] 26))):=⟨Nat.zero_le _,rfl,World.ownsRow_lit w #[] 0 (Nat.le_refl _) (Nat.zero_le _) rfl,λq hq=>(by cases hq),(Below.refl _ _).alloc (Nat.le_refl _) _⟩;have HC:=Hm hc;have HL:=Hm (And.intro hL hl);have HN:=Hm hn;clear hc hL hl hn
 go_enter Tryz.func105,Tryz.ntmps105
 go_wp2
 go_loopw [3,4] (λv i wr=>∃ qs:List (In × Value),i=.int .i64 (qs.length:Int)/\qs.length<=n/\L9I w ps qs v wr) (λ_ i _=>n-(intOf i).toNat)
 case atStart=>exact ⟨[],rfl,Nat.zero_le _,HST.o⟩
 case round =>
  obtain ⟨qs,rfl,hle,hI⟩:=hrel;clear HST;obtain ⟨va,vc,hve⟩:=Ql hI.2.2.1;subst hve;have HI:=Hm hI
  by_cases hlt:qs.length<n
  . have hki:(qs.length:Int)<(n:Int):=by omega
    have hlp:qs.length<ps.length:=by have:=HN.o;omega
    have hmem:ps.getD qs.length zI ∈ ps:=by rw [List.getD_eq_getElem?_getD,List.getElem?_eq_getElem hlp];exact List.getElem_mem hlp
    have hCk:=HC.o qs.length hlp;have hLk:=HL.o.1 _ hmem;have hlk:=HL.o.2 _ hmem;have HNX:=Hm (λ(V2:World) (lv:Value) (o:Obj) (w3:World) (v3:Value)=>l9_next (V2:=V2) (lv:=lv) (o:=o) (w3:=w3) (v3:=v3) HI.o hlp rfl);have hbw:=HI.o.2.2.2.2;generalize ps.getD qs.length zI=p at *;obtain ⟨⟨op,xa,xb,xv,l⟩,lv⟩:=p
    dsimp only at *
    obtain ⟨⟨d0,d1,d2,d3,d4⟩,-⟩:=hCk;have hbl:b<w.heap.size:=World.block_lt_of_cell? w _ d0;have e0:=(hbw.cell (p:=⟨b,qs.length*5,none⟩) hbl).trans d0;have e1:=(hbw.cell (p:=⟨b,qs.length*5+1,none⟩) hbl).trans d1;have e2:=(hbw.cell (p:=⟨b,qs.length*5+2,none⟩) hbl).trans d2;have e3:=(hbw.cell (p:=⟨b,qs.length*5+3,none⟩) hbl).trans d3;have e4:=(hbw.cell (p:=⟨b,qs.length*5+4,none⟩) hbl).trans d4;have hsw:=hbw.size;have HOW:=Hm HI.o.2.2.1;have HLV:=Hm hLk;have HBW:=Hm hbw;clear hI HI HC HL HN d0 d1 d2 d3 d4 hbw hLk hmem;obtain ⟨X,hX⟩:∃ X,X=wr.heap.size:=⟨_,rfl⟩;have HX:=Hm hX
    rcases HLV.o with ⟨hlv,hl0⟩|⟨lb,lo,lc,hlv,-,hlb,hlc⟩
    . subst hlv hl0;clear HLV
      go_upto_region 6 with fail
      rw [<- hX]
      refine Qj (λV=>Bk V X [.int .i64 op,.int .i64 xa,.int .i64 xb,.int .u64 xv,.slice none 0 0]/\Below wr.heap.size wr V) ⟨by rw [hX];exact Bk.new,(Below.refl _ _).alloc (Nat.le_refl _) _⟩ ?_
      rintro V1 ⟨hB1,hb1⟩;have f4:=hB1.2.1 4 _ rfl;have z4:=hB1.2.2 4;have hXl0:=hB1.1;have hs1:=hb1.size;have HW1:=Hm (And.intro hB1 hb1);clear hB1 hb1 hX e0 e1 e2 e3 e4
      have HP:Hid (∀ t,(λV=>∃ u,Bk V X [.int .i64 op,.int .i64 xa,.int .i64 xb,.int .u64 xv,u]/\LV V (λk=>k<wr.heap.size) u []/\Below wr.heap.size wr V/\∃ a c,u=.slice a ([]:List Int).length c) ((V1.setCell ⟨X,4,none⟩ (.slice (some ⟨V1.heap.size,0,none⟩) 0 0)).alloc (.cells #[] t))):=by
       intro t
       have hXe:=HX.o
       exact ⟨.slice (some ⟨V1.heap.size,0,none⟩) 0 0,(HW1.o.1.set (j:=4)).past,.inr ⟨V1.heap.size,0,0,rfl,by omega,by simp,λi hi=>by simp at hi⟩,(HW1.o.2.setCell (by show _<=X;omega) _).alloc (by simp;omega) _,_,_,rfl⟩
      go_upto_region 7 with (at_builtin;refine wpList_append_own_none _ rfl _ _ 24 rfl V1.heap.size 2 i2 1 Tryz.underlying24 hi2 _ 0 [] rfl (World.ownsRow_lit V1 #[] 0 (Nat.le_refl _) (Nat.zero_le _) rfl) rfl ?_)
      refine Qj (λV=>∃ u,Bk V X [.int .i64 op,.int .i64 xa,.int .i64 xb,.int .u64 xv,u]/\LV V (λk=>k<wr.heap.size) u []/\Below wr.heap.size wr V/\∃ a c,u=.slice a ([]:List Int).length c) (HP.o _) ?_
      rintro V2 ⟨u,hB2,hl2,hb2,ua,uc,rfl⟩;have g0:=hB2.2.1 0 _ rfl;have g1:=hB2.2.1 1 _ rfl;have g2:=hB2.2.1 2 _ rfl;have g3:=hB2.2.1 3 _ rfl;have g4:=hB2.2.1 4 _ rfl;have hs2:=hb2.size;have HO2:Hid (∀ o,(V2.alloc o).ownsRow w.heap.size 26 5 (.slice va qs.length vc) qs.length (qs.flatMap ceI)):=λo=>(Js HOW.o (λk hk=>hb2.block k (HOW.o.lt k hk).2)).alloc o;have HN2:=Hm (λ(o:Obj) (w3:World) (v3:Value)=>HNX.o V2 (.slice ua ([]:List Int).length uc) o w3 v3 hb2 hl2);clear hB2 hl2 hb2 HOW HNX f4 z4 HW1 HP
      go_wp2_with (at_builtin;refine wpList_append_own_at _ rfl _ _ 36 rfl w.heap.size 26 i0 (.agg #[.int .i64 0,.int .i64 0,.int .i64 0,.int .u64 0,.slice none 0 0]) 5 56 Tryz.underlying36 hi hz0 hz1 hz2 rfl (by decide) _ _ _ rfl (HO2.o _) ⟨V2.heap.size,0,none⟩ 1 1 [.int .i64 op,.int .i64 xa,.int .i64 xb,.int .u64 xv,.slice ua ([]:List Int).length uc] rfl rfl (lit1 _ _ _) (by simp [Value.oneCell']) (by unfold maxLen;omega) (by omega) (by simp;omega) ?_;intro v3 w3 hown' hgrow hnn hat;have HR3:=Hm (HN2.o _ w3 v3 hgrow hat hown');obtain ⟨v3a,v3c,rfl⟩:=Ql hown';clear hown' hgrow hnn hat HN2 HO2)
      go_simp
      go_wp2
      go_roundw
      case rel=>exact ⟨qs++[(⟨op,xa,xb,xv,[]⟩,.slice ua ([]:List Int).length uc)],by simp,by simp;omega,HR3.o⟩
      case measure=>simp [intOf];omega
    . subst hlv;clear HLV
      go_upto_region 6 with fail
      rw [<- hX]
      refine Qj (λV=>Bk V X [.int .i64 op,.int .i64 xa,.int .i64 xb,.int .u64 xv,.slice (some ⟨lb,lo,none⟩) l.length lc]/\Below wr.heap.size wr V) ⟨by rw [hX];exact Bk.new,(Below.refl _ _).alloc (Nat.le_refl _) _⟩ ?_
      rintro V1 ⟨hB1,hb1⟩;have f4:=hB1.2.1 4 _ rfl;have z4:=hB1.2.2 4;have hXl0:=hB1.1;have hs1:=hb1.size;have HLC:Hid (∀ o,∀ j u,(I l)[j]?=some u->(V1.alloc o).cell? ((⟨lb,lo,none⟩:Addr).add j)=some u):=λo=>lst_cells hlc ((QC _ _ _ (by omega)).trans ((hb1.block lb (by omega)).trans (HBW.o.block lb hlb)))
      have HP:Hid (∀ (o:Obj) w3 v3,(V1.alloc o).grownBy w3 (Value.slice (some ⟨V1.heap.size,0,none⟩) 0 0).ownBlock->(v3.ownBlock=(Value.slice (some ⟨V1.heap.size,0,none⟩) 0 0).ownBlock\/v3.ownBlock=some (V1.alloc o).heap.size)->w3.ownsRow V1.heap.size 2 1 v3 (0+l.length) ([]++I l)->w3.cell? ⟨X,4,none⟩=some (.slice (some ⟨lb,lo,none⟩) l.length lc)/\w3.frozen? ⟨X,4,none⟩=false/\(λV=>∃ u,Bk V X [.int .i64 op,.int .i64 xa,.int .i64 xb,.int .u64 xv,u]/\LV V (λk=>k<wr.heap.size) u l/\Below wr.heap.size wr V/\∃ a c,u=.slice a (l:List Int).length c) (w3.setCell ⟨X,4,none⟩ v3)):=by
       intro o w3 v3 k1 k2 k3
       have hXe:=HX.o;have hvb:(Value.slice (some ⟨V1.heap.size,0,none⟩) 0 0).ownBlock=some V1.heap.size:=rfl;rw [hvb] at k1 k2;have hBk:=(hB1.past (o:=o)).grown k1 (by simp;omega);rw [Nat.zero_add,List.nil_append] at k3;have hq:∀ q,v3.ownBlock=some q->V1.heap.size<=q:=λq hq=>(k3.lt q hq).1;have hb3:Below wr.heap.size wr w3:=⟨k1.os.trans hb1.os,k1.tape.trans hb1.tape,k1.output.trans hb1.output,by have:=k1.size;simp at this;omega,λk hk=>(k1.block k (by simp;omega) (by simp;omega)).trans ((QC _ _ _ (by omega)).trans (hb1.block k hk))⟩
       refine ⟨hBk.2.1 4 _ rfl,hBk.2.2 4,v3,hBk.set (j:=4),?_,hb3.setCell (by show _<=X;omega) _,Ql k3⟩
       refine own_lv (B:=V1.heap.size) (Js k3 (λq hq'=>Below.heap_setCell _ _ _ _ (λe=>by have e':q=X:=e;have:=hq q hq';omega))) (λq hq'=>by have:=hq q hq';omega)
      have HW1:=Hm hb1;clear hB1 hb1 hX e0 e1 e2 e3 e4 hlc
      go_upto_region 7 with (at_builtin;refine wpList_append_own_at _ rfl _ _ 24 rfl V1.heap.size 2 i2 (.int .i64 0) 1 8 Tryz.underlying24 hi2 hy0 hy1 hy2 rfl (by decide) _ _ _ rfl (World.ownsRow_lit V1 #[] 0 (Nat.le_refl _) (Nat.zero_le _) rfl) ⟨lb,lo,none⟩ l.length lc (I l) rfl (by simp [I]) (HLC.o _) (by simp [I,Value.oneCell']) (by unfold maxLen;omega) (by omega) (by simp) ?_;intro v3 w3 hown' hgrow hnn hat;have hh:=HP.o _ w3 v3 hgrow hat hown';have f4':=hh.1;have z4':=hh.2.1;have HQ:=Hm hh.2.2;obtain ⟨v3a,v3c,rfl⟩:=Ql hown';clear hown' hgrow hnn hat hh HP)
      refine Qj (λV=>∃ u,Bk V X [.int .i64 op,.int .i64 xa,.int .i64 xb,.int .u64 xv,u]/\LV V (λk=>k<wr.heap.size) u l/\Below wr.heap.size wr V/\∃ a c,u=.slice a (l:List Int).length c) (by have hq:=HQ.o;rw [Nat.zero_add] at hq;exact hq) ?_
      rintro V2 ⟨u,hB2,hl2,hb2,ua,uc,rfl⟩;have g0:=hB2.2.1 0 _ rfl;have g1:=hB2.2.1 1 _ rfl;have g2:=hB2.2.1 2 _ rfl;have g3:=hB2.2.1 3 _ rfl;have g4:=hB2.2.1 4 _ rfl;have hs2:=hb2.size;have HO2:Hid (∀ o,(V2.alloc o).ownsRow w.heap.size 26 5 (.slice va qs.length vc) qs.length (qs.flatMap ceI)):=λo=>(Js HOW.o (λk hk=>hb2.block k (HOW.o.lt k hk).2)).alloc o;have HN2:=Hm (λ(o:Obj) (w3:World) (v3:Value)=>HNX.o V2 (.slice ua (l:List Int).length uc) o w3 v3 hb2 hl2);clear hB2 hl2 hb2 HOW HNX f4 z4 HW1 HQ f4' z4'
      go_wp2_with (at_builtin;refine wpList_append_own_at _ rfl _ _ 36 rfl w.heap.size 26 i0 (.agg #[.int .i64 0,.int .i64 0,.int .i64 0,.int .u64 0,.slice none 0 0]) 5 56 Tryz.underlying36 hi hz0 hz1 hz2 rfl (by decide) _ _ _ rfl (HO2.o _) ⟨V2.heap.size,0,none⟩ 1 1 [.int .i64 op,.int .i64 xa,.int .i64 xb,.int .u64 xv,.slice ua (l:List Int).length uc] rfl rfl (lit1 _ _ _) (by simp [Value.oneCell']) (by unfold maxLen;omega) (by omega) (by simp;omega) ?_;intro v3 w3 hown' hgrow hnn hat;have HR3:=Hm (HN2.o _ w3 v3 hgrow hat hown');obtain ⟨v3a,v3c,rfl⟩:=Ql hown';clear hown' hgrow hnn hat HN2 HO2)
      go_simp
      go_wp2
      go_roundw
      case rel=>exact ⟨qs++[(⟨op,xa,xb,xv,l⟩,.slice ua (l:List Int).length uc)],by simp,by simp;omega,HR3.o⟩
      case measure=>simp [intOf];omega
  . have e:qs.length=n:=by omega
    have HE:=Hm (And.intro e HI.o);clear hI HI
    go_wp2
    go_ret
    exact ⟨_,qs,rfl,HE.o.1,HE.o.2⟩
end Go.Proofs.YtipfjdogokanbaaGreatDoor.An
