import Derived.Test.YtdbmolambolmgaaGreatGa
import Derived.Test.YtdbmolambolmgaaGreatGb
import Derived.Test.YtdbmolambolmgaaGreatGc
import Derived.Test.YtdbmolambolmgaaGreatGd
import Derived.OwnWalk
import Derived.Handy
set_option linter.all false
set_option maxHeartbeats 16000000
set_option maxRecDepth 100000
namespace Go.Proofs.YtdbmolambolmgaaGreat
open Go.RowKit
theorem up1 {w w1:World} {o:Obj} (h:Below (w.alloc o).heap.size (w.alloc o) w1):Below w.heap.size w w1:=Below.trans ((Below.refl _ _).alloc (Nat.le_refl _) _) (h.mono (by simp))
theorem up2 {w w1:World} {o o':Obj} (h:Below ((w.alloc o).alloc o').heap.size ((w.alloc o).alloc o') w1):Below w.heap.size w w1:=up1 (up1 h)
theorem rowNew (w w1:World) (r:Row) (t:TypeId) (h:Below (w.alloc (.cells (rowL r).toArray t)).heap.size (w.alloc (.cells (rowL r).toArray t)) w1):Below w.heap.size w w1∧w1.cell? ⟨w.heap.size,0,none⟩=some (.string r.nm)∧w1.cell? ⟨w.heap.size,1,none⟩=some (.int .i64 r.f)∧w1.cell? ⟨w.heap.size,2,none⟩=some (.int .i64 r.a)∧w1.cell? ⟨w.heap.size,3,none⟩=some (.int .i64 r.b)∧w1.cell? ⟨w.heap.size,4,none⟩=some (.int .i64 r.g)∧(∀ i,w1.frozen? ⟨w.heap.size,i,none⟩=false):=by
 have hl:w.heap.size<(w.alloc (.cells (rowL r).toArray t)).heap.size:=by simp
 refine ⟨up1 h,?_,?_,?_,?_,?_,?_⟩
 · rw [h.cell (p:=⟨w.heap.size,0,none⟩) hl];exact cell_new rfl rfl
 · rw [h.cell (p:=⟨w.heap.size,1,none⟩) hl];exact cell_new rfl rfl
 · rw [h.cell (p:=⟨w.heap.size,2,none⟩) hl];exact cell_new rfl rfl
 · rw [h.cell (p:=⟨w.heap.size,3,none⟩) hl];exact cell_new rfl rfl
 · rw [h.cell (p:=⟨w.heap.size,4,none⟩) hl];exact cell_new rfl rfl
 · intro i;rw [h.frozen (p:=⟨w.heap.size,i,none⟩) hl];exact World.frozen?_alloc_new w _ t i
theorem set5 {w w1:World} (v0 v1 v2 v3 v4:Value) (b0:Below w.heap.size w w1):Below w.heap.size w (((((w1.setCell ⟨w.heap.size,0,none⟩ v0).setCell ⟨w.heap.size,1,none⟩ v1).setCell ⟨w.heap.size,2,none⟩ v2).setCell ⟨w.heap.size,3,none⟩ v3).setCell ⟨w.heap.size,4,none⟩ v4) :=
 ((((b0.setCell (by simp) _).setCell (by simp) _).setCell (by simp) _).setCell (by simp) _).setCell (by simp) _
theorem find_o0 (p:Int) (w:World) (h2:p≤-1):Calls Tryz.prog 233 #[.int .i64 p] w fun e w'=>e=.returned (rowV Z0)∧Below w.heap.size w w':=by
 have f1:p<0:=by omega
 have f2:p<192:=by omega
 have f3:p<40:=by omega
 have f4:p<69:=by omega
 have f5:p<103:=by omega
 have f6:p<139:=by omega
 have f7:p<167:=by omega
 go_enter Tryz.func233,Tryz.ntmps233
 go_wp2
 exact bodyPost_ret (v:=rowV Z0) (by simp [results,Tryz.results233,go_sem,Z0]) rfl ⟨rfl,by repeat (first | exact Below.refl _ _ | assumption | refine Below.setCell ?_ (by first | (simp;done) | (simp;omega)) _ | refine Below.alloc ?_ (by first | (simp;done) | (simp;omega)) _ | apply Below.drew)⟩
theorem find_o1 (p:Int) (w:World) (h1:192≤p):Calls Tryz.prog 233 #[.int .i64 p] w fun e w'=>e=.returned (rowV Z0)∧Below w.heap.size w w':=by
 have f1:¬ p<0:=by omega
 have f2:¬ p<192:=by omega
 have f3:¬ p<40:=by omega
 have f4:¬ p<69:=by omega
 have f5:¬ p<103:=by omega
 have f6:¬ p<139:=by omega
 have f7:¬ p<167:=by omega
 go_enter Tryz.func233,Tryz.ntmps233
 go_wp2
 exact bodyPost_ret (v:=rowV Z0) (by simp [results,Tryz.results233,go_sem,Z0]) rfl ⟨rfl,by repeat (first | exact Below.refl _ _ | assumption | refine Below.setCell ?_ (by first | (simp;done) | (simp;omega)) _ | refine Below.alloc ?_ (by first | (simp;done) | (simp;omega)) _ | apply Below.drew)⟩
theorem find_opControl (p:Nat) (w:World) (h1:0≤p) (h2:p≤39):Calls Tryz.prog 233 #[.int .i64 p] w fun e w'=>e=.returned (rowV (rowOf p))∧Below w.heap.size w w':=by
 have hc:=Hm (opControl_c p (w.alloc (.cells (rowL Z0).toArray 307)) (by omega) (by omega))
 generalize hr:rowOf p=r at *
 generalize hq:(p:Int)=q at *
 have f1:¬ q<0:=by omega
 have f2:q<192:=by omega
 have f3:q<40:=by omega
 have f4:q<69:=by omega
 have f5:q<103:=by omega
 have f6:q<139:=by omega
 have f7:q<167:=by omega
 go_enter Tryz.func233,Tryz.ntmps233
 go_wp2_with fail
 refine (hc.out).mono ?_
 rintro e w1 ⟨rfl,hb⟩
 obtain ⟨b0,c0,c1,c2,c3,c4,fz⟩:=rowNew w w1 Z0 307 hb
 go_wp2
 exact bodyPost_ret (v:=rowV r) (by simp [results,Tryz.results233,go_sem,c0,c1,c2,c3,c4]) rfl ⟨rfl,set5 _ _ _ _ _ b0⟩
theorem find_opMemory (p:Nat) (w:World) (h1:40≤p) (h2:p≤68):Calls Tryz.prog 233 #[.int .i64 p] w fun e w'=>e=.returned (rowV (rowOf p))∧Below w.heap.size w w':=by
 have hc:=Hm (opMemory_c p (w.alloc (.cells (rowL Z0).toArray 307)) (by omega) (by omega))
 generalize hr:rowOf p=r at *
 generalize hq:(p:Int)=q at *
 have f1:¬ q<0:=by omega
 have f2:q<192:=by omega
 have f3:¬ q<40:=by omega
 have f4:q<69:=by omega
 have f5:q<103:=by omega
 have f6:q<139:=by omega
 have f7:q<167:=by omega
 go_enter Tryz.func233,Tryz.ntmps233
 go_wp2_with fail
 refine (hc.out).mono ?_
 rintro e w1 ⟨rfl,hb⟩
 obtain ⟨b0,c0,c1,c2,c3,c4,fz⟩:=rowNew w w1 Z0 307 hb
 go_wp2
 exact bodyPost_ret (v:=rowV r) (by simp [results,Tryz.results233,go_sem,c0,c1,c2,c3,c4]) rfl ⟨rfl,set5 _ _ _ _ _ b0⟩
theorem find_opTests (p:Nat) (w:World) (h1:69≤p) (h2:p≤102):Calls Tryz.prog 233 #[.int .i64 p] w fun e w'=>e=.returned (rowV (rowOf p))∧Below w.heap.size w w':=by
 have hc:=Hm (opTests_c p (w.alloc (.cells (rowL Z0).toArray 307)) (by omega) (by omega))
 generalize hr:rowOf p=r at *
 generalize hq:(p:Int)=q at *
 have f1:¬ q<0:=by omega
 have f2:q<192:=by omega
 have f3:¬ q<40:=by omega
 have f4:¬ q<69:=by omega
 have f5:q<103:=by omega
 have f6:q<139:=by omega
 have f7:q<167:=by omega
 go_enter Tryz.func233,Tryz.ntmps233
 go_wp2_with fail
 refine (hc.out).mono ?_
 rintro e w1 ⟨rfl,hb⟩
 obtain ⟨b0,c0,c1,c2,c3,c4,fz⟩:=rowNew w w1 Z0 307 hb
 go_wp2
 exact bodyPost_ret (v:=rowV r) (by simp [results,Tryz.results233,go_sem,c0,c1,c2,c3,c4]) rfl ⟨rfl,set5 _ _ _ _ _ b0⟩
theorem find_opIntegers (p:Nat) (w:World) (h1:103≤p) (h2:p≤138):Calls Tryz.prog 233 #[.int .i64 p] w fun e w'=>e=.returned (rowV (rowOf p))∧Below w.heap.size w w':=by
 have hc:=Hm (opIntegers_c p (w.alloc (.cells (rowL Z0).toArray 307)) (by omega) (by omega))
 generalize hr:rowOf p=r at *
 generalize hq:(p:Int)=q at *
 have f1:¬ q<0:=by omega
 have f2:q<192:=by omega
 have f3:¬ q<40:=by omega
 have f4:¬ q<69:=by omega
 have f5:¬ q<103:=by omega
 have f6:q<139:=by omega
 have f7:q<167:=by omega
 go_enter Tryz.func233,Tryz.ntmps233
 go_wp2_with fail
 refine (hc.out).mono ?_
 rintro e w1 ⟨rfl,hb⟩
 obtain ⟨b0,c0,c1,c2,c3,c4,fz⟩:=rowNew w w1 Z0 307 hb
 go_wp2
 exact bodyPost_ret (v:=rowV r) (by simp [results,Tryz.results233,go_sem,c0,c1,c2,c3,c4]) rfl ⟨rfl,set5 _ _ _ _ _ b0⟩
theorem find_opFloats (p:Nat) (w:World) (h1:139≤p) (h2:p≤166):Calls Tryz.prog 233 #[.int .i64 p] w fun e w'=>e=.returned (rowV (rowOf p))∧Below w.heap.size w w':=by
 have hc:=Hm (opFloats_c p (w.alloc (.cells (rowL Z0).toArray 307)) (by omega) (by omega))
 generalize hr:rowOf p=r at *
 generalize hq:(p:Int)=q at *
 have f1:¬ q<0:=by omega
 have f2:q<192:=by omega
 have f3:¬ q<40:=by omega
 have f4:¬ q<69:=by omega
 have f5:¬ q<103:=by omega
 have f6:¬ q<139:=by omega
 have f7:q<167:=by omega
 go_enter Tryz.func233,Tryz.ntmps233
 go_wp2_with fail
 refine (hc.out).mono ?_
 rintro e w1 ⟨rfl,hb⟩
 obtain ⟨b0,c0,c1,c2,c3,c4,fz⟩:=rowNew w w1 Z0 307 hb
 go_wp2
 exact bodyPost_ret (v:=rowV r) (by simp [results,Tryz.results233,go_sem,c0,c1,c2,c3,c4]) rfl ⟨rfl,set5 _ _ _ _ _ b0⟩
theorem find_opConversions (p:Nat) (w:World) (h1:167≤p) (h2:p≤191):Calls Tryz.prog 233 #[.int .i64 p] w fun e w'=>e=.returned (rowV (rowOf p))∧Below w.heap.size w w':=by
 have hc:=Hm (opConversions_c p (w.alloc (.cells (rowL Z0).toArray 307)) (by omega) (by omega))
 generalize hr:rowOf p=r at *
 generalize hq:(p:Int)=q at *
 have f1:¬ q<0:=by omega
 have f2:q<192:=by omega
 have f3:¬ q<40:=by omega
 have f4:¬ q<69:=by omega
 have f5:¬ q<103:=by omega
 have f6:¬ q<139:=by omega
 have f7:¬ q<167:=by omega
 go_enter Tryz.func233,Tryz.ntmps233
 go_wp2_with fail
 refine (hc.out).mono ?_
 rintro e w1 ⟨rfl,hb⟩
 obtain ⟨b0,c0,c1,c2,c3,c4,fz⟩:=rowNew w w1 Z0 307 hb
 go_wp2
 exact bodyPost_ret (v:=rowV r) (by simp [results,Tryz.results233,go_sem,c0,c1,c2,c3,c4]) rfl ⟨rfl,set5 _ _ _ _ _ b0⟩
theorem find_c (p:Int) (w:World):Calls Tryz.prog 233 #[.int .i64 p] w fun e w'=>e=.returned (rowV (rowOf p))∧Below w.heap.size w w':=by
 by_cases h:0≤p∧p<192
 · obtain ⟨n,rfl⟩:=Int.eq_ofNat_of_zero_le h.1
   have hc:(0≤n∧n≤39)∨(40≤n∧n≤68)∨(69≤n∧n≤102)∨(103≤n∧n≤138)∨(139≤n∧n≤166)∨(167≤n∧n≤191):=by omega
   rcases hc with h | h | h | h | h | h
   · exact find_opControl n w h.1 h.2
   · exact find_opMemory n w h.1 h.2
   · exact find_opTests n w h.1 h.2
   · exact find_opIntegers n w h.1 h.2
   · exact find_opFloats n w h.1 h.2
   · exact find_opConversions n w h.1 h.2
 · have e:rowOf p=Z0:=by simp only [rowOf,h,if_false]
   rw [e]
   rcases (by omega:p≤-1∨192≤p) with h | h
   · exact find_o0 p w h
   · exact find_o1 p w h
open Go.RowKit
theorem fieldV (r:Row) (w:World):(Instr.field 307 (rowV r) 0).run Tryz.prog w=.ok (.string r.nm) w:=by kernel_rfl
theorem iname_c (p:Int) (w:World):Calls Tryz.prog 293 #[.int .i64 p] w fun e w'=>e=.returned (.string (rowOf p).nm)∧Below w.heap.size w w':=by
 have hc:=Hm (find_c p w)
 generalize rowOf p=r at *
 have hf:=fieldV r
 go_enter Tryz.func293,Tryz.ntmps293
 go_wp2_with fail
 refine hc.out.mono ?_
 rintro e w1 ⟨rfl,hb⟩
 go_wp2
 go_ret
 exact ⟨rfl,hb⟩
theorem isE (a:ByteArray):a.toList.isEmpty=decide (a.size=0):=by
 rw [ByteArray.toList_eq]
 have:a.size=a.data.toList.length:=rfl
 rw [this]
 cases a.data.toList <;> simp
theorem belA {w w1:World} {o:Obj} (h:Below w.heap.size w w1):Below w.heap.size w (w1.alloc o):=h.alloc h.size o
theorem iform_c (p:Int) (w:World):Calls Tryz.prog 218 #[.int .i64 p] w fun e w'=>e=.returned (.int .i64 (formR (rowOf p)))∧Below w.heap.size w w':=by
 have hc:=Hm (find_c p w)
 generalize rowOf p=r at *
 by_cases hz:r.nm.size=0
 · have h0:r.nm.toList.isEmpty=true:=by rw [isE];simpa using hz
   go_enter Tryz.func218,Tryz.ntmps218
   go_wp2_with fail
   refine hc.out.mono ?_
   rintro e w1 ⟨rfl,hb⟩
   go_wp2
   go_ret
   exact ⟨by simp [formR,hz],belA hb⟩
 · have h0:r.nm.toList.isEmpty=false:=by rw [isE];simpa using hz
   go_enter Tryz.func218,Tryz.ntmps218
   go_wp2_with fail
   refine hc.out.mono ?_
   rintro e w1 ⟨rfl,hb⟩
   go_wp2
   go_ret
   exact ⟨by simp [formR,hz],belA hb⟩
open Go.RowKit
theorem Tryz.info2:(Tryz.prog.info? 2).map (fun i=>(i.zero,i.size,i.bytes))=some (some (.int .i64 0),1,8):=by kernel_rfl
abbrev I (xs:List Int):List Value:=xs.map fun x=>Value.int .i64 x
def Has (w:World) (a:Option Addr) (xs:List Int):Prop :=
 xs=[]∨∃ b off,a=some ⟨b,off,none⟩∧∀ i,i<xs.length→w.cell? ⟨b,off+i,none⟩=some (.int .i64 (xs.getD i 0))
theorem eq_any (a b:Option Addr) (ca cb:Nat) (xs:List Int) (w:World) (hl:xs.length≤1099511627776) (ha:Has w a xs) (hb:Has w b xs) :
    Calls Tryz.prog 69 #[.slice a xs.length ca,.slice b xs.length cb] w fun e w'=>e=.returned (.bool true)∧∃ n,w'=w.drewN n:=by
 by_cases hx:xs=[]
 · subst hx
   clear ha hb hl
   go_enter Tryz.func69,Tryz.ntmps69
   go_wp2
   refine wp_loop_rounds 1 ?_
   rw [rounds_succ]
   go_wp2
   go_ret
   exact ⟨rfl,0,rfl⟩
 · have hpos:0<xs.length:=List.length_pos_iff.2 hx
   rcases ha with h | ⟨b1,o1,rfl,hc1⟩
   · exact absurd h hx
   rcases hb with h | ⟨b2,o2,rfl,hc2⟩
   · exact absurd h hx
   have hpos':(0:Int)<(xs.length:Int):=by omega
   clear hx
   go_enter Tryz.func69,Tryz.ntmps69
   go_wp2
   go_loopw [5] (fun i wr=>∃ k:Nat,k≤xs.length∧i=.int .i64 k∧∃ m,wr=w.drewN m) (fun i _=>xs.length-(intOf i).toNat)
   case atStart=>exact ⟨0,Nat.zero_le _,rfl,0,rfl⟩
   case round =>
    obtain ⟨k,hk,rfl,m,rfl⟩:=hrel
    by_cases hlt:k<xs.length
    · have d1:(w.drewN m).cell? ⟨b1,o1+k,none⟩=some (.int .i64 (xs.getD k 0)):=hc1 k hlt
      have d2:(w.drewN m).cell? ⟨b2,o2+k,none⟩=some (.int .i64 (xs.getD k 0)):=hc2 k hlt
      have hki:(k:Int)<(xs.length:Int):=by omega
      go_wp2
      go_quiet (fail)
      go_wp2
      go_roundw
      case rel=>exact ⟨k+1,by omega,by go_num,_,rfl⟩
      case measure=>simp [intOf];omega
    · go_wp2
      go_ret
      exact ⟨rfl,m,rfl⟩
theorem grown_trans {a b c:World} {row:Option Nat} (h:a.grownBy b row) (k:b.grownBy c row):a.grownBy c row :=
 ⟨k.os.trans h.os,k.tape.trans h.tape,k.output.trans h.output,Nat.le_trans h.size k.size,fun i hi hne=>(k.block i (Nat.lt_of_lt_of_le hi h.size) hne).trans (h.block i hi hne)⟩
theorem below_drewN' {B:Nat} {w w':World} (h:Below B w w') (n:Nat):Below B w (w'.drewN n):=⟨h.os,h.tape,h.output,h.size,h.block⟩
theorem own_has {w:World} {B g cap:Nat} {L:List Int} (h:w.ownsRow B 2 1 (.slice (some ⟨g,0,none⟩) L.length cap) L.length (I L)):Has w (some ⟨g,0,none⟩) L:=by
 refine .inr ⟨g,0,rfl,fun i hi=>?_⟩
 rw [Nat.zero_add,h.cellAt i (by omega)]
 simp [List.getD,hi]
open Go.RowKit
theorem own_shape {w:World} {B:Nat} {v:Value} {xs:List Int} (h:w.ownsRow B 2 1 v xs.length (I xs)):∃ a c,v=.slice a xs.length c∧Has w a xs:=by
 rcases h.2 with ⟨e,h0⟩ | ⟨g,cap,cur,hv,hB,hg,r⟩
 · rw [h0];exact ⟨_,_,e,.inl (List.length_eq_zero_iff.1 h0)⟩
 · subst hv;exact ⟨_,_,rfl,own_has h⟩
theorem own_keep {w w':World} {B C n:Nat} {v:Value} {xs:List Value} (h:w.ownsRow B 2 1 v n xs) (hb:Below C w w') (hg:∀ j,v.ownBlock=some j→j<C):w'.ownsRow B 2 1 v n xs:=by
 refine ⟨h.1,?_⟩
 rcases h.2 with h0 | ⟨g,cap,cur,hv,hB,hh,r⟩
 · exact .inl h0
 · subst hv
   exact .inr ⟨g,cap,cur,rfl,hB,(hb.block g (hg g rfl)).trans hh,r⟩
theorem own_lt {w:World} {B n:Nat} {v:Value} {xs:List Value} (h:w.ownsRow B 2 1 v n xs):∀ j,v.ownBlock=some j→j<w.heap.size:=by
 intro j hj;exact (h.lt j hj).2
theorem heap_new (w:World) (o:Obj):(w.alloc o).heap[w.heap.size]?=some o:=by show (w.heap.push o)[w.heap.size]?=_;simp
theorem heap_old (w:World) (o:Obj) (k:Nat) (h:k<w.heap.size):(w.alloc o).heap[k]?=w.heap[k]?:=by show (w.heap.push o)[k]?=_;rw [Array.getElem?_push_lt h,Array.getElem?_eq_getElem h]
theorem grown_none (w:World) (r:Option Nat):w.grownBy w r:=World.grownBy.refl _ _
structure Bet (B C:Nat) (w w':World):Prop where
 os:w'.os=w.os
 tape:w'.tape=w.tape
 output:w'.output=w.output
 size:w.heap.size≤w'.heap.size
 block:∀ k,k<B∨(C≤k∧k<w.heap.size)→w'.heap[k]?=w.heap[k]?
theorem Bet.below {B C:Nat} {w w':World} (h:Bet B C w w'):Below B w w':=⟨h.os,h.tape,h.output,h.size,fun k hk=>h.block k (.inl hk)⟩
theorem Bet.cell {B C:Nat} {w w':World} (h:Bet B C w w') {b o:Nat} (hk:b<B∨(C≤b∧b<w.heap.size)):w'.cell? ⟨b,o,none⟩=w.cell? ⟨b,o,none⟩:=World.cell?_of_block (h.block b hk)
theorem Bet.frozen {B C:Nat} {w w':World} (h:Bet B C w w') {b o:Nat} (hk:b<B∨(C≤b∧b<w.heap.size)):w'.frozen? ⟨b,o,none⟩=w.frozen? ⟨b,o,none⟩:=World.frozen?_of_block (h.block b hk)
end Go.Proofs.YtdbmolambolmgaaGreat
