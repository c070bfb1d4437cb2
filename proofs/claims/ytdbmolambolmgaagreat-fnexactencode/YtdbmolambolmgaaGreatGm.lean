import Derived.Test.YtdbmolambolmgaaGreatGi
import Derived.Test.YtdbmolambolmgaaGreatGl
set_option linter.all false
set_option maxHeartbeats 16000000
set_option maxRecDepth 100000
namespace Go.Proofs.YtdbmolambolmgaaGreat
open Go.RowKit Go.Sort
set_option maxRecDepth 100000
theorem two_new (w:World) (a b c d e:Value) (y:Int) (t:TypeId):C5 ((w.alloc (.cells #[a,b,c,d,e] t)).alloc (.cells #[.int .u8 y] 5)) w.heap.size 0 a b c d e∧((w.alloc (.cells #[a,b,c,d,e] t)).alloc (.cells #[.int .u8 y] 5)).ownsRow (w.heap.size+1) 5 1 (.slice (some ⟨w.heap.size+1,0,none⟩) 1 1) 1 (U [y])∧Below w.heap.size w ((w.alloc (.cells #[a,b,c,d,e] t)).alloc (.cells #[.int .u8 y] 5)):=by
 refine ⟨C5.new.past,?_,((Below.refl _ _).alloc (Nat.le_refl _) _).alloc (by simp) _⟩
 have:=World.ownsRow_lit (base:=w.heap.size+1) (e:=5) (size:=1) (w.alloc (.cells #[a,b,c,d,e] t)) #[.int .u8 y] 1 (by simp) (by unfold maxLen;omega) rfl
 simpa using this
theorem below_grown {w w1:World} (hb:Below w.heap.size w w1) (r:Option Nat):w.grownBy w1 r:=⟨hb.os,hb.tape,hb.output,hb.size,fun k hk _=>hb.block k hk⟩
theorem grown_c5 {w w1:World} {g g0 o:Nat} {a b c d e:Value} (h:C5 w g o a b c d e) (hg:w.grownBy w1 (some g0)) (hne:g≠g0):C5 w1 g o a b c d e:=by
 have hb:w1.heap[g]?=w.heap[g]?:=hg.block g (World.block_lt_of_cell? w _ h.1.1) (by simpa using hne)
 obtain ⟨⟨h0,h1,h2,h3,h4⟩,f⟩:=h
 exact ⟨⟨(World.cell?_of_block hb).trans h0,(World.cell?_of_block hb).trans h1,(World.cell?_of_block hb).trans h2,(World.cell?_of_block hb).trans h3,(World.cell?_of_block hb).trans h4⟩,fun i=>(World.frozen?_of_block hb).trans (f i)⟩
theorem grown_below {w w1:World} {B g0:Nat} (h:w.grownBy w1 (some g0)) (hB:B≤g0) (hs:B≤w.heap.size):Below B w w1:=⟨h.os,h.tape,h.output,h.size,fun k hk=>h.block k (by omega) (by simp;omega)⟩
theorem has_on {w W W':World} {la:Option Addr} {l:List Int} (h:Has w la l) (hb:Below w.heap.size w W) (hg:W.grownBy W' (some (w.heap.size+1))):Has W' la l:=by
 rcases h with h | ⟨b,o,e,hc⟩
 · exact .inl h
 · refine .inr ⟨b,o,e,fun i hi=>?_⟩
   have hl:=World.block_lt_of_cell? w _ (hc i hi)
   have hs:=hb.size
   simp only at hl
   have h1:W'.heap[b]?=w.heap[b]?:=(hg.block b (by omega) (by simp;omega)).trans (hb.block b hl)
   rw [World.cell?_of_block (w:=w) (w':=W') (a:=⟨b,o+i,none⟩) h1]
   exact hc i hi
theorem own_grownE {w w':World} {B e g g1 cap n:Nat} {xs:List Value} (h:w.ownsRow B e 1 (.slice (some ⟨g,0,none⟩) n cap) n xs) (hg:w.grownBy w' (some g1)) (hne:g≠g1):w'.ownsRow B e 1 (.slice (some ⟨g,0,none⟩) n cap) n xs :=
 h.kept hg (.inr (by simp [Value.ownBlock,hne]))
def Out (w w':World) (v:Value) (L:List Int):Prop:=w'.ownsRow w.heap.size 5 1 v L.length (U L)∧Below w.heap.size w w'
theorem out_fin {w W W0:World} {v:Value} {n:Nat} {zs:List Value} {L:List Int} (h:W.ownsRow (w.heap.size+1) 5 1 v n zs) (hb:Below w.heap.size w W) (hn:n=L.length) (hz:zs=U L):Out w W v L:=by
 subst hn hz
 exact ⟨ownE_down h (by omega),hb⟩
open Go.RowKit Go.Sort
theorem s5_0 (op a b v:Int) (l:List Int) (la:Option Addr) (lc:Nat) (w:World) (hf:formR (rowOf op)=0) :
    Calls Tryz.prog 185 #[inV ⟨op,a,b,v,l⟩ la lc] w fun e w'=>∃ u,e=.returned u∧Out w w' u (op%256::encF (0) ⟨op,a,b,v,l⟩):=by
 obtain ⟨i0,hi,hz0,hz1,hz2⟩:=info_parts Tryz.info5
 have HF:=Hm (sform_c op)
 rw [hf] at HF
 obtain ⟨W,hW⟩:∃ W,W=(w.alloc (.cells #[.int .i64 op,.int .i64 a,.int .i64 b,.int .u64 v,.slice la l.length lc] 188)).alloc (.cells #[.int .u8 (op%256)] 5):=⟨_,rfl⟩
 obtain ⟨hC,hO,hB⟩:=two_new w (.int .i64 op) (.int .i64 a) (.int .i64 b) (.int .u64 v) (.slice la l.length lc) (op%256) 188
 rw [← hW] at hC hO hB
 have hws:w.heap.size+2=W.heap.size:=by rw [hW];simp
 have HW:=Hm hW
 obtain ⟨⟨c0,c1,c2,c3,c4⟩,cf⟩:=id hC
 have HC:=Hm hC
 have HO:=Hm hO
 have HB:=Hm hB
 clear hf hC hO hB hW cf
 go_enter Tryz.func185,Tryz.ntmps185
 go_wp2_with fail
 rw [show (w.alloc (.cells #[.int .i64 op,.int .i64 a,.int .i64 b,.int .u64 v,.slice la l.length lc] 188)).alloc (.cells #[.int .u8 (op%256)] 5)=W from HW.out.symm]
 refine (HF.out _).mono ?_
 rintro e w1 ⟨rfl,rfl⟩
 clear HF HW
 go_wp2_with fail
 go_ret
 exact ⟨_,rfl,out_fin (W0:=W) HO.out HB.out (by simp [encF]) (by simp [encF,U])⟩
theorem s5_1 (op a b v:Int) (l:List Int) (la:Option Addr) (lc:Nat) (w:World) (hf:formR (rowOf op)=1) :
    Calls Tryz.prog 185 #[inV ⟨op,a,b,v,l⟩ la lc] w fun e w'=>∃ u,e=.returned u∧Out w w' u (op%256::encF (1) ⟨op,a,b,v,l⟩):=by
 obtain ⟨i0,hi,hz0,hz1,hz2⟩:=info_parts Tryz.info5
 have HF:=Hm (sform_c op)
 rw [hf] at HF
 obtain ⟨W,hW⟩:∃ W,W=(w.alloc (.cells #[.int .i64 op,.int .i64 a,.int .i64 b,.int .u64 v,.slice la l.length lc] 188)).alloc (.cells #[.int .u8 (op%256)] 5):=⟨_,rfl⟩
 obtain ⟨hC,hO,hB⟩:=two_new w (.int .i64 op) (.int .i64 a) (.int .i64 b) (.int .u64 v) (.slice la l.length lc) (op%256) 188
 rw [← hW] at hC hO hB
 have hws:w.heap.size+2=W.heap.size:=by rw [hW];simp
 have HW:=Hm hW
 obtain ⟨⟨c0,c1,c2,c3,c4⟩,cf⟩:=id hC
 have HC:=Hm hC
 have HO:=Hm hO
 have HB:=Hm hB
 clear hf hC hO hB hW cf
 go_enter Tryz.func185,Tryz.ntmps185
 go_wp2_with fail
 rw [show (w.alloc (.cells #[.int .i64 op,.int .i64 a,.int .i64 b,.int .u64 v,.slice la l.length lc] 188)).alloc (.cells #[.int .u8 (op%256)] 5)=W from HW.out.symm]
 refine (HF.out _).mono ?_
 rintro e w1 ⟨rfl,rfl⟩
 clear HF HW
 go_wp2_with (at_builtin;refine wpList_append_own _ rfl _ _ 50 rfl (w.heap.size+1) 5 i0 (.int .u8 0) 1 1 Tryz.underlying50 hi hz0 hz1 hz2 rfl (by decide) _ _ _ rfl (HO.out.alloc _) ⟨W.heap.size,0,none⟩ 1 1 [.int .u8 (a%256)] rfl rfl (cell_one_new _ _ _) (oneB _) (by unfold maxLen;omega) (by omega) (by simp;omega) ?_;intro x1 wx1 ox1 gx1 nx1;have Ox1:=Hm ox1;have Bx1:=Hm (((Below.refl w.heap.size W).alloc (by omega) _).grown gx1 (by first | omega | (simp;omega)) (fun j hj=>by have:=((HO.out).lt j hj).1;omega));have zx1:=Bx1.out.size;clear ox1 gx1 nx1)
 go_ret
 exact ⟨_,rfl,out_fin (W0:=W) Ox1.out (HB.out.trans Bx1.out) (by simp [encF];try omega) (by simp [encF,U])⟩
theorem s5_6 (op a b v:Int) (l:List Int) (la:Option Addr) (lc:Nat) (w:World) (hf:formR (rowOf op)=6) :
    Calls Tryz.prog 185 #[inV ⟨op,a,b,v,l⟩ la lc] w fun e w'=>∃ u,e=.returned u∧Out w w' u (op%256::encF (6) ⟨op,a,b,v,l⟩):=by
 obtain ⟨i0,hi,hz0,hz1,hz2⟩:=info_parts Tryz.info5
 have HF:=Hm (sform_c op)
 rw [hf] at HF
 obtain ⟨W,hW⟩:∃ W,W=(w.alloc (.cells #[.int .i64 op,.int .i64 a,.int .i64 b,.int .u64 v,.slice la l.length lc] 188)).alloc (.cells #[.int .u8 (op%256)] 5):=⟨_,rfl⟩
 obtain ⟨hC,hO,hB⟩:=two_new w (.int .i64 op) (.int .i64 a) (.int .i64 b) (.int .u64 v) (.slice la l.length lc) (op%256) 188
 rw [← hW] at hC hO hB
 have hws:w.heap.size+2=W.heap.size:=by rw [hW];simp
 have HW:=Hm hW
 obtain ⟨⟨c0,c1,c2,c3,c4⟩,cf⟩:=id hC
 have HC:=Hm hC
 have HO:=Hm hO
 have HB:=Hm hB
 clear hf hC hO hB hW cf
 go_enter Tryz.func185,Tryz.ntmps185
 go_wp2_with fail
 rw [show (w.alloc (.cells #[.int .i64 op,.int .i64 a,.int .i64 b,.int .u64 v,.slice la l.length lc] 188)).alloc (.cells #[.int .u8 (op%256)] 5)=W from HW.out.symm]
 refine (HF.out _).mono ?_
 rintro e w1 ⟨rfl,rfl⟩
 clear HF HW
 go_wp2_with (at_builtin;refine wpList_append_own _ rfl _ _ 50 rfl (w.heap.size+1) 5 i0 (.int .u8 0) 1 1 Tryz.underlying50 hi hz0 hz1 hz2 rfl (by decide) _ _ _ rfl (HO.out.alloc _) ⟨W.heap.size,0,none⟩ 1 1 [.int .u8 (0)] rfl rfl (cell_one_new _ _ _) (oneB _) (by unfold maxLen;omega) (by omega) (by simp;omega) ?_;intro x1 wx1 ox1 gx1 nx1;have Ox1:=Hm ox1;have Bx1:=Hm (((Below.refl w.heap.size W).alloc (by omega) _).grown gx1 (by first | omega | (simp;omega)) (fun j hj=>by have:=((HO.out).lt j hj).1;omega));have zx1:=Bx1.out.size;clear ox1 gx1 nx1)
 go_ret
 exact ⟨_,rfl,out_fin (W0:=W) Ox1.out (HB.out.trans Bx1.out) (by simp [encF];try omega) (by simp [encF,U])⟩
theorem s5_2 (op a b v:Int) (l:List Int) (la:Option Addr) (lc:Nat) (w:World) (hf:formR (rowOf op)=2) (ha:0≤a) (ha1:a≤4294967295) :
    Calls Tryz.prog 185 #[inV ⟨op,a,b,v,l⟩ la lc] w fun e w'=>∃ u,e=.returned u∧Out w w' u (op%256::encF (2) ⟨op,a,b,v,l⟩):=by
 obtain ⟨i0,hi,hz0,hz1,hz2⟩:=info_parts Tryz.info5
 have HF:=Hm (sform_c op)
 rw [hf] at HF
 obtain ⟨W,hW⟩:∃ W,W=(w.alloc (.cells #[.int .i64 op,.int .i64 a,.int .i64 b,.int .u64 v,.slice la l.length lc] 188)).alloc (.cells #[.int .u8 (op%256)] 5):=⟨_,rfl⟩
 obtain ⟨hC,hO,hB⟩:=two_new w (.int .i64 op) (.int .i64 a) (.int .i64 b) (.int .u64 v) (.slice la l.length lc) (op%256) 188
 rw [← hW] at hC hO hB
 have hws:w.heap.size+2=W.heap.size:=by rw [hW];simp
 have hwa:IntKind.u64.wrap a=a:=by rw [IntKind.wrap_u64];omega
 have KP:=Hm (specPutU_any a W ha (by omega))
 have hyl:=lebU_len 9 a
 obtain ⟨hl0,hl1⟩:=hyl
 have hlU:(U (lebU 9 a)).length=(lebU 9 a).length*1:=by simp
 have HW:=Hm hW
 obtain ⟨⟨c0,c1,c2,c3,c4⟩,cf⟩:=id hC
 have HC:=Hm hC
 have HO:=Hm hO
 have HB:=Hm hB
 clear hf hC hO hB hW cf
 go_enter Tryz.func185,Tryz.ntmps185
 go_wp2_with fail
 rw [show (w.alloc (.cells #[.int .i64 op,.int .i64 a,.int .i64 b,.int .u64 v,.slice la l.length lc] 188)).alloc (.cells #[.int .u8 (op%256)] 5)=W from HW.out.symm]
 refine (HF.out _).mono ?_
 rintro e w1 ⟨rfl,rfl⟩
 clear HF HW
 go_wp2_with (first
  | (go_at_call 77;refine (KP.out).mono ?_;rintro e w2 ⟨v2,rfl,ho2,hb2⟩;obtain ⟨g,gc,rfl,hg,hg'⟩:=By.own_split ho2 hl0;have O2:=Hm (ownE_keep HO.out hb2 (Nat.le_refl _));have S2:=Hm (own_src ho2);have B2:=Hm hb2;have z2:=hb2.size;clear ho2 hb2 hg hg')
  | (at_builtin;refine wpList_append_own _ rfl _ _ 50 rfl (w.heap.size+1) 5 i0 (.int .u8 0) 1 1 Tryz.underlying50 hi hz0 hz1 hz2 rfl (by decide) _ _ _ rfl O2.out ⟨g,0,none⟩ (lebU 9 a).length gc (U (lebU 9 a)) rfl hlU S2.out (oneU _) (by unfold maxLen;omega) (by omega) (by omega) ?_;intro x1 wx1 ox1 gx1 nx1;have Ox1:=Hm ox1;have Bx1:=Hm ((B2.out.mono (show w.heap.size≤W.heap.size by omega)).grown gx1 (by first | omega | (simp;omega)) (fun j hj=>by have:=((O2.out).lt j hj).1;omega));have zx1:=Bx1.out.size;clear ox1 gx1 nx1))
 go_ret
 exact ⟨_,rfl,out_fin (W0:=W) Ox1.out (HB.out.trans Bx1.out) (by simp [encF];try omega) (by simp [encF,U])⟩
end Go.Proofs.YtdbmolambolmgaaGreat
namespace Go.Proofs.YtdbmolambolmgaaGreat
open Go.RowKit Go.Sort
set_option maxRecDepth 100000
theorem s5_4 (op a b v:Int) (l:List Int) (la:Option Addr) (lc:Nat) (w:World) (hf:formR (rowOf op)=4) (ha:0≤a) (ha1:a≤4294967295) :
    Calls Tryz.prog 185 #[inV ⟨op,a,b,v,l⟩ la lc] w fun e w'=>∃ u,e=.returned u∧Out w w' u (op%256::encF (4) ⟨op,a,b,v,l⟩):=by
 obtain ⟨i0,hi,hz0,hz1,hz2⟩:=info_parts Tryz.info5
 have HF:=Hm (sform_c op)
 rw [hf] at HF
 obtain ⟨W,hW⟩:∃ W,W=(w.alloc (.cells #[.int .i64 op,.int .i64 a,.int .i64 b,.int .u64 v,.slice la l.length lc] 188)).alloc (.cells #[.int .u8 (op%256)] 5):=⟨_,rfl⟩
 obtain ⟨hC,hO,hB⟩:=two_new w (.int .i64 op) (.int .i64 a) (.int .i64 b) (.int .u64 v) (.slice la l.length lc) (op%256) 188
 rw [← hW] at hC hO hB
 have hws:w.heap.size+2=W.heap.size:=by rw [hW];simp
 have hwa:IntKind.u64.wrap a=a:=by rw [IntKind.wrap_u64];omega
 have KP:=Hm (specPutU_any a W ha (by omega))
 have hyl:=lebU_len 9 a
 obtain ⟨hl0,hl1⟩:=hyl
 have hlU:(U (lebU 9 a)).length=(lebU 9 a).length*1:=by simp
 have HW:=Hm hW
 obtain ⟨⟨c0,c1,c2,c3,c4⟩,cf⟩:=id hC
 have HC:=Hm hC
 have HO:=Hm hO
 have HB:=Hm hB
 clear hf hC hO hB hW cf
 go_enter Tryz.func185,Tryz.ntmps185
 go_wp2_with fail
 rw [show (w.alloc (.cells #[.int .i64 op,.int .i64 a,.int .i64 b,.int .u64 v,.slice la l.length lc] 188)).alloc (.cells #[.int .u8 (op%256)] 5)=W from HW.out.symm]
 refine (HF.out _).mono ?_
 rintro e w1 ⟨rfl,rfl⟩
 clear HF HW
 go_wp2_with (first
  | (go_at_call 77;refine (KP.out).mono ?_;rintro e w2 ⟨v2,rfl,ho2,hb2⟩;obtain ⟨g,gc,rfl,hg,hg'⟩:=By.own_split ho2 hl0;have O2:=Hm (ownE_keep HO.out hb2 (Nat.le_refl _));have S2:=Hm (own_src ho2);have B2:=Hm hb2;have z2:=hb2.size;clear ho2 hb2 hg hg')
  | (at_builtin;refine wpList_append_own _ rfl _ _ 50 rfl (w.heap.size+1) 5 i0 (.int .u8 0) 1 1 Tryz.underlying50 hi hz0 hz1 hz2 rfl (by decide) _ _ _ rfl O2.out ⟨g,0,none⟩ (lebU 9 a).length gc (U (lebU 9 a)) rfl hlU S2.out (oneU _) (by unfold maxLen;omega) (by omega) (by omega) ?_;intro x1 wx1 ox1 gx1 nx1;have Ox1:=Hm ox1;have Bx1:=Hm ((B2.out.mono (show w.heap.size≤W.heap.size by omega)).grown gx1 (by first | omega | (simp;omega)) (fun j hj=>by have:=((O2.out).lt j hj).1;omega));have zx1:=Bx1.out.size;clear ox1 gx1 nx1)
  | (at_builtin;refine wpList_append_own _ rfl _ _ 50 rfl (w.heap.size+1) 5 i0 (.int .u8 0) 1 1 Tryz.underlying50 hi hz0 hz1 hz2 rfl (by decide) _ _ _ rfl (Ox1.out.alloc _) ⟨wx1.heap.size,0,none⟩ 1 1 [.int .u8 0] rfl rfl (cell_one_new _ _ _) (oneB _) (by unfold maxLen;omega) (by omega) (by have:=Bx1.out.size;simp;omega) ?_;intro x2 wx2 ox2 gx2 nx2;have Ox2:=Hm ox2;have Bx2:=Hm ((Bx1.out.alloc (by have:=Bx1.out.size;omega) _).grown gx2 (by first | omega | (simp;omega)) (fun j hj=>by have:=((Ox1.out).lt j hj).1;omega));have zx2:=Bx2.out.size;clear ox2 gx2 nx2))
 go_ret
 exact ⟨_,rfl,out_fin (W0:=W) Ox2.out (HB.out.trans Bx2.out) (by simp [encF];try omega) (by simp [encF,U])⟩
theorem s5_8 (op a b v:Int) (l:List Int) (la:Option Addr) (lc:Nat) (w:World) (hf:formR (rowOf op)=8) (hv:0≤v) (hv1:v≤18446744073709551615) :
    Calls Tryz.prog 185 #[inV ⟨op,a,b,v,l⟩ la lc] w fun e w'=>∃ u,e=.returned u∧Out w w' u (op%256::encF (8) ⟨op,a,b,v,l⟩):=by
 obtain ⟨i0,hi,hz0,hz1,hz2⟩:=info_parts Tryz.info5
 have HF:=Hm (sform_c op)
 rw [hf] at HF
 obtain ⟨W,hW⟩:∃ W,W=(w.alloc (.cells #[.int .i64 op,.int .i64 a,.int .i64 b,.int .u64 v,.slice la l.length lc] 188)).alloc (.cells #[.int .u8 (op%256)] 5):=⟨_,rfl⟩
 obtain ⟨hC,hO,hB⟩:=two_new w (.int .i64 op) (.int .i64 a) (.int .i64 b) (.int .u64 v) (.slice la l.length lc) (op%256) 188
 rw [← hW] at hC hO hB
 have hws:w.heap.size+2=W.heap.size:=by rw [hW];simp
 have KP:=Hm (specPutS_any (wrap64 v) W (by unfold wrap64;omega) (by unfold wrap64;omega))
 have hyl:=lebS_len 9 (wrap64 v)
 obtain ⟨hl0,hl1⟩:=hyl
 have hlU:(U (lebS 9 (wrap64 v))).length=(lebS 9 (wrap64 v)).length*1:=by simp
 have HW:=Hm hW
 obtain ⟨⟨c0,c1,c2,c3,c4⟩,cf⟩:=id hC
 have HC:=Hm hC
 have HO:=Hm hO
 have HB:=Hm hB
 clear hf hC hO hB hW cf
 go_enter Tryz.func185,Tryz.ntmps185
 go_wp2_with fail
 rw [show (w.alloc (.cells #[.int .i64 op,.int .i64 a,.int .i64 b,.int .u64 v,.slice la l.length lc] 188)).alloc (.cells #[.int .u8 (op%256)] 5)=W from HW.out.symm]
 refine (HF.out _).mono ?_
 rintro e w1 ⟨rfl,rfl⟩
 clear HF HW
 go_wp2_with (first
  | (go_at_call 222;refine (KP.out).mono ?_;rintro e w2 ⟨v2,rfl,ho2,hb2⟩;obtain ⟨g,gc,rfl,hg,hg'⟩:=By.own_split ho2 hl0;have O2:=Hm (ownE_keep HO.out hb2 (Nat.le_refl _));have S2:=Hm (own_src ho2);have B2:=Hm hb2;have z2:=hb2.size;clear ho2 hb2 hg hg')
  | (at_builtin;refine wpList_append_own _ rfl _ _ 50 rfl (w.heap.size+1) 5 i0 (.int .u8 0) 1 1 Tryz.underlying50 hi hz0 hz1 hz2 rfl (by decide) _ _ _ rfl O2.out ⟨g,0,none⟩ (lebS 9 (wrap64 v)).length gc (U (lebS 9 (wrap64 v))) rfl hlU S2.out (oneU _) (by unfold maxLen;omega) (by omega) (by omega) ?_;intro x1 wx1 ox1 gx1 nx1;have Ox1:=Hm ox1;have Bx1:=Hm ((B2.out.mono (show w.heap.size≤W.heap.size by omega)).grown gx1 (by first | omega | (simp;omega)) (fun j hj=>by have:=((O2.out).lt j hj).1;omega));have zx1:=Bx1.out.size;clear ox1 gx1 nx1))
 go_ret
 exact ⟨_,rfl,out_fin (W0:=W) Ox1.out (HB.out.trans Bx1.out) (by simp [encF];try omega) (by simp [encF,U])⟩
theorem s5_7 (op a b v:Int) (l:List Int) (la:Option Addr) (lc:Nat) (w:World) (hf:formR (rowOf op)=7) (hv:0≤v) (hv1:v≤4294967295) :
    Calls Tryz.prog 185 #[inV ⟨op,a,b,v,l⟩ la lc] w fun e w'=>∃ u,e=.returned u∧Out w w' u (op%256::encF (7) ⟨op,a,b,v,l⟩):=by
 obtain ⟨i0,hi,hz0,hz1,hz2⟩:=info_parts Tryz.info5
 have HF:=Hm (sform_c op)
 rw [hf] at HF
 obtain ⟨W,hW⟩:∃ W,W=(w.alloc (.cells #[.int .i64 op,.int .i64 a,.int .i64 b,.int .u64 v,.slice la l.length lc] 188)).alloc (.cells #[.int .u8 (op%256)] 5):=⟨_,rfl⟩
 obtain ⟨hC,hO,hB⟩:=two_new w (.int .i64 op) (.int .i64 a) (.int .i64 b) (.int .u64 v) (.slice la l.length lc) (op%256) 188
 rw [← hW] at hC hO hB
 have hws:w.heap.size+2=W.heap.size:=by rw [hW];simp
 have hs32:wrap32 v=s32 v:=by unfold wrap32 s32;split <;> omega
 have KS:=Hm (signed32 v W hv hv1)
 rw [hs32] at KS
 clear hs32
 have KP:=Hm (specPutS_any (s32 v) W (by unfold s32;split <;> omega) (by unfold s32;split <;> omega))
 have hyl:=lebS_len 9 (s32 v)
 obtain ⟨hl0,hl1⟩:=hyl
 have hlU:(U (lebS 9 (s32 v))).length=(lebS 9 (s32 v)).length*1:=by simp
 have HW:=Hm hW
 obtain ⟨⟨c0,c1,c2,c3,c4⟩,cf⟩:=id hC
 have HC:=Hm hC
 have HO:=Hm hO
 have HB:=Hm hB
 clear hf hC hO hB hW cf
 go_enter Tryz.func185,Tryz.ntmps185
 go_wp2_with fail
 rw [show (w.alloc (.cells #[.int .i64 op,.int .i64 a,.int .i64 b,.int .u64 v,.slice la l.length lc] 188)).alloc (.cells #[.int .u8 (op%256)] 5)=W from HW.out.symm]
 refine (HF.out _).mono ?_
 rintro e w1 ⟨rfl,rfl⟩
 clear HF HW
 go_wp2_with (first
  | (go_at_call 223;refine (KS.out).mono ?_;rintro e w2 ⟨rfl,rfl⟩)
  | (go_at_call 222;refine (KP.out).mono ?_;rintro e w2 ⟨v2,rfl,ho2,hb2⟩;obtain ⟨g,gc,rfl,hg,hg'⟩:=By.own_split ho2 hl0;have O2:=Hm (ownE_keep HO.out hb2 (Nat.le_refl _));have S2:=Hm (own_src ho2);have B2:=Hm hb2;have z2:=hb2.size;clear ho2 hb2 hg hg')
  | (at_builtin;refine wpList_append_own _ rfl _ _ 50 rfl (w.heap.size+1) 5 i0 (.int .u8 0) 1 1 Tryz.underlying50 hi hz0 hz1 hz2 rfl (by decide) _ _ _ rfl O2.out ⟨g,0,none⟩ (lebS 9 (s32 v)).length gc (U (lebS 9 (s32 v))) rfl hlU S2.out (oneU _) (by unfold maxLen;omega) (by omega) (by omega) ?_;intro x1 wx1 ox1 gx1 nx1;have Ox1:=Hm ox1;have Bx1:=Hm ((B2.out.mono (show w.heap.size≤W.heap.size by omega)).grown gx1 (by first | omega | (simp;omega)) (fun j hj=>by have:=((O2.out).lt j hj).1;omega));have zx1:=Bx1.out.size;clear ox1 gx1 nx1))
 go_ret
 exact ⟨_,rfl,out_fin (W0:=W) Ox1.out (HB.out.trans Bx1.out) (by simp [encF];try omega) (by simp [encF,U])⟩
end Go.Proofs.YtdbmolambolmgaaGreat
namespace Go.Proofs.YtdbmolambolmgaaGreat
open Go.RowKit Go.Sort
set_option maxRecDepth 100000
theorem s5_9 (op a b v:Int) (l:List Int) (la:Option Addr) (lc:Nat) (w:World) (hf:formR (rowOf op)=9) (hv:0≤v) (hv1:v≤18446744073709551615) :
    Calls Tryz.prog 185 #[inV ⟨op,a,b,v,l⟩ la lc] w fun e w'=>∃ u,e=.returned u∧Out w w' u (op%256::encF (9) ⟨op,a,b,v,l⟩):=by
 obtain ⟨i0,hi,hz0,hz1,hz2⟩:=info_parts Tryz.info5
 have HF:=Hm (sform_c op)
 rw [hf] at HF
 obtain ⟨W,hW⟩:∃ W,W=(w.alloc (.cells #[.int .i64 op,.int .i64 a,.int .i64 b,.int .u64 v,.slice la l.length lc] 188)).alloc (.cells #[.int .u8 (op%256)] 5):=⟨_,rfl⟩
 obtain ⟨hC,hO,hB⟩:=two_new w (.int .i64 op) (.int .i64 a) (.int .i64 b) (.int .u64 v) (.slice la l.length lc) (op%256) 188
 rw [← hW] at hC hO hB
 have hws:w.heap.size+2=W.heap.size:=by rw [hW];simp
 have KP:=Hm (sfix_c v 4 W (by omega) hv hv1)
 have hyl:=(show 1≤(fx 4 v).length∧(fx 4 v).length≤10 by rw [fx_len];omega)
 obtain ⟨hl0,hl1⟩:=hyl
 have hlU:(U (fx 4 v)).length=(fx 4 v).length*1:=by simp
 have HW:=Hm hW
 obtain ⟨⟨c0,c1,c2,c3,c4⟩,cf⟩:=id hC
 have HC:=Hm hC
 have HO:=Hm hO
 have HB:=Hm hB
 clear hf hC hO hB hW cf
 go_enter Tryz.func185,Tryz.ntmps185
 go_wp2_with fail
 rw [show (w.alloc (.cells #[.int .i64 op,.int .i64 a,.int .i64 b,.int .u64 v,.slice la l.length lc] 188)).alloc (.cells #[.int .u8 (op%256)] 5)=W from HW.out.symm]
 refine (HF.out _).mono ?_
 rintro e w1 ⟨rfl,rfl⟩
 clear HF HW
 go_wp2_with (first
  | (go_at_call 224;refine (KP.out).mono ?_;rintro e w2 ⟨v2,rfl,ho2,hb2⟩;obtain ⟨g,gc,rfl,hg,hg'⟩:=By.own_split ho2 hl0;have O2:=Hm (ownE_keep HO.out hb2 (Nat.le_refl _));have S2:=Hm (own_src ho2);have B2:=Hm hb2;have z2:=hb2.size;clear ho2 hb2 hg hg')
  | (at_builtin;refine wpList_append_own _ rfl _ _ 50 rfl (w.heap.size+1) 5 i0 (.int .u8 0) 1 1 Tryz.underlying50 hi hz0 hz1 hz2 rfl (by decide) _ _ _ rfl O2.out ⟨g,0,none⟩ (fx 4 v).length gc (U (fx 4 v)) rfl hlU S2.out (oneU _) (by unfold maxLen;omega) (by omega) (by omega) ?_;intro x1 wx1 ox1 gx1 nx1;have Ox1:=Hm ox1;have Bx1:=Hm ((B2.out.mono (show w.heap.size≤W.heap.size by omega)).grown gx1 (by first | omega | (simp;omega)) (fun j hj=>by have:=((O2.out).lt j hj).1;omega));have zx1:=Bx1.out.size;clear ox1 gx1 nx1))
 go_ret
 exact ⟨_,rfl,out_fin (W0:=W) Ox1.out (HB.out.trans Bx1.out) (by simp [encF];try omega) (by simp [encF,U])⟩
theorem s5_10 (op a b v:Int) (l:List Int) (la:Option Addr) (lc:Nat) (w:World) (hf:formR (rowOf op)=10) (hv:0≤v) (hv1:v≤18446744073709551615) :
    Calls Tryz.prog 185 #[inV ⟨op,a,b,v,l⟩ la lc] w fun e w'=>∃ u,e=.returned u∧Out w w' u (op%256::encF (10) ⟨op,a,b,v,l⟩):=by
 obtain ⟨i0,hi,hz0,hz1,hz2⟩:=info_parts Tryz.info5
 have HF:=Hm (sform_c op)
 rw [hf] at HF
 obtain ⟨W,hW⟩:∃ W,W=(w.alloc (.cells #[.int .i64 op,.int .i64 a,.int .i64 b,.int .u64 v,.slice la l.length lc] 188)).alloc (.cells #[.int .u8 (op%256)] 5):=⟨_,rfl⟩
 obtain ⟨hC,hO,hB⟩:=two_new w (.int .i64 op) (.int .i64 a) (.int .i64 b) (.int .u64 v) (.slice la l.length lc) (op%256) 188
 rw [← hW] at hC hO hB
 have hws:w.heap.size+2=W.heap.size:=by rw [hW];simp
 have KP:=Hm (sfix_c v 8 W (by omega) hv hv1)
 have hyl:=(show 1≤(fx 8 v).length∧(fx 8 v).length≤10 by rw [fx_len];omega)
 obtain ⟨hl0,hl1⟩:=hyl
 have hlU:(U (fx 8 v)).length=(fx 8 v).length*1:=by simp
 have HW:=Hm hW
 obtain ⟨⟨c0,c1,c2,c3,c4⟩,cf⟩:=id hC
 have HC:=Hm hC
 have HO:=Hm hO
 have HB:=Hm hB
 clear hf hC hO hB hW cf
 go_enter Tryz.func185,Tryz.ntmps185
 go_wp2_with fail
 rw [show (w.alloc (.cells #[.int .i64 op,.int .i64 a,.int .i64 b,.int .u64 v,.slice la l.length lc] 188)).alloc (.cells #[.int .u8 (op%256)] 5)=W from HW.out.symm]
 refine (HF.out _).mono ?_
 rintro e w1 ⟨rfl,rfl⟩
 clear HF HW
 go_wp2_with (first
  | (go_at_call 224;refine (KP.out).mono ?_;rintro e w2 ⟨v2,rfl,ho2,hb2⟩;obtain ⟨g,gc,rfl,hg,hg'⟩:=By.own_split ho2 hl0;have O2:=Hm (ownE_keep HO.out hb2 (Nat.le_refl _));have S2:=Hm (own_src ho2);have B2:=Hm hb2;have z2:=hb2.size;clear ho2 hb2 hg hg')
  | (at_builtin;refine wpList_append_own _ rfl _ _ 50 rfl (w.heap.size+1) 5 i0 (.int .u8 0) 1 1 Tryz.underlying50 hi hz0 hz1 hz2 rfl (by decide) _ _ _ rfl O2.out ⟨g,0,none⟩ (fx 8 v).length gc (U (fx 8 v)) rfl hlU S2.out (oneU _) (by unfold maxLen;omega) (by omega) (by omega) ?_;intro x1 wx1 ox1 gx1 nx1;have Ox1:=Hm ox1;have Bx1:=Hm ((B2.out.mono (show w.heap.size≤W.heap.size by omega)).grown gx1 (by first | omega | (simp;omega)) (fun j hj=>by have:=((O2.out).lt j hj).1;omega));have zx1:=Bx1.out.size;clear ox1 gx1 nx1))
 go_ret
 exact ⟨_,rfl,out_fin (W0:=W) Ox1.out (HB.out.trans Bx1.out) (by simp [encF];try omega) (by simp [encF,U])⟩
end Go.Proofs.YtdbmolambolmgaaGreat
namespace Go.Proofs.YtdbmolambolmgaaGreat
open Go.RowKit Go.Sort
set_option maxRecDepth 100000
theorem s5_5 (op a b v:Int) (l:List Int) (la:Option Addr) (lc:Nat) (w:World) (hf:formR (rowOf op)=5) (ha:0≤a) (ha1:a≤4294967295) (hb:0≤b) (hb1:b≤4294967295) :
    Calls Tryz.prog 185 #[inV ⟨op,a,b,v,l⟩ la lc] w fun e w'=>∃ u,e=.returned u∧Out w w' u (op%256::encF (5) ⟨op,a,b,v,l⟩):=by
 obtain ⟨i0,hi,hz0,hz1,hz2⟩:=info_parts Tryz.info5
 have HF:=Hm (sform_c op)
 rw [hf] at HF
 obtain ⟨W,hW⟩:∃ W,W=(w.alloc (.cells #[.int .i64 op,.int .i64 a,.int .i64 b,.int .u64 v,.slice la l.length lc] 188)).alloc (.cells #[.int .u8 (op%256)] 5):=⟨_,rfl⟩
 obtain ⟨hC,hO,hB⟩:=two_new w (.int .i64 op) (.int .i64 a) (.int .i64 b) (.int .u64 v) (.slice la l.length lc) (op%256) 188
 rw [← hW] at hC hO hB
 have hws:w.heap.size+2=W.heap.size:=by rw [hW];simp
 have hwa:IntKind.u64.wrap a=a:=by rw [IntKind.wrap_u64];omega
 have hwb:IntKind.u64.wrap b=b:=by rw [IntKind.wrap_u64];omega
 have KA:=Hm (fun W=>specPutU_any a W ha (by omega))
 have KB:=Hm (fun W=>specPutU_any b W hb (by omega))
 have hla:=lebU_len 9 a
 have hlb:=lebU_len 9 b
 have HW:=Hm hW
 obtain ⟨⟨c0,c1,c2,c3,c4⟩,cf⟩:=id hC
 have HC:=Hm hC
 have HO:=Hm hO
 have HB:=Hm hB
 clear hf hC hO hB hW cf
 go_enter Tryz.func185,Tryz.ntmps185
 go_wp2_with fail
 rw [show (w.alloc (.cells #[.int .i64 op,.int .i64 a,.int .i64 b,.int .u64 v,.slice la l.length lc] 188)).alloc (.cells #[.int .u8 (op%256)] 5)=W from HW.out.symm]
 refine (HF.out _).mono ?_
 rintro e w1 ⟨rfl,rfl⟩
 clear HF HW
 have R:=Hm (show W.grownBy W.drew (some (w.heap.size+1)) from ⟨rfl,rfl,rfl,Nat.le_refl _,fun _ _ _=>rfl⟩)
 have OC:=Hm (show W.drew.ownsRow (w.heap.size+1) 5 1 (.slice (some ⟨w.heap.size+1,0,none⟩) 1 1) 1 (U [op%256]) from HO.out)
 have k1:W.drew.cell? ⟨w.heap.size,1,none⟩=some (.int .i64 a):=c1
 have k2:W.drew.cell? ⟨w.heap.size,2,none⟩=some (.int .i64 b):=c2
 have k4:W.drew.cell? ⟨w.heap.size,4,none⟩=some (.slice la l.length lc):=c4
 go_wp2_with fail
 go_region_held3 (fun w'=>w'.cell? ⟨w.heap.size,1,none⟩=some (.int .i64 a)∧w'.cell? ⟨w.heap.size,2,none⟩=some (.int .i64 b)∧w'.cell? ⟨w.heap.size,4,none⟩=some (.slice la l.length lc)) (exact ⟨k1,k2,k4⟩)
  (first
   | (refine step_append_src rfl (.tmp 51) (.tmp 55) 50 rfl (w.heap.size+1) 5 i0 (.int .u8 0) 1 1 Tryz.underlying50 hi hz0 hz1 hz2 rfl (by decide) (.slice (some ⟨w.heap.size+1,0,none⟩) 1 1) 1 (U [op%256]) (by simp [Act.eval,Act.put]) OC.out ⟨gA,0,none⟩ (lebU 9 a).length gcA (U (lebU 9 a)) (by simp [Act.eval,Act.put]) (by simp) (own_src (own_grownE WA.out RA.out hqA.out)) (oneU _) (by simp only [maxLen];omega) (by omega) (by have:=R.out.size;omega) ?_
      intro vx wx ox gx lx
      have st:=Hm (show World.grownBy _ wx (some (w.heap.size+1)) from gx)
      replace R:=Hm (grown_trans R.out st.out)
      (try replace RB:=Hm (grown_trans RB.out st.out))
      have OX:=Hm ox
      clear OC
      have bx:=Hm (grown_c5 HC.out R.out (by omega))
      have k1:wx.cell? ⟨w.heap.size,1,none⟩=some (.int .i64 a):=bx.out.1.2.1
      have k2:wx.cell? ⟨w.heap.size,2,none⟩=some (.int .i64 b):=bx.out.1.2.2.1
      have k4:wx.cell? ⟨w.heap.size,4,none⟩=some (.slice la l.length lc):=bx.out.1.2.2.2.2
      clear ox gx lx st bx)
   | (refine step_append_src rfl (.tmp 56) (.tmp 60) 50 rfl (w.heap.size+1) 5 i0 (.int .u8 0) 1 1 Tryz.underlying50 hi hz0 hz1 hz2 rfl (by decide) vx (1+(lebU 9 a).length) (U [op%256]++U (lebU 9 a)) (by simp [Act.eval,Act.put]) OX.out ⟨gB,0,none⟩ (lebU 9 b).length gcB (U (lebU 9 b)) (by simp [Act.eval,Act.put]) (by simp) (own_src (own_grownE WB.out RB.out hqB.out)) (oneU _) (by simp only [maxLen];omega) (by omega) (by have:=R.out.size;omega) ?_
      intro vy wy oy gy ly
      have OY:=Hm oy
      have bx:=Hm (grown_c5 HC.out R.out (by omega))
      have hgy:=Hm (fun o:Nat=>World.cell?_of_block (a:=⟨w.heap.size,o,none⟩) (gy.block w.heap.size (World.block_lt_of_cell? _ _ bx.out.1.1) (fun e=>by have:=(OX.out.lt _ e.symm).1;omega)))
      have k1:wy.cell? ⟨w.heap.size,1,none⟩=some (.int .i64 a):=(hgy.out 1).trans bx.out.1.2.1
      have k2:wy.cell? ⟨w.heap.size,2,none⟩=some (.int .i64 b):=(hgy.out 2).trans bx.out.1.2.2.1
      have k4:wy.cell? ⟨w.heap.size,4,none⟩=some (.slice la l.length lc):=(hgy.out 4).trans bx.out.1.2.2.2.2
      have BY:=Hm ((HB.out.trans (grown_below R.out (show w.heap.size≤w.heap.size+1 by omega) (by show w.heap.size≤W.heap.size;omega))).grown gy (by have:=R.out.size;omega) (fun j hj=>by have:=(OX.out.lt j hj).1;omega))
      clear oy gy ly hgy bx)
   | (go_at_call_of 77 (Value.int IntKind.u64 a)
      refine (KA.out _).mono ?_
      rintro e wn ⟨vn,rfl,hon,hbn⟩
      obtain ⟨gA,gcA,rfl,hgA,hgA'⟩:=By.own_split hon hla.1
      have st:=Hm (below_grown hbn (some (w.heap.size+1)))
      have hz:=R.out.size
      replace R:=Hm (grown_trans R.out st.out)
      (try replace RA:=Hm (grown_trans RA.out st.out))
      (try replace RB:=Hm (grown_trans RB.out st.out))
      (try replace OX:=Hm (ownE_keep OX.out hbn (Nat.le_refl _)))
      (try replace OC:=Hm (ownE_keep OC.out hbn (Nat.le_refl _)))
      have WA:=Hm hon
      have RA:=Hm (World.grownBy.refl wn (some (w.heap.size+1)))
      have hqA:Hid (gA≠w.heap.size+1):=by show _≠_;omega
      have bx:=Hm (grown_c5 HC.out R.out (by omega))
      have k1:wn.cell? ⟨w.heap.size,1,none⟩=some (.int .i64 a):=bx.out.1.2.1
      have k2:wn.cell? ⟨w.heap.size,2,none⟩=some (.int .i64 b):=bx.out.1.2.2.1
      have k4:wn.cell? ⟨w.heap.size,4,none⟩=some (.slice la l.length lc):=bx.out.1.2.2.2.2
      clear hon hbn st bx hz hgA hgA')
   | (go_at_call_of 77 (Value.int IntKind.u64 b)
      refine (KB.out _).mono ?_
      rintro e wn ⟨vn,rfl,hon,hbn⟩
      obtain ⟨gB,gcB,rfl,hgB,hgB'⟩:=By.own_split hon hlb.1
      have st:=Hm (below_grown hbn (some (w.heap.size+1)))
      have hz:=R.out.size
      replace R:=Hm (grown_trans R.out st.out)
      (try replace RA:=Hm (grown_trans RA.out st.out))
      (try replace RB:=Hm (grown_trans RB.out st.out))
      (try replace OX:=Hm (ownE_keep OX.out hbn (Nat.le_refl _)))
      (try replace OC:=Hm (ownE_keep OC.out hbn (Nat.le_refl _)))
      have WB:=Hm hon
      have RB:=Hm (World.grownBy.refl wn (some (w.heap.size+1)))
      have hqB:Hid (gB≠w.heap.size+1):=by show _≠_;omega
      have bx:=Hm (grown_c5 HC.out R.out (by omega))
      have k1:wn.cell? ⟨w.heap.size,1,none⟩=some (.int .i64 a):=bx.out.1.2.1
      have k2:wn.cell? ⟨w.heap.size,2,none⟩=some (.int .i64 b):=bx.out.1.2.2.1
      have k4:wn.cell? ⟨w.heap.size,4,none⟩=some (.slice la l.length lc):=bx.out.1.2.2.2.2
      clear hon hbn st bx hz hgB hgB'))
 all_goals
  go_wp2_with fail
  go_ret
  exact ⟨_,rfl,out_fin (W0:=W) OY.out BY.out (by simp [encF];try omega) (by simp [encF,U])⟩
end Go.Proofs.YtdbmolambolmgaaGreat
namespace Go.Proofs.YtdbmolambolmgaaGreat
open Go.RowKit Go.Sort
set_option maxRecDepth 100000
theorem s5_3 (op a b v:Int) (l:List Int) (la:Option Addr) (lc:Nat) (w:World) (hf:formR (rowOf op)=3) (ha:0≤a) (ha1:a≤4294967295) (hn:l.length≤1048576) (hu:∀ i,i<l.length→0≤l.getD i 0∧l.getD i 0≤4294967295) (hH:Has w la l) :
    Calls Tryz.prog 185 #[inV ⟨op,a,b,v,l⟩ la lc] w fun e w'=>∃ u,e=.returned u∧Out w w' u (op%256::encF (3) ⟨op,a,b,v,l⟩):=by
 obtain ⟨i0,hi,hz0,hz1,hz2⟩:=info_parts Tryz.info5
 have HF:=Hm (sform_c op)
 rw [hf] at HF
 obtain ⟨W,hW⟩:∃ W,W=(w.alloc (.cells #[.int .i64 op,.int .i64 a,.int .i64 b,.int .u64 v,.slice la l.length lc] 188)).alloc (.cells #[.int .u8 (op%256)] 5):=⟨_,rfl⟩
 obtain ⟨hC,hO,hB⟩:=two_new w (.int .i64 op) (.int .i64 a) (.int .i64 b) (.int .u64 v) (.slice la l.length lc) (op%256) 188
 rw [← hW] at hC hO hB
 have hws:w.heap.size+2=W.heap.size:=by rw [hW];simp
 have hwa:IntKind.u64.wrap a=a:=by rw [IntKind.wrap_u64];omega
 have KA:Hid (∀ W',W.grownBy W' (some (w.heap.size+1))→_):=fun W' hg=>snums_c l la lc W' hn hu (has_on hH hB hg)
 have KB:=Hm (fun W=>specPutU_any a W ha (by omega))
 have hla:1≤(lebU 9 l.length++nums l).length∧(lebU 9 l.length++nums l).length≤20971520:=by
  have:=lebU_len 9 l.length
  have:=nums_len l
  simp only [List.length_append];omega
 have hlb:=lebU_len 9 a
 clear hH hu
 have HW:=Hm hW
 obtain ⟨⟨c0,c1,c2,c3,c4⟩,cf⟩:=id hC
 have HC:=Hm hC
 have HO:=Hm hO
 have HB:=Hm hB
 clear hf hC hO hB hW cf
 go_enter Tryz.func185,Tryz.ntmps185
 go_wp2_with fail
 rw [show (w.alloc (.cells #[.int .i64 op,.int .i64 a,.int .i64 b,.int .u64 v,.slice la l.length lc] 188)).alloc (.cells #[.int .u8 (op%256)] 5)=W from HW.out.symm]
 refine (HF.out _).mono ?_
 rintro e w1 ⟨rfl,rfl⟩
 clear HF HW
 have R:=Hm (show W.grownBy W.drew (some (w.heap.size+1)) from ⟨rfl,rfl,rfl,Nat.le_refl _,fun _ _ _=>rfl⟩)
 have OC:=Hm (show W.drew.ownsRow (w.heap.size+1) 5 1 (.slice (some ⟨w.heap.size+1,0,none⟩) 1 1) 1 (U [op%256]) from HO.out)
 have k1:W.drew.cell? ⟨w.heap.size,1,none⟩=some (.int .i64 a):=c1
 have k2:W.drew.cell? ⟨w.heap.size,2,none⟩=some (.int .i64 b):=c2
 have k4:W.drew.cell? ⟨w.heap.size,4,none⟩=some (.slice la l.length lc):=c4
 go_wp2_with fail
 go_region_held3 (fun w'=>w'.cell? ⟨w.heap.size,1,none⟩=some (.int .i64 a)∧w'.cell? ⟨w.heap.size,2,none⟩=some (.int .i64 b)∧w'.cell? ⟨w.heap.size,4,none⟩=some (.slice la l.length lc)) (exact ⟨k1,k2,k4⟩)
  (first
   | (refine step_append_src rfl (.tmp 29) (.tmp 32) 50 rfl (w.heap.size+1) 5 i0 (.int .u8 0) 1 1 Tryz.underlying50 hi hz0 hz1 hz2 rfl (by decide) (.slice (some ⟨w.heap.size+1,0,none⟩) 1 1) 1 (U [op%256]) (by simp [Act.eval,Act.put]) OC.out ⟨gA,0,none⟩ (lebU 9 l.length++nums l).length gcA (U (lebU 9 l.length++nums l)) (by simp [Act.eval,Act.put]) (by simp) (own_src (own_grownE WA.out RA.out hqA.out)) (oneU _) (by simp only [maxLen];omega) (by omega) (by have:=R.out.size;omega) ?_
      intro vx wx ox gx lx
      have st:=Hm (show World.grownBy _ wx (some (w.heap.size+1)) from gx)
      replace R:=Hm (grown_trans R.out st.out)
      (try replace RB:=Hm (grown_trans RB.out st.out))
      have OX:=Hm ox
      clear OC
      have bx:=Hm (grown_c5 HC.out R.out (by omega))
      have k1:wx.cell? ⟨w.heap.size,1,none⟩=some (.int .i64 a):=bx.out.1.2.1
      have k2:wx.cell? ⟨w.heap.size,2,none⟩=some (.int .i64 b):=bx.out.1.2.2.1
      have k4:wx.cell? ⟨w.heap.size,4,none⟩=some (.slice la l.length lc):=bx.out.1.2.2.2.2
      clear ox gx lx st bx)
   | (refine step_append_src rfl (.tmp 33) (.tmp 37) 50 rfl (w.heap.size+1) 5 i0 (.int .u8 0) 1 1 Tryz.underlying50 hi hz0 hz1 hz2 rfl (by decide) vx (1+(lebU 9 l.length++nums l).length) (U [op%256]++U (lebU 9 l.length++nums l)) (by simp [Act.eval,Act.put]) OX.out ⟨gB,0,none⟩ (lebU 9 a).length gcB (U (lebU 9 a)) (by simp [Act.eval,Act.put]) (by simp) (own_src (own_grownE WB.out RB.out hqB.out)) (oneU _) (by simp only [maxLen];omega) (by omega) (by have:=R.out.size;omega) ?_
      intro vy wy oy gy ly
      have OY:=Hm oy
      have bx:=Hm (grown_c5 HC.out R.out (by omega))
      have hgy:=Hm (fun o:Nat=>World.cell?_of_block (a:=⟨w.heap.size,o,none⟩) (gy.block w.heap.size (World.block_lt_of_cell? _ _ bx.out.1.1) (fun e=>by have:=(OX.out.lt _ e.symm).1;omega)))
      have k1:wy.cell? ⟨w.heap.size,1,none⟩=some (.int .i64 a):=(hgy.out 1).trans bx.out.1.2.1
      have k2:wy.cell? ⟨w.heap.size,2,none⟩=some (.int .i64 b):=(hgy.out 2).trans bx.out.1.2.2.1
      have k4:wy.cell? ⟨w.heap.size,4,none⟩=some (.slice la l.length lc):=(hgy.out 4).trans bx.out.1.2.2.2.2
      have BY:=Hm ((HB.out.trans (grown_below R.out (show w.heap.size≤w.heap.size+1 by omega) (by show w.heap.size≤W.heap.size;omega))).grown gy (by have:=R.out.size;omega) (fun j hj=>by have:=(OX.out.lt j hj).1;omega))
      clear oy gy ly hgy bx)
   | (go_at_call 144
      refine (KA.out _ R.out).mono ?_
      rintro e wn ⟨vn,rfl,hon,hbn⟩
      obtain ⟨gA,gcA,rfl,hgA,hgA'⟩:=By.own_split hon hla.1
      have st:=Hm (below_grown hbn (some (w.heap.size+1)))
      have hz:=R.out.size
      replace R:=Hm (grown_trans R.out st.out)
      (try replace RA:=Hm (grown_trans RA.out st.out))
      (try replace RB:=Hm (grown_trans RB.out st.out))
      (try replace OX:=Hm (ownE_keep OX.out hbn (Nat.le_refl _)))
      (try replace OC:=Hm (ownE_keep OC.out hbn (Nat.le_refl _)))
      have WA:=Hm hon
      have RA:=Hm (World.grownBy.refl wn (some (w.heap.size+1)))
      have hqA:Hid (gA≠w.heap.size+1):=by show _≠_;omega
      have bx:=Hm (grown_c5 HC.out R.out (by omega))
      have k1:wn.cell? ⟨w.heap.size,1,none⟩=some (.int .i64 a):=bx.out.1.2.1
      have k2:wn.cell? ⟨w.heap.size,2,none⟩=some (.int .i64 b):=bx.out.1.2.2.1
      have k4:wn.cell? ⟨w.heap.size,4,none⟩=some (.slice la l.length lc):=bx.out.1.2.2.2.2
      clear hon hbn st bx hz hgA hgA')
   | (go_at_call 77
      refine (KB.out _).mono ?_
      rintro e wn ⟨vn,rfl,hon,hbn⟩
      obtain ⟨gB,gcB,rfl,hgB,hgB'⟩:=By.own_split hon hlb.1
      have st:=Hm (below_grown hbn (some (w.heap.size+1)))
      have hz:=R.out.size
      replace R:=Hm (grown_trans R.out st.out)
      (try replace RA:=Hm (grown_trans RA.out st.out))
      (try replace RB:=Hm (grown_trans RB.out st.out))
      (try replace OX:=Hm (ownE_keep OX.out hbn (Nat.le_refl _)))
      (try replace OC:=Hm (ownE_keep OC.out hbn (Nat.le_refl _)))
      have WB:=Hm hon
      have RB:=Hm (World.grownBy.refl wn (some (w.heap.size+1)))
      have hqB:Hid (gB≠w.heap.size+1):=by show _≠_;omega
      have bx:=Hm (grown_c5 HC.out R.out (by omega))
      have k1:wn.cell? ⟨w.heap.size,1,none⟩=some (.int .i64 a):=bx.out.1.2.1
      have k2:wn.cell? ⟨w.heap.size,2,none⟩=some (.int .i64 b):=bx.out.1.2.2.1
      have k4:wn.cell? ⟨w.heap.size,4,none⟩=some (.slice la l.length lc):=bx.out.1.2.2.2.2
      clear hon hbn st bx hz hgB hgB'))
 all_goals
  go_wp2_with fail
  go_ret
  exact ⟨_,rfl,out_fin (W0:=W) OY.out BY.out (by simp [encF];try omega) (by simp [encF,U])⟩
open Go.RowKit Go.Sort
theorem s5_c (x:In) (la:Option Addr) (lc:Nat) (w:World) (hg:gd x=true) (hv0:0≤x.v) (hv1:x.v≤18446744073709551615) (hn:x.l.length≤1048576) (hH:Has w la x.l) :
    Calls Tryz.prog 185 #[inV x la lc] w fun e w'=>∃ u,e=.returned u∧Out w w' u (encI x):=by
 obtain ⟨op,a,b,v,l⟩:=x
 simp only [gd,encI] at *
 rcases form_range op with h | h | h | h | h | h | h | h | h | h | h | h
 · rw [h] at hg;simp [goodF] at hg
 · rw [h];exact s5_0 op a b v l la lc w h
 · rw [h];exact s5_1 op a b v l la lc w h
 · rw [h] at hg⊢
   simp [goodF,u32B_iff] at hg
   exact s5_2 op a b v l la lc w h (by omega) (by omega)
 · rw [h] at hg⊢
   simp [goodF,u32B_iff] at hg
   refine s5_3 op a b v l la lc w h (by omega) (by omega) hn (fun i hi=>?_) hH
   have:=hg.1.1.1 (l.getD i 0) (by simp [List.getD,hi])
   exact this
 · rw [h] at hg⊢
   simp [goodF,u32B_iff] at hg
   exact s5_4 op a b v l la lc w h (by omega) (by omega)
 · rw [h] at hg⊢
   simp [goodF,u32B_iff] at hg
   exact s5_5 op a b v l la lc w h (by omega) (by omega) (by omega) (by omega)
 · rw [h];exact s5_6 op a b v l la lc w h
 · rw [h] at hg⊢
   simp [goodF,u32B_iff] at hg
   exact s5_7 op a b v l la lc w h hv0 (by omega)
 · rw [h];exact s5_8 op a b v l la lc w h hv0 hv1
 · rw [h];exact s5_9 op a b v l la lc w h hv0 hv1
 · rw [h];exact s5_10 op a b v l la lc w h hv0 hv1
end Go.Proofs.YtdbmolambolmgaaGreat
namespace Go.Proofs.YtdbmolambolmgaaGreat.By
open Go.RowKit
theorem own_shape {w:World} {B:Nat} {v:Value} {xs:List Int} (h:w.ownsRow B 5 1 v xs.length (U xs)):∃ a c,v=.slice a xs.length c∧Has w a xs:=by
 rcases h.2 with ⟨e,h0⟩ | ⟨g,cap,cur,hv,hB,hg,r⟩
 · rw [h0];exact ⟨_,_,e,.inl (List.length_eq_zero_iff.1 h0)⟩
 · subst hv;exact ⟨_,_,rfl,own_has h⟩
theorem mark_nil (a:Option Addr) (cap:Nat) (w:World) :
    Calls Tryz.prog 15 #[.slice a 0 cap,.int .i64 1] w fun e w'=>e=.returned (.int .i64 1)∧w=w':=by
 go_enter Tryz.func15,Tryz.ntmps15
 go_wp2
 refine wp_loop_rounds 1 ?_
 rw [rounds_succ]
 go_wp2
 go_ret
 exact ⟨rfl,rfl⟩
theorem markV (B n:Nat) (v:Value) (xs:List Int) (w:World) (hl:n≤1099511627776) (h:w.ownsRow B 5 1 v n (U xs)) :
    Calls Tryz.prog 15 #[v,.int .i64 1] w fun e w'=>e=.returned (.int .i64 ((1:Int)+n))∧w'.ownsRow B 5 1 v n (U (marks 1 n))∧w.grownBy w' v.ownBlock:=by
 by_cases h0:n=0
 · subst h0
   have hx:xs=[]:=List.length_eq_zero_iff.1 (own_len h)
   subst hx
   obtain ⟨a,c,e,k⟩:=own_shape (xs:=[]) h
   subst e
   refine (mark_nil a c w).mono fun e w' ⟨h1,h2⟩=>?_
   subst h2
   exact ⟨by simpa using h1,by simpa [marks] using h,grown_none _ _⟩
 · obtain ⟨g,cap,rfl,_,_⟩:=own_split h (by omega)
   exact mark_any B g n cap xs w hl h
end Go.Proofs.YtdbmolambolmgaaGreat.By
namespace Go.Proofs.YtdbmolambolmgaaGreat
open Go.RowKit Go.Sort
set_option maxRecDepth 100000
end Go.Proofs.YtdbmolambolmgaaGreat
