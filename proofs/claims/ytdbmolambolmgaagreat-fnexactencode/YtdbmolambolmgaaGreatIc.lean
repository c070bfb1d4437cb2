import Derived.Test.YtdbmolambolmgaaGreatHr
import Derived.Test.YtdbmolambolmgaaGreatHx
import Derived.Test.YtdbmolambolmgaaGreatIb
import Derived.Test.YtdbmolambolmgaaGreatIa
set_option linter.all false
set_option maxHeartbeats 16000000
set_option maxRecDepth 100000
namespace Go.Proofs.YtdbmolambolmgaaGreat
open Go.RowKit Go.Sort
set_option maxRecDepth 100000
theorem Bk.of {V:World} {g:Nat} {cs:List Value} (h:Bk V g cs) {V':World} (hs:V.heap.size≤V'.heap.size) (hk:V'.heap[g]?=V.heap[g]?):Bk V' g cs :=
 ⟨Nat.lt_of_lt_of_le h.1 hs,fun j v hv=>(World.cell?_of_block hk).trans (h.2.1 j v hv),fun j=>(World.frozen?_of_block hk).trans (h.2.2 j)⟩
theorem toNF_c (v:Value) (x:Mod) (w:World) (hl:Mod.LB 1048576 x) (h:MV w v x) :
    Calls Tryz.prog 8 #[v] w fun e w'=>∃ v',e=.returned v'∧(∃ ba1 bd1 ba2 bd2 ba3 bd3 ba4 bd4 ba5 bd5 ba6 bd6 ba7 bd7 ba8 bd8 ba9 bd9 ba10 bd10 ba11 bd11,v'=.agg #[.slice ba1 x.types.length bd1,.slice ba2 x.imps.length bd2,.slice ba3 x.funcs.length bd3,.slice ba4 x.tabs.length bd4,.slice ba5 x.mems.length bd5,.slice ba6 x.globs.length bd6,.slice ba7 x.exps.length bd7,.bool x.hasS,.int .i64 x.start,.slice ba8 x.elems.length bd8,.slice ba9 x.codes.length bd9,.slice ba10 x.datas.length bd10,.slice ba11 x.customs.length bd11]∧Mod.Is w.heap.size w' x ba1 ba2 ba3 ba4 ba5 ba6 ba7 ba8 ba9 ba10 ba11)∧NF.Below w.heap.size w w':=by
 obtain ⟨a1,c1,a2,c2,a3,c3,a4,c4,a5,c5,a6,c6,a7,c7,a8,c8,a9,c9,a10,c10,a11,c11,rfl,hi⟩:=h
 refine (NF.rtMod_c x a1 c1 a2 c2 a3 c3 a4 c4 a5 c5 a6 c6 a7 c7 a8 c8 a9 c9 a10 c10 a11 c11 w hi hl).mono ?_
 rintro e w' ⟨b1,b2,b3,b4,b5,b6,b7,b8,b9,b10,b11,rfl,hi',hb⟩
 exact ⟨_,rfl,⟨_,_,_,_,_,_,_,_,_,_,_,_,_,_,_,_,_,_,_,_,_,_,rfl,hi'⟩,hb⟩
theorem toMVn_c (v:Value) (x:Mod) (w:World) (hl:Mod.LB 1048576 x) (h:MV w v x) :
    Calls Tryz.prog 8 #[v] w fun e w'=>∃ v',e=.returned v'∧MV w' v' x∧Below w.heap.size w w':=by
 refine (toNF_c v x w hl h).mono ?_
 rintro e w' ⟨v',rfl,⟨ba1,bd1,ba2,bd2,ba3,bd3,ba4,bd4,ba5,bd5,ba6,bd6,ba7,bd7,ba8,bd8,ba9,bd9,ba10,bd10,ba11,bd11,rfl,hi⟩,hb⟩
 exact ⟨_,rfl,⟨_,_,_,_,_,_,_,_,_,_,_,_,_,_,_,_,_,_,_,_,_,_,rfl,hi.mono (Nat.zero_le _)⟩,hb.to⟩
theorem sencMV_c (v:Value) (x:Mod) (w:World) (hl:Mod.LB 1048576 x) (hp:x.Pos) (ht:x.Top) (hB:x.Byt) (hs:x.sz≤1048576) (h:MV w v x) :
    Calls Tryz.prog 11 #[v] w fun e w'=>∃ u,e=.returned u∧Out w w' u (encX x):=by
 obtain ⟨a1,c1,a2,c2,a3,c3,a4,c4,a5,c5,a6,c6,a7,c7,a8,c8,a9,c9,a10,c10,a11,c11,rfl,hi⟩:=h
 exact senc_c x a1 c1 a2 c2 a3 c3 a4 c4 a5 c5 a6 c6 a7 c7 a8 c8 a9 c9 a10 c10 a11 c11 w hi hl hp (fun hw=>gd_of hw hl hp ht) hB (modLn hl) (pr_bound x hs)
theorem iencMV_c (v:Value) (x:Mod) (w:World) (hl:Mod.LB 1048576 x) (hp:x.Pos) (ht:x.Top) (hs:x.sz≤1048576) (h:MV w v x) :
    Calls Tryz.prog 12 #[v] w fun e w'=>∃ u,e=.returned u∧ResE w' w.heap.size u (encX x)∧Below w.heap.size w w':=by
 obtain ⟨a1,c1,a2,c2,a3,c3,a4,c4,a5,c5,a6,c6,a7,c7,a8,c8,a9,c9,a10,c10,a11,c11,rfl,hi⟩:=h
 exact ienc_c x a1 c1 a2 c2 a3 c3 a4 c4 a5 c5 a6 c6 a7 c7 a8 c8 a9 c9 a10 c10 a11 c11 w hi hl hp (fun hw=>gd_of hw hl hp ht) (modLn hl) (modLn hl).2.2.2.2.2.2.2.2.2.2 (pr_bound x hs)
theorem eqBR_c (v v':Value) (L:List Int) (P P':Nat→Prop) (w:World) (hl:L.length≤400000000000) (h:BR w v L P) (h':BR w v' L P') :
    Calls Tryz.prog 13 #[v,v'] w fun e w'=>e=.returned (.bool true)∧Below w.heap.size w w':=by
 obtain ⟨a,c,rfl,k⟩:=h.has
 obtain ⟨a',c',rfl,k'⟩:=h'.has
 refine (By.eq_any a a' c c' L w (by omega) k k').mono ?_
 rintro e w' ⟨rfl,n,rfl⟩
 exact ⟨rfl,below_drewN' (Below.refl _ _) n⟩
theorem heldBR_c (v:Value) (n:Nat) (P:Nat→Prop) (w:World) (hl:n≤400000000000) (h:BR w v (By.marks 1 n) P) :
    Calls Tryz.prog 16 #[v,.int .i64 1] w fun e w'=>e=.returned (.int .i64 (1+(n:Int)))∧w=w':=by
 obtain ⟨a,c,rfl,k⟩:=h.has
 rw [By.marks_len]
 exact By.held_any a c n w (by omega) k
theorem mk_of {W3 W4 V:World} (h:NF.Below W3.heap.size W3 W4) (hb:Below W4.heap.size W4 V):Mk W3.heap.size W4 V:=by
 have K:∀ b o v,W4.cell? ⟨b,o,none⟩=some v→V.cell? ⟨b,o,none⟩=some v:=fun b o v hv=>(hb.cell (p:=⟨b,o,none⟩) (World.block_lt_of_cell? W4 _ hv)).trans hv
 refine ⟨fun b o a n c hc=>K _ _ _ hc,fun b o v hc=>⟨v,K _ _ _ hc⟩,fun b o hB hl=>?_,hb.size,h.size⟩
 rw [hb.frozen (p:=⟨b,o,none⟩) hl]
 cases hf:W4.frozen? ⟨b,o,none⟩ with
 | false=>rfl
 | true =>
  have:=h.nz _ hf
  have hn:W3.heap[b]?=none:=Array.getElem?_eq_none hB
  simp [World.frozen?,hn] at this
theorem lawEnc (x:Mod) (a1:Option Addr) (c1:Nat) (a2:Option Addr) (c2:Nat) (a3:Option Addr) (c3:Nat) (a4:Option Addr) (c4:Nat) (a5:Option Addr) (c5:Nat) (a6:Option Addr) (c6:Nat) (a7:Option Addr) (c7:Nat) (a8:Option Addr) (c8:Nat) (a9:Option Addr) (c9:Nat) (a10:Option Addr) (c10:Nat) (a11:Option Addr) (c11:Nat) (w:World) (hI:Mod.Is 0 w x a1 a2 a3 a4 a5 a6 a7 a8 a9 a10 a11) (hl:Mod.LB 9223372036854775807 x) (hp:x.Pos) (ht:x.Top) (hB:x.Byt) :
    Calls Tryz.prog 4 #[.agg #[.slice a1 x.types.length c1,.slice a2 x.imps.length c2,.slice a3 x.funcs.length c3,.slice a4 x.tabs.length c4,.slice a5 x.mems.length c5,.slice a6 x.globs.length c6,.slice a7 x.exps.length c7,.bool x.hasS,.int .i64 x.start,.slice a8 x.elems.length c8,.slice a9 x.codes.length c9,.slice a10 x.datas.length c10,.slice a11 x.customs.length c11]] w fun e w'=>e=.returned (.bool true)∧Below w.heap.size w w':=by
 have hv:MV w (.agg #[.slice a1 x.types.length c1,.slice a2 x.imps.length c2,.slice a3 x.funcs.length c3,.slice a4 x.tabs.length c4,.slice a5 x.mems.length c5,.slice a6 x.globs.length c6,.slice a7 x.exps.length c7,.bool x.hasS,.int .i64 x.start,.slice a8 x.elems.length c8,.slice a9 x.codes.length c9,.slice a10 x.datas.length c10,.slice a11 x.customs.length c11]) x:=⟨_,_,_,_,_,_,_,_,_,_,_,_,_,_,_,_,_,_,_,_,_,_,rfl,hI⟩
 have HV:=Hm hv
 have KZ:=Hm (fun (V:World) (h:Below w.heap.size w V)=>qzMod_c x a1 c1 a2 c2 a3 c3 a4 c4 a5 c5 a6 c6 a7 c7 a8 c8 a9 c9 a10 c10 a11 c11 1048576 V (by omega) (by omega) (hI.up (up_below h)) hl)
 have PP:=Hm (And.intro hp (And.intro ht hB))
 clear hI hl hp ht hB hv
 go_enter Tryz.func4,Tryz.ntmps4
 go_upto_region 1 with fail
 refine wp_gen (fun W=>Bk W w.heap.size [.slice a1 x.types.length c1,.slice a2 x.imps.length c2,.slice a3 x.funcs.length c3,.slice a4 x.tabs.length c4,.slice a5 x.mems.length c5,.slice a6 x.globs.length c6,.slice a7 x.exps.length c7,.bool x.hasS,.int .i64 x.start,.slice a8 x.elems.length c8,.slice a9 x.codes.length c9,.slice a10 x.datas.length c10,.slice a11 x.customs.length c11]∧Below w.heap.size w W) ⟨Bk.new,(Below.refl _ _).alloc (Nat.le_refl _) _⟩ ?_
 rintro W0 ⟨bb,hb⟩
 have q0:=bb.2.1 0 _ rfl
 have q1:=bb.2.1 1 _ rfl
 have q2:=bb.2.1 2 _ rfl
 have q3:=bb.2.1 3 _ rfl
 have q4:=bb.2.1 4 _ rfl
 have q5:=bb.2.1 5 _ rfl
 have q6:=bb.2.1 6 _ rfl
 have q7:=bb.2.1 7 _ rfl
 have q8:=bb.2.1 8 _ rfl
 have q9:=bb.2.1 9 _ rfl
 have q10:=bb.2.1 10 _ rfl
 have q11:=bb.2.1 11 _ rfl
 have q12:=bb.2.1 12 _ rfl
 have KZ0:=Hm (KZ.out _ hb)
 go_wp2_with fail
 with_reducible refine KZ0.out.mono ?_
 rintro e W1 ⟨r,rfl,b1,hr⟩
 have hb1:=hb.trans (b1.mono hb.size)
 have bb1:=bb.keep b1
 clear KZ0 KZ b1 hb bb q0 q1 q2 q3 q4 q5 q6 q7 q8 q9 q10 q11 q12
 rcases hr with rfl | ⟨r0,r1,hl⟩
 · clear bb1
   go_wp2
   go_ret
   exact ⟨rfl,hb1⟩
 have f:¬ r<0:=by omega
 have hs:x.sz≤1048576:=by omega
 have KT:=Hm (fun (V:World) (h:Below w.heap.size w V)=>toNF_c _ x V hl (HV.out.keep h))
 have KT2:=Hm (fun (V:World) (h:Below w.heap.size w V)=>toMVn_c _ x V hl (HV.out.keep h))
 have KS:=Hm (fun (v:Value) (V:World) (h:MV V v x)=>sencMV_c v x V hl PP.out.1 PP.out.2.1 PP.out.2.2 hs h)
 have KI:=Hm (fun (v:Value) (V:World) (h:MV V v x)=>iencMV_c v x V hl PP.out.1 PP.out.2.1 hs h)
 have KE:=Hm (fun (v v':Value) (V:World) (h:MV V v x) (h':MV V v' x)=>eqMV_c v v' x V hl h h')
 have HSZ:=Hm hs
 have hEl:(encX x).length≤400000000000:=by
  have:=pr_bound x hs
  unfold encX
  split
  · split
    · exact Nat.zero_le _
    · exact this
  · exact Nat.zero_le _
 clear hl PP hs
 generalize encX x=E at *
 have BB:=Hm bb1
 have hb:=hb1
 have q0:=bb1.2.1 0 _ rfl
 have q1:=bb1.2.1 1 _ rfl
 have q2:=bb1.2.1 2 _ rfl
 have q3:=bb1.2.1 3 _ rfl
 have q4:=bb1.2.1 4 _ rfl
 have q5:=bb1.2.1 5 _ rfl
 have q6:=bb1.2.1 6 _ rfl
 have q7:=bb1.2.1 7 _ rfl
 have q8:=bb1.2.1 8 _ rfl
 have q9:=bb1.2.1 9 _ rfl
 have q10:=bb1.2.1 10 _ rfl
 have q11:=bb1.2.1 11 _ rfl
 have q12:=bb1.2.1 12 _ rfl
 have KT0:=Hm (KT2.out _ hb)
 clear bb1 hb1
 go_wp2_with fail
 with_reducible refine KT0.out.mono ?_
 rintro e W2 ⟨v2,rfl,m2,b2⟩
 have hb2:=hb.trans (b2.mono hb.size)
 have bb2:=BB.out.keep b2
 have KS2:=Hm (KS.out _ _ m2)
 clear KT0 BB b2 hb q0 q1 q2 q3 q4 q5 q6 q7 q8 q9 q10 q11 q12 m2 KS
 go_wp2_with fail
 with_reducible refine KS2.out.mono ?_
 rintro e W3 ⟨v3,rfl,ho3,b3⟩
 have hb3:=hb2.trans (b3.mono hb2.size)
 have bb3:=bb2.keep b3
 have R3:Hid (BR W3 v3 E (fun k=>k<W3.heap.size)):=by
  obtain ⟨a,c,e,h'⟩:=own_br ho3
  exact ⟨a,c,e,h'.imp id (fun ⟨g,h1,h2,h3,h4⟩=>⟨g,h1,h3,h3,h4⟩)⟩
 clear KS2 b3 bb2 hb2 ho3
 have q0:=bb3.2.1 0 _ rfl
 have q1:=bb3.2.1 1 _ rfl
 have q2:=bb3.2.1 2 _ rfl
 have q3:=bb3.2.1 3 _ rfl
 have q4:=bb3.2.1 4 _ rfl
 have q5:=bb3.2.1 5 _ rfl
 have q6:=bb3.2.1 6 _ rfl
 have q7:=bb3.2.1 7 _ rfl
 have q8:=bb3.2.1 8 _ rfl
 have q9:=bb3.2.1 9 _ rfl
 have q10:=bb3.2.1 10 _ rfl
 have q11:=bb3.2.1 11 _ rfl
 have q12:=bb3.2.1 12 _ rfl
 have KT0:=Hm (KT.out _ hb3)
 have BB:=Hm bb3
 clear bb3
 go_wp2_with fail
 with_reducible refine KT0.out.mono ?_
 rintro e W4 ⟨v4,rfl,⟨ba1,bd1,ba2,bd2,ba3,bd3,ba4,bd4,ba5,bd5,ba6,bd6,ba7,bd7,ba8,bd8,ba9,bd9,ba10,bd10,ba11,bd11,rfl,hi4⟩,n4⟩
 have b4':=n4.to
 have hb4:=hb3.trans (b4'.mono hb3.size)
 have bb4:=BB.out.keep b4'
 have hz34:=n4.size
 have R4:Hid (BR W4 v3 E (fun k=>k<W3.heap.size)):=R3.out.keep hz34 (fun k hk _=>b4'.block k hk)
 have N4:=Hm n4
 have I4:=Hm hi4
 have hw3:w.heap.size<W3.heap.size:=BB.out.1
 clear KT0 BB b4' n4 hb3 q0 q1 q2 q3 q4 q5 q6 q7 q8 q9 q10 q11 q12 R3
 obtain ⟨W5,hW5⟩:∃ W5,W5=W4.alloc (.cells #[.slice ba1 x.types.length bd1,.slice ba2 x.imps.length bd2,.slice ba3 x.funcs.length bd3,.slice ba4 x.tabs.length bd4,.slice ba5 x.mems.length bd5,.slice ba6 x.globs.length bd6,.slice ba7 x.exps.length bd7,.bool x.hasS,.int .i64 x.start,.slice ba8 x.elems.length bd8,.slice ba9 x.codes.length bd9,.slice ba10 x.datas.length bd10,.slice ba11 x.customs.length bd11] 46):=⟨_,rfl⟩
 obtain ⟨g5,hg5⟩:∃ g5,g5=W4.heap.size:=⟨_,rfl⟩
 have b5:Below W4.heap.size W4 W5:=by rw [hW5];exact (Below.refl _ _).alloc (Nat.le_refl _) _
 have p5:Bk W5 g5 [.slice ba1 x.types.length bd1,.slice ba2 x.imps.length bd2,.slice ba3 x.funcs.length bd3,.slice ba4 x.tabs.length bd4,.slice ba5 x.mems.length bd5,.slice ba6 x.globs.length bd6,.slice ba7 x.exps.length bd7,.bool x.hasS,.int .i64 x.start,.slice ba8 x.elems.length bd8,.slice ba9 x.codes.length bd9,.slice ba10 x.datas.length bd10,.slice ba11 x.customs.length bd11]:=by rw [hW5,hg5];exact Bk.new
 have m5:MV W5 (.agg #[.slice ba1 x.types.length bd1,.slice ba2 x.imps.length bd2,.slice ba3 x.funcs.length bd3,.slice ba4 x.tabs.length bd4,.slice ba5 x.mems.length bd5,.slice ba6 x.globs.length bd6,.slice ba7 x.exps.length bd7,.bool x.hasS,.int .i64 x.start,.slice ba8 x.elems.length bd8,.slice ba9 x.codes.length bd9,.slice ba10 x.datas.length bd10,.slice ba11 x.customs.length bd11]) x:=⟨_,_,_,_,_,_,_,_,_,_,_,_,_,_,_,_,_,_,_,_,_,_,rfl,(hi4.mono (Nat.zero_le _)).up (up_below b5)⟩
 have hb5:=hb4.trans (b5.mono hb4.size)
 have hz5:W5.heap.size=W4.heap.size+1:=by rw [hW5];simp
 have KI5:=Hm (KI.out _ _ m5)
 have HW5:=Hm hW5
 have HG5:=Hm hg5
 have M5:=Hm m5
 have P5:=Hm p5
 have BB5:=Hm (bb4.keep b5)
 have R5:=Hm (R4.out.below b5)
 have B45:=Hm b5
 have Z5:=Hm hz5
 clear hW5 hg5 m5 hi4 bb4 hb4 R4 b5 hz5
 go_upto_region 7 with fail
 rw [← HW5.out,← HG5.out]
 clear HW5
 have s0:=p5.2.1 0 _ rfl
 have s1:=p5.2.1 1 _ rfl
 have s2:=p5.2.1 2 _ rfl
 have s3:=p5.2.1 3 _ rfl
 have s4:=p5.2.1 4 _ rfl
 have s5:=p5.2.1 5 _ rfl
 have s6:=p5.2.1 6 _ rfl
 have s7:=p5.2.1 7 _ rfl
 have s8:=p5.2.1 8 _ rfl
 have s9:=p5.2.1 9 _ rfl
 have s10:=p5.2.1 10 _ rfl
 have s11:=p5.2.1 11 _ rfl
 have s12:=p5.2.1 12 _ rfl
 clear p5
 go_wp2_with fail
 with_reducible refine KI5.out.mono ?_
 rintro e W6 ⟨v6,rfl,r6,b6⟩
 have hb6:=hb5.trans (b6.mono hb5.size)
 have M6:=Hm (M5.out.keep b6)
 have P6:=Hm (P5.out.keep b6)
 have BB6:=Hm (BB5.out.keep b6)
 have R36:=Hm (R5.out.below b6)
 have R66:=Hm r6
 have B46:=Hm (B45.out.trans (b6.mono B45.out.size))
 have KQ:=Hm (eqBR_c v6 v3 E _ _ W6 hEl r6.br R36.out)
 clear KI5 M5 P5 BB5 b6 hb5 s0 s1 s2 s3 s4 s5 s6 s7 s8 s9 s10 s11 s12 R5 B45 r6
 go_wp2_with fail
 with_reducible refine KQ.out.mono ?_
 rintro e W7 ⟨rfl,b7⟩
 have hb7:=hb6.trans (b7.mono hb6.size)
 have M7:=Hm (M6.out.keep b7)
 have P7:=Hm (P6.out.keep b7)
 have BB7:=Hm (BB6.out.keep b7)
 have R37:=Hm (R36.out.below b7)
 have R67:Hid (ResE W7 W5.heap.size v6 E):=R66.out.blk (fun k hk=>b7.block k (R66.out.lt k hk).2)
 have B47:=Hm (B46.out.trans (b7.mono B46.out.size))
 clear KQ M6 P6 BB6 R36 R66 B46 b7 hb6
 go_upto_region 10 with fail
 have bE:Below W7.heap.size W7 W7.drew:=⟨rfl,rfl,rfl,Nat.le_refl _,fun k hk=>rfl⟩
 have bD:Below w.heap.size w W7.drew:=⟨hb7.os,hb7.tape,hb7.output,hb7.size,hb7.block⟩
 go_cut [31] from 27 to 31 (fun s V=>s=.bool false∧Below W7.heap.size W7 V)
 case first =>
  have p6:=P7.out
  have bb:=BB7.out
  have q0:=bb.2.1 0 _ rfl
  have q1:=bb.2.1 1 _ rfl
  have q2:=bb.2.1 2 _ rfl
  have q3:=bb.2.1 3 _ rfl
  have q4:=bb.2.1 4 _ rfl
  have q5:=bb.2.1 5 _ rfl
  have q6:=bb.2.1 6 _ rfl
  have q7:=bb.2.1 7 _ rfl
  have q8:=bb.2.1 8 _ rfl
  have q9:=bb.2.1 9 _ rfl
  have q10:=bb.2.1 10 _ rfl
  have q11:=bb.2.1 11 _ rfl
  have q12:=bb.2.1 12 _ rfl
  have s0:=p6.2.1 0 _ rfl
  have s1:=p6.2.1 1 _ rfl
  have s2:=p6.2.1 2 _ rfl
  have s3:=p6.2.1 3 _ rfl
  have s4:=p6.2.1 4 _ rfl
  have s5:=p6.2.1 5 _ rfl
  have s6:=p6.2.1 6 _ rfl
  have s7:=p6.2.1 7 _ rfl
  have s8:=p6.2.1 8 _ rfl
  have s9:=p6.2.1 9 _ rfl
  have s10:=p6.2.1 10 _ rfl
  have s11:=p6.2.1 11 _ rfl
  have s12:=p6.2.1 12 _ rfl
  clear p6 bb
  have KTD:=Hm (KT2.out _ bD)
  have QB:=Hm (fun V (h:Below W7.heap.size W7 V)=>BB7.out.keep h)
  have QP:=Hm (fun V (h:Below W7.heap.size W7 V)=>P7.out.keep h)
  clear KT KT2
  go_region_with (first
   | (go_at_call 8;(with_reducible refine KTD.out.mono ?_);rintro e w7 ⟨v7,rfl,m7,bz7⟩;have ca:Below W7.heap.size W7 w7:=bE.trans (bz7.mono bE.size);have bq:=QB.out _ ca;have pq:=QP.out _ ca;have q0x:w7.cell? ⟨w.heap.size,0,none⟩=some (.slice a1 x.types.length c1):=bq.2.1 0 _ rfl;have q1x:w7.cell? ⟨w.heap.size,1,none⟩=some (.slice a2 x.imps.length c2):=bq.2.1 1 _ rfl;have q2x:w7.cell? ⟨w.heap.size,2,none⟩=some (.slice a3 x.funcs.length c3):=bq.2.1 2 _ rfl;have q3x:w7.cell? ⟨w.heap.size,3,none⟩=some (.slice a4 x.tabs.length c4):=bq.2.1 3 _ rfl;have q4x:w7.cell? ⟨w.heap.size,4,none⟩=some (.slice a5 x.mems.length c5):=bq.2.1 4 _ rfl;have q5x:w7.cell? ⟨w.heap.size,5,none⟩=some (.slice a6 x.globs.length c6):=bq.2.1 5 _ rfl;have q6x:w7.cell? ⟨w.heap.size,6,none⟩=some (.slice a7 x.exps.length c7):=bq.2.1 6 _ rfl;have q7x:w7.cell? ⟨w.heap.size,7,none⟩=some (.bool x.hasS):=bq.2.1 7 _ rfl;have q8x:w7.cell? ⟨w.heap.size,8,none⟩=some (.int .i64 x.start):=bq.2.1 8 _ rfl;have q9x:w7.cell? ⟨w.heap.size,9,none⟩=some (.slice a8 x.elems.length c8):=bq.2.1 9 _ rfl;have q10x:w7.cell? ⟨w.heap.size,10,none⟩=some (.slice a9 x.codes.length c9):=bq.2.1 10 _ rfl;have q11x:w7.cell? ⟨w.heap.size,11,none⟩=some (.slice a10 x.datas.length c10):=bq.2.1 11 _ rfl;have q12x:w7.cell? ⟨w.heap.size,12,none⟩=some (.slice a11 x.customs.length c11):=bq.2.1 12 _ rfl;have s0x:w7.cell? ⟨g5,0,none⟩=some (.slice ba1 x.types.length bd1):=pq.2.1 0 _ rfl;have s1x:w7.cell? ⟨g5,1,none⟩=some (.slice ba2 x.imps.length bd2):=pq.2.1 1 _ rfl;have s2x:w7.cell? ⟨g5,2,none⟩=some (.slice ba3 x.funcs.length bd3):=pq.2.1 2 _ rfl;have s3x:w7.cell? ⟨g5,3,none⟩=some (.slice ba4 x.tabs.length bd4):=pq.2.1 3 _ rfl;have s4x:w7.cell? ⟨g5,4,none⟩=some (.slice ba5 x.mems.length bd5):=pq.2.1 4 _ rfl;have s5x:w7.cell? ⟨g5,5,none⟩=some (.slice ba6 x.globs.length bd6):=pq.2.1 5 _ rfl;have s6x:w7.cell? ⟨g5,6,none⟩=some (.slice ba7 x.exps.length bd7):=pq.2.1 6 _ rfl;have s7x:w7.cell? ⟨g5,7,none⟩=some (.bool x.hasS):=pq.2.1 7 _ rfl;have s8x:w7.cell? ⟨g5,8,none⟩=some (.int .i64 x.start):=pq.2.1 8 _ rfl;have s9x:w7.cell? ⟨g5,9,none⟩=some (.slice ba8 x.elems.length bd8):=pq.2.1 9 _ rfl;have s10x:w7.cell? ⟨g5,10,none⟩=some (.slice ba9 x.codes.length bd9):=pq.2.1 10 _ rfl;have s11x:w7.cell? ⟨g5,11,none⟩=some (.slice ba10 x.datas.length bd10):=pq.2.1 11 _ rfl;have s12x:w7.cell? ⟨g5,12,none⟩=some (.slice ba11 x.customs.length bd11):=pq.2.1 12 _ rfl;clear bq pq)
   | (go_at_call 10;(with_reducible refine (KE.out _ _ _ ?hx ?hy).mono ?_);(case hx=>exact M7.out.keep ca);(case hy=>exact m7);rintro e w8 ⟨rfl,bz8⟩;have cc:Below W7.heap.size W7 w8:=ca.trans (bz8.mono ca.size)))
  all_goals
   go_wp2_with fail
   go_meet
   case rel=>exact ⟨rfl,cc⟩
 case rest =>
  obtain ⟨rfl,b8⟩:=hcut
  have hb8:=hb7.trans (b8.mono hb7.size)
  have P8:=Hm (P7.out.keep b8)
  have BB8:=Hm (BB7.out.keep b8)
  have R38:=Hm (R37.out.below b8)
  have R68:Hid (ResE wc W5.heap.size v6 E):=R67.out.blk (fun k hk=>b8.block k (R67.out.lt k hk).2)
  have B48:=Hm (B47.out.trans (b8.mono B47.out.size))
  clear b8 bD bE hb7 M7 P7 BB7 R37 R67 B47 KE HV
  have KM:=Hm (mkMod_c x ba1 bd1 ba2 bd2 ba3 bd3 ba4 bd4 ba5 bd5 ba6 bd6 ba7 bd7 ba8 bd8 ba9 bd9 ba10 bd10 ba11 bd11 W3.heap.size W4 wc I4.out (mk_of N4.out B48.out) HSZ.out)
  have p8:=P8.out
  have s0:=p8.2.1 0 _ rfl
  have s1:=p8.2.1 1 _ rfl
  have s2:=p8.2.1 2 _ rfl
  have s3:=p8.2.1 3 _ rfl
  have s4:=p8.2.1 4 _ rfl
  have s5:=p8.2.1 5 _ rfl
  have s6:=p8.2.1 6 _ rfl
  have s7:=p8.2.1 7 _ rfl
  have s8:=p8.2.1 8 _ rfl
  have s9:=p8.2.1 9 _ rfl
  have s10:=p8.2.1 10 _ rfl
  have s11:=p8.2.1 11 _ rfl
  have s12:=p8.2.1 12 _ rfl
  clear p8
  go_wp2_with fail
  with_reducible refine KM.out.mono ?_
  rintro e W9 ⟨kk,rfl,hkk,mb⟩
  have hkn:¬ kk<0:=by omega
  have bt:=mb.bt
  have hb9:Below w.heap.size w W9:=hb8.trans (bt.below.mono (by omega))
  have z8:W4.heap.size≤wc.heap.size:=B48.out.size
  have BB9:=Hm (BB8.out.of bt.size (bt.block _ (.inl hw3)))
  have R39:=Hm (R38.out.keep bt.size (fun k hk _=>bt.block k (.inl hk)))
  have R69:Hid (ResE W9 W5.heap.size v6 E):=R68.out.blk (fun k hk=>bt.block k (.inr ⟨by have:=(R68.out.lt k hk).1;have:=Z5.out;omega,(R68.out.lt k hk).2⟩))
  have KQ:=Hm (eqBR_c v6 v3 E _ _ W9 hEl R69.out.br R39.out)
  clear KM mb bt hb8 BB8 R38 R68 B48 P8 s0 s1 s2 s3 s4 s5 s6 s7 s8 s9 s10 s11 s12 I4 N4 hkk
  go_wp2_with fail
  with_reducible refine KQ.out.mono ?_
  rintro e W10 ⟨rfl,b10⟩
  have hb10:=hb9.trans (b10.mono hb9.size)
  have BB10:=Hm (BB9.out.keep b10)
  have R310:=Hm (R39.out.below b10)
  have R610:Hid (ResE W10 W5.heap.size v6 E):=R69.out.blk (fun k hk=>b10.block k (R69.out.lt k hk).2)
  have KK:=Hm (markRes W5.heap.size v6 E W10 (by omega) R610.out)
  have L6:=Hm R610.out.lt
  clear KQ b10 hb9 BB9 R39 R69 R610
  go_wp2_with fail
  with_reducible refine KK.out.mono ?_
  rintro e W11 ⟨rfl,m11,gr⟩
  have blk:∀ k,k<W5.heap.size→k<W10.heap.size→W11.heap[k]?=W10.heap[k]?:=fun k hk hk2=>gr.block k hk2 (fun e=>by have:=(L6.out k e.symm).1;omega)
  have hz:=Z5.out
  have hb11:Below w.heap.size w W11:=hb10.grown gr hb10.size (fun k hk=>by have:=(L6.out k hk).1;omega)
  have BB11:=Hm (BB10.out.of gr.size (blk _ (by omega) BB10.out.1))
  have R311:=Hm (R310.out.keep gr.size (fun k hk hk2=>blk k (by omega) hk2))
  have MM11:=Hm m11
  have KH:=Hm (heldBR_c v6 E.length _ W11 hEl m11)
  have hnn:¬ (1+(E.length:Int))<0:=by omega
  clear KK gr blk m11 hb10 BB10 R310 hz
  go_wp2_with fail
  with_reducible refine KH.out.mono ?_
  rintro e w12 ⟨rfl,rfl⟩
  have bb:=BB11.out
  have q0:=bb.2.1 0 _ rfl
  have q1:=bb.2.1 1 _ rfl
  have q2:=bb.2.1 2 _ rfl
  have q3:=bb.2.1 3 _ rfl
  have q4:=bb.2.1 4 _ rfl
  have q5:=bb.2.1 5 _ rfl
  have q6:=bb.2.1 6 _ rfl
  have q7:=bb.2.1 7 _ rfl
  have q8:=bb.2.1 8 _ rfl
  have q9:=bb.2.1 9 _ rfl
  have q10:=bb.2.1 10 _ rfl
  have q11:=bb.2.1 11 _ rfl
  have q12:=bb.2.1 12 _ rfl
  have KT0:=Hm (KT2.out _ hb11)
  clear bb KH
  go_wp2_with fail
  with_reducible refine KT0.out.mono ?_
  rintro e W12 ⟨v12,rfl,m12,b12⟩
  have hb12:=hb11.trans (b12.mono hb11.size)
  have R312:=Hm (R311.out.below b12)
  have MM12:=Hm (MM11.out.below b12)
  have KI2:=Hm (KI.out _ _ m12)
  clear KT0 b12 hb11 R311 MM11 q0 q1 q2 q3 q4 q5 q6 q7 q8 q9 q10 q11 q12 BB11 m12
  go_wp2_with fail
  with_reducible refine KI2.out.mono ?_
  rintro e W13 ⟨v13,rfl,r13,b13⟩
  have hb13:=hb12.trans (b13.mono hb12.size)
  have R313:=Hm (R312.out.below b13)
  have MM13:=Hm (MM12.out.below b13)
  have KQ:=Hm (eqBR_c v13 v3 E _ _ W13 hEl r13.br R313.out)
  clear KI2 b13 hb12 R312 MM12 r13
  go_wp2_with fail
  with_reducible refine KQ.out.mono ?_
  rintro e W14 ⟨rfl,b14⟩
  have hb14:=hb13.trans (b14.mono hb13.size)
  have MM14:=Hm (MM13.out.below b14)
  have KH:=Hm (heldBR_c v6 E.length _ W14 hEl MM14.out)
  clear KQ b14 hb13 MM13 R313
  go_wp2_with fail
  with_reducible refine KH.out.mono ?_
  rintro e w15 ⟨rfl,rfl⟩
  clear KH MM14
  go_wp2
  go_ret
  exact ⟨rfl,hb14⟩
end Go.Proofs.YtdbmolambolmgaaGreat
