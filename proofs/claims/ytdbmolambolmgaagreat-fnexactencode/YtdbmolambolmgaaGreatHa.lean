import Derived.Test.YtdbmolambolmgaaGreatGz
import Derived.ArgAppend
set_option linter.all false
set_option maxHeartbeats 16000000
set_option maxRecDepth 100000
namespace Go.Proofs.YtdbmolambolmgaaGreat
open Go.RowKit Go.Sort
set_option maxRecDepth 100000
def headE:List Int:=[0,97,115,109,1,0,0,0]
abbrev headC:Array Value:=#[.int .u8 0,.int .u8 97,.int .u8 115,.int .u8 109,.int .u8 1,.int .u8 0,.int .u8 0,.int .u8 0]
def Hd (w:World) (p:Nat) (S:Nat→Prop):Prop:=∃ g,w.cell? ⟨p,0,none⟩=some (.slice (some ⟨g,0,none⟩) 8 8)∧w.frozen? ⟨p,0,none⟩=false∧w.heap[g]?=some (.cells headC 5 (8,9))∧p-1≤g∧g≠p∧¬ S p∧¬ S g∧∀ k,S k→k<w.heap.size
def Wr0 (w:World) (p:Nat) (S:Nat→Prop) (xs:List Int):Prop:=Wr w p S xs∨(xs=headE∧Hd w p S)
theorem Wr0.lt {w:World} {p:Nat} {S:Nat→Prop} {xs:List Int} (h:Wr0 w p S xs):∀ k,S k→k<w.heap.size:=by
 rcases h with h | ⟨_,g,_,_,_,_,_,_,_,h⟩
 · exact h.lt
 · exact h
theorem Wr0.weak {w:World} {p:Nat} {S T:Nat→Prop} {xs:List Int} (h:Wr0 w p S xs) (hT:∀ k,T k→S k):Wr0 w p T xs:=by
 rcases h with h | ⟨e,g,h1,h2,h3,h4,h5,h6,h7,h8⟩
 · exact .inl (h.weak hT)
 · exact .inr ⟨e,g,h1,h2,h3,h4,h5,fun h=>h6 (hT _ h),fun h=>h7 (hT _ h),fun k hk=>h8 k (hT k hk)⟩
theorem Wr0.on {w w1:World} {p:Nat} {S:Nat→Prop} {xs:List Int} (h:Wr0 w p S xs) (hb:Below w.heap.size w w1):Wr0 w1 p (fun k=>S k∨(w.heap.size≤k∧k<w1.heap.size)) xs:=by
 rcases h with h | ⟨e,g,h1,h2,h3,h4,h5,h6,h7,h8⟩
 · exact .inl (h.on hb)
 · have lt:p<w.heap.size:=World.block_lt_of_cell? w _ h1
   have lg:g<w.heap.size:=by
    rcases Nat.lt_or_ge g w.heap.size with h | h
    · exact h
    · rw [Array.getElem?_eq_none h] at h3;cases h3
   have hs:=hb.size
   refine .inr ⟨e,g,(hb.cell (p:=⟨p,0,none⟩) lt).trans h1,(hb.frozen (p:=⟨p,0,none⟩) lt).trans h2,(hb.block g lg).trans h3,h4,h5,?_,?_,?_⟩
   · rintro (h | h)
     · exact h6 h
     · omega
   · rintro (h | h)
     · exact h7 h
     · omega
   · rintro k (h | h)
     · have:=h8 k h;omega
     · omega
theorem Wr0.keep {w w1:World} {p:Nat} {S:Nat→Prop} {xs:List Int} (h:Wr0 w p S xs) (hb:Below w.heap.size w w1):Wr0 w1 p S xs:=(h.on hb).weak fun _=>.inl
theorem head_cells {w:World} {g:Nat} (h:w.heap[g]?=some (.cells headC 5 (8,9))):∀ j u,(U headE)[j]?=some u→w.cell? ((⟨g,0,none⟩:Addr).add j)=some u:=by
 intro j u hu
 rw [show (⟨g,0,none⟩:Addr).add j=⟨g,j,none⟩ by unfold Addr.add;split <;> simp_all]
 simp only [World.cell?,h]
 have hj:j<8:=by
  rcases Nat.lt_or_ge j 8 with h | h
  · exact h
  · rw [List.getElem?_eq_none (by simp [U,headE];omega)] at hu;cases hu
 rcases (by omega:j=0∨j=1∨j=2∨j=3∨j=4∨j=5∨j=6∨j=7) with rfl | rfl | rfl | rfl | rfl | rfl | rfl | rfl <;> simpa [U,headE,headC] using hu
theorem whd_c (p:Nat) (S:Nat→Prop) (x:Int) (w:World) (hW:Hd w p S) :
    Calls Tryz.prog 148 #[.pointer (some ⟨p,0,none⟩),.int .i64 x] w fun e w'=>e=.returned (.tuple #[])∧Wr w' p S (headE++[x%256])∧Kept S w w':=by
 obtain ⟨i0,hi,hz0,hz1,hz2⟩:=info_parts Tryz.info5
 obtain ⟨g,c0,f0,hg,h4,h5,h6,h7,h8⟩:=hW
 have lt:p<w.heap.size:=World.block_lt_of_cell? w _ c0
 have lg:g<w.heap.size:=by
  rcases Nat.lt_or_ge g w.heap.size with h | h
  · exact h
  · rw [Array.getElem?_eq_none h] at hg;cases hg
 have HC:=Hm (fun (o:Obj)=>head_cells (w:=w.alloc o) ((heap_old w o g lg).trans hg))
 have H0:=Hm c0
 have F0:=Hm f0
 have HN:=Hm (And.intro h6 h8)
 clear hg h4 h5 h6 h7 h8
 go_enter Tryz.func148,Tryz.ntmps148
 go_wp2_with (at_builtin;refine wpList_append_grows _ rfl _ _ 50 rfl 5 i0 (.int .u8 0) 1 1 Tryz.underlying50 hi hz0 hz1 hz2 rfl (by decide) (some ⟨g,0,none⟩) 8 8 (U headE) rfl (fun h=>by cases h) rfl (fun b hb=>by cases hb;exact HC.out _) ⟨w.heap.size,0,none⟩ 1 1 [.int .u8 (x%256)] rfl rfl (cell_one_new _ _ _) (oneB _) (by decide) (by unfold maxLen;omega) (by omega) ?_;intro v2 w2 own2 gr2;have e2:w2.heap[p]?=w.heap[p]?:=(gr2.block p (by simp;omega) (by simp)).trans (heap_old w _ p lt);have d0:w2.cell? ⟨p,0,none⟩=some (.slice (some ⟨g,0,none⟩) 8 8):=(World.cell?_of_block e2).trans H0.out;have df:w2.frozen? ⟨p,0,none⟩=false:=(World.frozen?_of_block e2).trans F0.out;have O2:=Hm own2;have G2:=Hm gr2;obtain ⟨v2a,v2c,rfl⟩:=ownE_slice own2;clear own2 gr2 c0 f0)
 go_end0
 have s2:=G2.out.size
 have hbk:∀ k,(Value.slice v2a (8+1) v2c).ownBlock=some k→w.heap.size+1≤k∧k<w2.heap.size:=fun k hk=>by have:=O2.out.lt k hk;simp at this;omega
 refine ⟨rfl,⟨_,set_same d0,by rw [World.frozen?_setCell];exact df,?_,HN.out.1,fun k hk=>⟨fun h=>?_,fun e=>?_⟩,fun k hk=>?_⟩,?_⟩
 · have h1:w2.ownsRow (p-1) 5 1 (.slice v2a (8+1) v2c) (headE++[x%256]).length (U (headE++[x%256])):=by
     have h:=ownE_down O2.out (B':=p-1) (by simp;omega)
     simpa [U,headE] using h
   exact ownE_set h1 (fun e=>by have:=hbk p e;omega)
 · have h1:=(hbk k hk).1
   have h2:=HN.out.2 k h
   omega
 · have h1:=(hbk k hk).1
   omega
 · have h2:=HN.out.2 k hk
   simp [World.setCell] at s2⊢
   omega
 · refine ⟨G2.out.os,G2.out.tape,G2.out.output,by simp [World.setCell] at s2⊢;omega,fun k hk=>?_⟩
   have h2:=HN.out.2 k hk
   have hkp:k≠p:=fun e=>HN.out.1 (by rw [← e];exact hk)
   rw [Below.heap_setCell w2 ⟨p,0,none⟩ _ k hkp,G2.out.block k (by simp;omega) (by simp),heap_old w _ k h2]
theorem wone0_c (p:Nat) (S:Nat→Prop) (xs:List Int) (x:Int) (w:World) (hl:xs.length≤1099511627776) (hW:Wr0 w p S xs) :
    Calls Tryz.prog 148 #[.pointer (some ⟨p,0,none⟩),.int .i64 x] w fun e w'=>e=.returned (.tuple #[])∧Wr w' p S (xs++[x%256])∧Kept S w w':=by
 rcases hW with h | ⟨rfl,h⟩
 · exact wone_c p S xs x w hl h
 · exact whd_c p S x w h
def secE (x:Mod) (n:Int):List Int:=[n%256]++szE (cntE x n)
theorem cnt_pos (x:Mod) (n:Int) (h:1≤n∧n≤11):1≤(cntE x n).length:=by
 have hl:=fun y=>(lebU_len 9 y).1
 have h:n=1∨n=2∨n=3∨n=4∨n=5∨n=6∨n=7∨n=8∨n=9∨n=10∨n=11:=by omega
 rcases h with rfl | rfl | rfl | rfl | rfl | rfl | rfl | rfl | rfl | rfl | rfl
 · have:=hl x.types.length;simp [cntE];omega
 · have:=hl x.imps.length;simp [cntE];omega
 · have:=hl x.funcs.length;simp [cntE];omega
 · have:=hl x.tabs.length;simp [cntE];omega
 · have:=hl x.mems.length;simp [cntE];omega
 · have:=hl x.globs.length;simp [cntE];omega
 · have:=hl x.exps.length;simp [cntE];omega
 · have:=hl x.start;simp [cntE];omega
 · have:=hl x.elems.length;simp [cntE];omega
 · have:=hl x.codes.length;simp [cntE];omega
 · have:=hl x.datas.length;simp [cntE];omega
theorem wsec_c (p:Nat) (S:Nat→Prop) (xs:List Int) (x:Mod) (a1:Option Addr) (c1:Nat) (a2:Option Addr) (c2:Nat) (a3:Option Addr) (c3:Nat) (a4:Option Addr) (c4:Nat) (a5:Option Addr) (c5:Nat) (a6:Option Addr) (c6:Nat) (a7:Option Addr) (c7:Nat) (a8:Option Addr) (c8:Nat) (a9:Option Addr) (c9:Nat) (a10:Option Addr) (c10:Nat) (a11:Option Addr) (c11:Nat) (n:Int) (w0 w:World) (hS:∀ k,k<w0.heap.size→S k) (hb:Below w0.heap.size w0 w) (hI:Mod.Is 0 w0 x a1 a2 a3 a4 a5 a6 a7 a8 a9 a10 a11) (hG:x.Gd) (hn:1≤n∧n≤11) (hl:xs.length+(secE x n).length≤500000000000) (hW:Wr0 w p S xs) :
    Calls Tryz.prog 82 #[.pointer (some ⟨p,0,none⟩),.agg #[.slice a1 x.types.length c1,.slice a2 x.imps.length c2,.slice a3 x.funcs.length c3,.slice a4 x.tabs.length c4,.slice a5 x.mems.length c5,.slice a6 x.globs.length c6,.slice a7 x.exps.length c7,.bool x.hasS,.int .i64 x.start,.slice a8 x.elems.length c8,.slice a9 x.codes.length c9,.slice a10 x.datas.length c10,.slice a11 x.customs.length c11],.int .i64 n] w fun e w'=>e=.returned (.tuple #[])∧Wr w' p S (xs++secE x n)∧Kept S w w':=by
 have hne:=cnt_pos x n hn
 simp only [secE,List.length_append,List.length_cons,List.length_nil] at hl
 have hl2:=hl
 simp only [szE,List.length_append] at hl2
 obtain ⟨W,hWd⟩:∃ W,W=w.alloc (.cells #[.slice a1 x.types.length c1,.slice a2 x.imps.length c2,.slice a3 x.funcs.length c3,.slice a4 x.tabs.length c4,.slice a5 x.mems.length c5,.slice a6 x.globs.length c6,.slice a7 x.exps.length c7,.bool x.hasS,.int .i64 x.start,.slice a8 x.elems.length c8,.slice a9 x.codes.length c9,.slice a10 x.datas.length c10,.slice a11 x.customs.length c11] 46):=⟨_,rfl⟩
 have hBk:Bk W w.heap.size [.slice a1 x.types.length c1,.slice a2 x.imps.length c2,.slice a3 x.funcs.length c3,.slice a4 x.tabs.length c4,.slice a5 x.mems.length c5,.slice a6 x.globs.length c6,.slice a7 x.exps.length c7,.bool x.hasS,.int .i64 x.start,.slice a8 x.elems.length c8,.slice a9 x.codes.length c9,.slice a10 x.datas.length c10,.slice a11 x.customs.length c11]:=by rw [hWd];exact Bk.new
 have hWs:W.heap.size=w.heap.size+1:=by rw [hWd];simp
 have bW:Below w.heap.size w W:=by rw [hWd];exact (Below.refl _ _).alloc (Nat.le_refl _) _
 obtain ⟨V,hVd⟩:∃ V,V=W.alloc (.cells #[.slice none 0 0] 138):=⟨_,rfl⟩
 have hVs:V.heap.size=W.heap.size+1:=by rw [hVd];simp
 have bV:Below W.heap.size W V:=by rw [hVd];exact (Below.refl _ _).alloc (Nat.le_refl _) _
 have bwV:Below w.heap.size w V:=bW.trans (bV.mono (by omega))
 have hBkV:Bk V w.heap.size [.slice a1 x.types.length c1,.slice a2 x.imps.length c2,.slice a3 x.funcs.length c3,.slice a4 x.tabs.length c4,.slice a5 x.mems.length c5,.slice a6 x.globs.length c6,.slice a7 x.exps.length c7,.bool x.hasS,.int .i64 x.start,.slice a8 x.elems.length c8,.slice a9 x.codes.length c9,.slice a10 x.datas.length c10,.slice a11 x.customs.length c11]:=⟨by have:=hBk.1;omega,fun j v hv=>(bV.cell (p:=⟨w.heap.size,j,none⟩) hBk.1).trans (hBk.2.1 j v hv),fun j=>(bV.frozen (p:=⟨w.heap.size,j,none⟩) hBk.1).trans (hBk.2.2 j)⟩
 have hR0:Wr V (w.heap.size+1) (fun k=>k<w.heap.size+1) []:=by rw [← hWs,hVd];exact wr_new W _ (fun k hk=>hk)
 have hSR:∀ k,k<w0.heap.size→k<w.heap.size+1:=fun k hk=>by have:=hb.size;omega
 have hb0V:Below w0.heap.size w0 V:=hb.trans (bwV.mono hb.size)
 have HWp:=Hm hW
 have HWd:=Hm hWd
 have HVd:=Hm hVd
 have BWV:=Hm bwV
 have BB:=Hm hBkV
 have K1:=Hm (wcnt_c (w.heap.size+1) (fun k=>k<w.heap.size+1) [] x a1 c1 a2 c2 a3 c3 a4 c4 a5 c5 a6 c6 a7 c7 a8 c8 a9 c9 a10 c10 a11 c11 n w0 V hSR hb0V hI hG hn (by simp only [List.length_nil];omega) hR0)
 have HE:Hid (secE x n=[n%256]++szE (cntE x n)):=rfl
 generalize cntE x n=ys at *
 have q0:=hBkV.2.1 0 _ rfl
 have q1:=hBkV.2.1 1 _ rfl
 have q2:=hBkV.2.1 2 _ rfl
 have q3:=hBkV.2.1 3 _ rfl
 have q4:=hBkV.2.1 4 _ rfl
 have q5:=hBkV.2.1 5 _ rfl
 have q6:=hBkV.2.1 6 _ rfl
 have q7:=hBkV.2.1 7 _ rfl
 have q8:=hBkV.2.1 8 _ rfl
 have q9:=hBkV.2.1 9 _ rfl
 have q10:=hBkV.2.1 10 _ rfl
 have q11:=hBkV.2.1 11 _ rfl
 have q12:=hBkV.2.1 12 _ rfl
 clear hWd hVd hBk hBkV bW bV bwV hR0 hI hG hW hSR hb0V hS hb hn
 go_enter Tryz.func82,Tryz.ntmps82
 go_wp2_with fail
 rw [show (w.alloc (.cells #[.slice a1 x.types.length c1,.slice a2 x.imps.length c2,.slice a3 x.funcs.length c3,.slice a4 x.tabs.length c4,.slice a5 x.mems.length c5,.slice a6 x.globs.length c6,.slice a7 x.exps.length c7,.bool x.hasS,.int .i64 x.start,.slice a8 x.elems.length c8,.slice a9 x.codes.length c9,.slice a10 x.datas.length c10,.slice a11 x.customs.length c11] 46)).alloc (.cells #[.slice none 0 0] 138)=V by rw [HVd.out,HWd.out]]
 refine K1.out.mono ?_
 rintro e w1 ⟨rfl,hw1,hk1⟩
 have b1:Below w.heap.size w w1:=BWV.out.trans (hk1.weak (fun k (h:k<w.heap.size)=>Nat.lt_succ_of_lt h)).below
 rw [List.nil_append] at hw1
 obtain ⟨g,vc,cr,hg1,hg2,hr2,hh⟩:=inner_row (w:=w) (ys:=ys) (Nat.le_refl _) hw1 hne
 have K2:=Hm (wone0_c p (fun k=>S k∨(w.heap.size≤k∧k<w1.heap.size)) xs n w1 (by omega) (HWp.out.on b1))
 have HB1:=Hm b1
 have HHh:=Hm hh
 clear hw1 hk1 K1 hh b1 BB q0 q1 q2 q3 q4 q5 q6 q7 q8 q9 q10 q11 q12
 go_wp2_with fail
 refine K2.out.mono ?_
 rintro e w2 ⟨rfl,hw2,hk2⟩
 have cr2:w2.cell? ⟨w.heap.size+1,0,none⟩=some (.slice (some ⟨g,0,none⟩) ys.length vc):=(hk2.cell (.inr ⟨Nat.le_succ _,hr2⟩)).trans cr
 have hh2:=has_kept HHh.out hk2 (.inr ⟨hg1,hg2⟩)
 have K3:=Hm (wsized_c p (fun k=>S k∨(w.heap.size≤k∧k<w1.heap.size)) (xs++[n%256]) ys (some ⟨g,0,none⟩) vc w2 (fun w' hk'=>has_kept hh2 hk' (.inr ⟨hg1,hg2⟩)) (fun h=>by cases h) (by simp only [List.length_append,List.length_cons,List.length_nil];omega) hw2)
 have HK2:=Hm hk2
 clear hw2 hk2 K2 hh2 HHh cr hg1 hg2 hr2
 go_wp2_with fail
 refine K3.out.mono ?_
 rintro e w3 ⟨rfl,hw3,hk3⟩
 have H3:=Hm hw3
 have HK3:=Hm (HK2.out.trans hk3)
 clear hw3 hk3 K3 cr2
 go_wp2
 go_end0
 refine ⟨rfl,?_,(Kept.of_below HB1.out HWp.out.lt).trans (HK3.out.weak fun k hk=>.inl hk)⟩
 rw [HE.out,← List.append_assoc]
 exact H3.out.weak (fun k hk=>.inl hk)
def cusI (x:Cus):List Int:=nmE x.nm++x.bs
def cusE (x:Cus):List Int:=[0%256]++szE (cusI x)
theorem wcus_c (p:Nat) (S:Nat→Prop) (xs:List Int) (x:Cus) (a1:Option Addr) (c1:Nat) (w0 w:World) (hS:∀ k,k<w0.heap.size→S k) (hb:Below w0.heap.size w0 w) (hI:HI .u8 0 w0 a1 x.bs) (hl:xs.length+(cusE x).length≤500000000000) (hW:Wr0 w p S xs) :
    Calls Tryz.prog 84 #[.pointer (some ⟨p,0,none⟩),.agg #[.int .i64 x.aft,.string x.nm,.slice a1 x.bs.length c1]] w fun e w'=>e=.returned (.tuple #[])∧Wr w' p S (xs++cusE x)∧Kept S w w':=by
 obtain ⟨i0,hi,hz0,hz1,hz2⟩:=info_parts Tryz.info5
 have hne:1≤(cusI x).length:=by have:=(lebU_len 9 (bytesOf x.nm).length).1;simp only [cusI,nmE,szE,List.length_append];omega
 simp only [cusE,List.length_append,List.length_cons,List.length_nil] at hl
 have hl2:=hl
 simp only [szE,cusI,List.length_append] at hl2
 obtain ⟨W,hWd⟩:∃ W,W=w.alloc (.cells #[.int .i64 x.aft,.string x.nm,.slice a1 x.bs.length c1] 80):=⟨_,rfl⟩
 have hBk:Bk W w.heap.size [.int .i64 x.aft,.string x.nm,.slice a1 x.bs.length c1]:=by rw [hWd];exact Bk.new
 have hWs:W.heap.size=w.heap.size+1:=by rw [hWd];simp
 have bW:Below w.heap.size w W:=by rw [hWd];exact (Below.refl _ _).alloc (Nat.le_refl _) _
 obtain ⟨V,hVd⟩:∃ V,V=W.alloc (.cells #[.slice none 0 0] 138):=⟨_,rfl⟩
 have hVs:V.heap.size=W.heap.size+1:=by rw [hVd];simp
 have bV:Below W.heap.size W V:=by rw [hVd];exact (Below.refl _ _).alloc (Nat.le_refl _) _
 have bwV:Below w.heap.size w V:=bW.trans (bV.mono (by omega))
 have hBkV:Bk V w.heap.size [.int .i64 x.aft,.string x.nm,.slice a1 x.bs.length c1]:=⟨by have:=hBk.1;omega,fun j v hv=>(bV.cell (p:=⟨w.heap.size,j,none⟩) hBk.1).trans (hBk.2.1 j v hv),fun j=>(bV.frozen (p:=⟨w.heap.size,j,none⟩) hBk.1).trans (hBk.2.2 j)⟩
 have hR0:Wr V (w.heap.size+1) (fun k=>k<w.heap.size+1) []:=by rw [← hWs,hVd];exact wr_new W _ (fun k hk=>hk)
 have hSR:∀ k,k<w0.heap.size→k<w.heap.size+1:=fun k hk=>by have:=hb.size;omega
 have hb0V:Below w0.heap.size w0 V:=hb.trans (bwV.mono hb.size)
 have HWp:=Hm hW
 have HWd:=Hm hWd
 have HVd:=Hm hVd
 have BWV:=Hm bwV
 have BB:=Hm hBkV
 have K1:=Hm (wname_c (w.heap.size+1) (fun k=>k<w.heap.size+1) [] x.nm V (by simp only [List.length_nil];omega) hR0)
 have HSR:=Hm (fun (w1:World) (hk:Kept (fun k=>k<w.heap.size+1) V w1)=>has_src (HI.byhas (hI.up (up_below (kb hSR hb0V hk)))) (HI.none hI))
 have HE:Hid (cusI x=nmE x.nm++x.bs):=rfl
 have q1:=hBkV.2.1 1 _ rfl
 clear hWd hVd hBk hBkV bW bV bwV hR0 hI hW hSR hb0V hS hb
 go_enter Tryz.func84,Tryz.ntmps84
 go_wp2_with fail
 rw [show (w.alloc (.cells #[.int .i64 x.aft,.string x.nm,.slice a1 x.bs.length c1] 80)).alloc (.cells #[.slice none 0 0] 138)=V by rw [HVd.out,HWd.out]]
 refine K1.out.mono ?_
 rintro e w1 ⟨rfl,hw1,hk1⟩
 rw [List.nil_append] at hw1
 have hsc:=HSR.out w1 hk1
 have q2:w1.cell? ⟨w.heap.size,2,none⟩=some (.slice a1 x.bs.length c1):=(BB.out.kept hk1 (Nat.lt_succ_self _)).2.1 2 _ rfl
 generalize nmE x.nm=pre at *
 obtain ⟨v,c0,f0,own,hp,hr,hSs⟩:=hw1
 have lt:w.heap.size+1<w1.heap.size:=World.block_lt_of_cell? w1 _ c0
 obtain ⟨va,vc,rfl⟩:=ownE_slice own
 have HP:=Hm (fun (w2:World) (v':Value) (h2:w2.ownsRow (w.heap.size+1-1) 5 1 v' (pre.length+x.bs.length) (U pre++U x.bs)) (h3:w1.grownBy w2 (Value.slice va pre.length vc).ownBlock) (h4:v'.ownBlock=(Value.slice va pre.length vc).ownBlock∨v'.ownBlock=some w1.heap.size)=>wr_pushed (S:=fun k=>k<w.heap.size+1) (ys:=x.bs) c0 f0 own hp hr hSs (Below.refl _ _) h2 h3 h4)
 have OW:=Hm own
 have HSC:=Hm hsc
 have HK1:=Hm hk1
 have hlU:(U x.bs).length=x.bs.length*1:=by simp
 clear hk1 hp hr hSs K1 own hsc q1 HSR BB
 go_wp2_with (at_builtin;refine wpList_append_any rfl _ _ 50 rfl (w.heap.size+1-1) 5 i0 (.int .u8 0) 1 1 Tryz.underlying50 hi hz0 hz1 hz2 rfl (by decide) (.slice va pre.length vc) pre.length (U pre) rfl OW.out a1 x.bs.length c1 (U x.bs) rfl hlU HSC.out (oneU _) (by unfold maxLen;omega) (by omega) (by omega) ?_;intro v2 w2 own2 gr2 hloc;have HQ:=Hm (HP.out _ _ own2 gr2 hloc);have d0:=HQ.out.2.2.1;have df:=HQ.out.2.2.2;obtain ⟨v2a,v2c,rfl⟩:=ownE_slice own2;clear own2 gr2 hloc c0 f0)
 obtain ⟨w3,hw3⟩:∃ w3,w3=w2.setCell ⟨w.heap.size+1,0,none⟩ (.slice v2a (pre.length+x.bs.length) v2c):=⟨_,rfl⟩
 rw [← hw3]
 have hwr3:=HQ.out.1
 have hk3:=HQ.out.2.1
 rw [← hw3] at hwr3 hk3
 rw [← HE.out] at hwr3
 have b3:Below w.heap.size w w3:=BWV.out.trans ((HK1.out.trans hk3).weak (fun k (h:k<w.heap.size)=>Nat.lt_succ_of_lt h)).below
 obtain ⟨g,vc3,cr,hg1,hg2,hr2,hh⟩:=inner_row (w:=w) (ys:=cusI x) (Nat.le_refl _) hwr3 hne
 have K2:=Hm (wone0_c p (fun k=>S k∨(w.heap.size≤k∧k<w3.heap.size)) xs 0 w3 (by omega) (HWp.out.on b3))
 have HB3:=Hm b3
 have HHh:=Hm hh
 clear hwr3 hk3 hw3 hh b3 HQ d0 df q2 OW HSC HP
 refine K2.out.mono ?_
 rintro e w4 ⟨rfl,hw4,hk4⟩
 have cr2:w4.cell? ⟨w.heap.size+1,0,none⟩=some (.slice (some ⟨g,0,none⟩) (cusI x).length vc3):=(hk4.cell (.inr ⟨Nat.le_succ _,hr2⟩)).trans cr
 have hh2:=has_kept HHh.out hk4 (.inr ⟨hg1,hg2⟩)
 have K3:=Hm (wsized_c p (fun k=>S k∨(w.heap.size≤k∧k<w3.heap.size)) (xs++[0%256]) (cusI x) (some ⟨g,0,none⟩) vc3 w4 (fun w' hk'=>has_kept hh2 hk' (.inr ⟨hg1,hg2⟩)) (fun h=>by cases h) (by simp only [List.length_append,List.length_cons,List.length_nil];omega) hw4)
 have HK4:=Hm hk4
 clear hw4 hk4 K2 hh2 HHh cr hg1 hg2 hr2
 go_wp2_with fail
 refine K3.out.mono ?_
 rintro e w5 ⟨rfl,hw5,hk5⟩
 have H5:=Hm hw5
 have HK5:=Hm (HK4.out.trans hk5)
 clear hw5 hk5 K3 cr2
 go_wp2
 go_end0
 refine ⟨rfl,?_,(Kept.of_below HB3.out HWp.out.lt).trans (HK5.out.weak fun k hk=>.inl hk)⟩
 rw [cusE,← List.append_assoc]
 exact H5.out.weak (fun k hk=>.inl hk)
open Go.RowKit Go.Sort
def CRel (w0:World):List Value→List Cus→Prop
 | cs,[]=>cs=[]
 | cs,c::L=>∃ a cc cs',cs=.int .i64 c.aft::.string c.nm::.slice a c.bs.length cc::cs'∧HI .u8 0 w0 a c.bs∧CRel w0 cs' L
theorem CRel.push {w0:World} {c:Cus} {a:Option Addr} {cc:Nat} (hI:HI .u8 0 w0 a c.bs):∀ (L:List Cus) (cs:List Value),CRel w0 cs L→CRel w0 (cs++[.int .i64 c.aft,.string c.nm,.slice a c.bs.length cc]) (L++[c])
 | [],cs,h=>by
  have h:cs=[]:=h
  subst h
  exact ⟨a,cc,[],rfl,hI,rfl⟩
 | d::L,cs,h=>by
  obtain ⟨a',cc',cs',e,h1,h2⟩:=h
  subst e
  exact ⟨a',cc',_,rfl,h1,CRel.push hI L cs' h2⟩
theorem CRel.at {w0:World}:∀ (L:List Cus) (cs:List Value) (i:Nat),CRel w0 cs L→i<L.length→∃ a cc,cs[i*3]?=some (.int .i64 (L.getD i Cus.z).aft)∧cs[i*3+1]?=some (.string (L.getD i Cus.z).nm)∧cs[i*3+2]?=some (.slice a (L.getD i Cus.z).bs.length cc)∧HI .u8 0 w0 a (L.getD i Cus.z).bs
 | [],_,_,_,h=>by simp at h
 | d::L,cs,0,h,_=>by
  obtain ⟨a',cc',cs',e,h1,h2⟩:=h
  subst e
  exact ⟨a',cc',rfl,rfl,rfl,h1⟩
 | d::L,cs,i+1,h,hi=>by
  obtain ⟨a',cc',cs',e,h1,h2⟩:=h
  subst e
  obtain ⟨a,cc,q1,q2,q3,q4⟩:=CRel.at L cs' i h2 (by simpa using hi)
  refine ⟨a,cc,?_,?_,?_,?_⟩
  · rw [show (i+1)*3=i*3+3 by omega];simpa using q1
  · rw [show (i+1)*3+1=(i*3+1)+3 by omega];simpa using q2
  · rw [show (i+1)*3+2=(i*3+2)+3 by omega];simpa using q3
  · simpa using q4
def aftL (n:Int) (l:List Cus):List Cus:=l.filter (fun c=>c.aft==n)
theorem aft_step (n:Int) (l:List Cus) (k:Nat) (h:k<l.length):aftL n (l.take (k+1))=aftL n (l.take k)++(if (l.getD k Cus.z).aft=n then [l.getD k Cus.z] else []):=by
 rw [List.take_add_one,List.getElem?_eq_getElem h,show l.getD k Cus.z=l[k] by simp [List.getD,h]]
 simp only [aftL,Option.toList,List.filter_append,List.filter_cons,List.filter_nil]
 by_cases e:l[k].aft=n <;> simp [e]
theorem Tryz.infoCus:(Tryz.prog.info? 80).map (fun i=>(i.zero,i.size,i.bytes))=some (some (.agg #[.int .i64 0,.string ⟨#[]⟩,.slice none 0 0]),3,48):=by kernel_rfl
theorem oneC (x y z:Value) (hx:x.oneCell'=true) (hy:y.oneCell'=true) (hz:z.oneCell'=true):∀ u ∈ [x,y,z],u.oneCell'=true:=by
 intro u hu
 simp at hu
 rcases hu with rfl | rfl | rfl <;> assumption
theorem cell_three (w:World) (x y z:Value) (t:TypeId):∀ (j:Nat) (u:Value),[x,y,z][j]?=some u→(w.alloc (.cells #[x,y,z] t)).cell? ((⟨w.heap.size,0,none⟩:Addr).add j)=some u:=by
 intro j u hu
 rw [show (⟨w.heap.size,0,none⟩:Addr).add j=⟨w.heap.size,j,none⟩ by unfold Addr.add;split <;> simp_all]
 have:(w.alloc (.cells #[x,y,z] t)).heap[w.heap.size]?=some (.cells #[x,y,z] t):=heap_new w _
 simp only [World.cell?,this]
 simpa using hu
theorem after_c (x:Mod) (a1:Option Addr) (c1:Nat) (a2:Option Addr) (c2:Nat) (a3:Option Addr) (c3:Nat) (a4:Option Addr) (c4:Nat) (a5:Option Addr) (c5:Nat) (a6:Option Addr) (c6:Nat) (a7:Option Addr) (c7:Nat) (a8:Option Addr) (c8:Nat) (a9:Option Addr) (c9:Nat) (a10:Option Addr) (c10:Nat) (a11:Option Addr) (c11:Nat) (n:Int) (w0 w:World) (hb:Below w0.heap.size w0 w) (hI:Cus.Ls 0 w0 a11 x.customs) (hn:x.customs.length≤1048576) :
    Calls Tryz.prog 83 #[.agg #[.slice a1 x.types.length c1,.slice a2 x.imps.length c2,.slice a3 x.funcs.length c3,.slice a4 x.tabs.length c4,.slice a5 x.mems.length c5,.slice a6 x.globs.length c6,.slice a7 x.exps.length c7,.bool x.hasS,.int .i64 x.start,.slice a8 x.elems.length c8,.slice a9 x.codes.length c9,.slice a10 x.datas.length c10,.slice a11 x.customs.length c11],.int .i64 n] w fun e w'=>∃ v cs,e=.returned v∧w'.ownsRow w.heap.size 80 3 v (aftL n x.customs).length cs∧CRel w0 cs (aftL n x.customs)∧Below w.heap.size w w':=by
 obtain ⟨i0,hi,hz0,hz1,hz2⟩:=info_parts Tryz.infoCus
 have HLs:=Hm hI
 have HB:=Hm hb
 clear hI hb
 go_enter Tryz.func83,Tryz.ntmps83
 go_upto_region 1 with fail
 refine wp_gen (fun W=>Bk W w.heap.size [.slice a1 x.types.length c1,.slice a2 x.imps.length c2,.slice a3 x.funcs.length c3,.slice a4 x.tabs.length c4,.slice a5 x.mems.length c5,.slice a6 x.globs.length c6,.slice a7 x.exps.length c7,.bool x.hasS,.int .i64 x.start,.slice a8 x.elems.length c8,.slice a9 x.codes.length c9,.slice a10 x.datas.length c10,.slice a11 x.customs.length c11]∧Below w.heap.size w W) ⟨Bk.new,(Below.refl _ _).alloc (Nat.le_refl _) _⟩ ?_
 rintro W ⟨bb,hbW⟩
 have q12:=bb.2.1 12 _ rfl
 have HBW:=Hm hbW
 clear bb hbW
 go_wp2_with fail
 go_loopw [5,11] (fun v i wr=>∃ (k:Nat) (cs:List Value),k≤x.customs.length∧i=.int .i64 k∧wr.ownsRow w.heap.size 80 3 v (aftL n (x.customs.take k)).length cs∧CRel w0 cs (aftL n (x.customs.take k))∧Below w.heap.size w wr) (fun _ i _=>x.customs.length-(intOf i).toNat)
 case atStart=>exact ⟨0,[],Nat.zero_le _,rfl,by simpa [aftL] using World.ownsRow_nil _ _ _ _,by simp [aftL,CRel],HBW.out⟩
 case round =>
  obtain ⟨k,cs,hk,rfl,ho,hr,hb⟩:=hrel
  clear HBW q12
  by_cases hlt:k<x.customs.length
  · have hki:(k:Int)<(x.customs.length:Int):=by omega
    have hb0:Below w0.heap.size w0 wr:=HB.out.trans (hb.mono HB.out.size)
    rcases HLs.out with hx | ⟨b,o,ea,_,hc⟩
    · rw [hx] at hlt;simp at hlt
    have hxk:=hc k hlt
    subst ea
    have hst:=aft_step n x.customs k hlt
    have hlen:(aftL n (x.customs.take k)).length≤1048576:=by
     have h1:=List.length_filter_le (fun c:Cus=>c.aft==n) (x.customs.take k)
     have h2:(x.customs.take k).length≤x.customs.length:=by simp;omega
     unfold aftL
     omega
    generalize hxx:x.customs.getD k Cus.z=y at *
    obtain ⟨ya,yc,⟨q0,q1,q2⟩,hi2⟩:=hxk
    have lb:b<w0.heap.size:=World.block_lt_of_cell? w0 _ q0
    have q0:=(hb0.cell (p:=⟨b,o+k*3,none⟩) lb).trans q0
    have q1:=(hb0.cell (p:=⟨b,o+k*3+1,none⟩) lb).trans q1
    have q2:=(hb0.cell (p:=⟨b,o+k*3+2,none⟩) lb).trans q2
    generalize aftL n (x.customs.take k)=L at *
    have HO:=Hm ho
    have HR:=Hm hr
    have HBr:=Hm hb
    have HI2:=Hm hi2
    have hszr:=hb.size
    by_cases hy:y.aft=n
    · rw [if_pos hy] at hst
      have HSt:=Hm hst
      have hyb:(y.aft==n)=true:=by simp [hy]
      have HY:=Hm hy
      clear ho hr hb hi2 hst hb0 lb hc hxx hy HLs
      go_wp2_with (at_builtin;refine wpList_append_own _ rfl _ _ 44 rfl w.heap.size 80 i0 (.agg #[.int .i64 0,.string ⟨#[]⟩,.slice none 0 0]) 3 48 Tryz.underlying44 hi hz0 hz1 hz2 rfl (by decide) _ _ _ rfl ((HO.out.alloc _).alloc _) ⟨(wr.alloc (.cells #[.int .i64 y.aft,.string y.nm,.slice ya y.bs.length yc] 80)).heap.size,0,none⟩ 1 1 [.int .i64 y.aft,.string y.nm,.slice ya y.bs.length yc] (by simp [Act.eval,Act.put]) rfl (cell_three _ _ _ _ _) (oneC _ _ _ rfl rfl rfl) (by unfold maxLen;omega) (by omega) (by simp;omega) ?_;intro v3 w3 own3 gr3 hnn3;have HO3:=Hm own3;have HB3:=Hm (((HBr.out.alloc hszr _).alloc (by simp;omega) _).grown gr3 (by simp;omega) (fun t ht=>(HO.out.lt t ht).1));clear own3 gr3 hnn3)
      go_roundw
      case rel=>exact ⟨k+1,_,by omega,by go_num,by rw [HSt.out,List.length_append];exact HO3.out,by rw [HSt.out];exact CRel.push HI2.out L cs HR.out,HB3.out⟩
      case measure=>simp [intOf];omega
    · rw [if_neg hy,List.append_nil] at hst
      have HSt:=Hm hst
      have hyb:(y.aft==n)=false:=by simp [hy]
      clear ho hr hb hi2 hst hb0 lb hc hxx hy HLs
      go_wp2
      go_roundw
      case rel=>exact ⟨k+1,cs,by omega,by go_num,by rw [HSt.out];exact HO.out.alloc _,by rw [HSt.out];exact HR.out,HBr.out.alloc hszr _⟩
      case measure=>simp [intOf];omega
  · have e:k=x.customs.length:=by omega
    subst e
    rw [List.take_length] at ho hr
    have HO:=Hm ho
    have HR:=Hm hr
    have HBr:=Hm hb
    clear ho hr hb HLs
    go_wp2
    go_ret
    exact ⟨_,cs,rfl,HO.out,HR.out,HBr.out⟩
end Go.Proofs.YtdbmolambolmgaaGreat
