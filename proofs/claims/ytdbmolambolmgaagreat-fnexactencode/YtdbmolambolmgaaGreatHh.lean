import Derived.Test.YtdbmolambolmgaaGreatHg
import Derived.Laws.BytesArg
set_option linter.all false
set_option maxHeartbeats 16000000
set_option maxRecDepth 100000
namespace Go.Proofs.YtdbmolambolmgaaGreat
open Go.RowKit Go.Sort
set_option maxRecDepth 100000
theorem conv_bytes (da:Option Addr) (dc:Nat) (bs:List Int) (W:World) (h:HI .u8 0 W da bs):(convert 50 9 (.slice da bs.length dc)).run Tryz.prog W=.ok (.string (strOfNums bs)) W:=by
 rcases h with rfl | ⟨b,o,rfl,_,hc⟩
 · cases da with
   | none=>exact run_convert_bytes_nil W 50 5 Tryz.underlying50 Tryz.underlying5 _ _ 9 Tryz.underlying9
   | some ad =>
    rw [run_convert_bytes_string W 50 9 5 _ _ _ Tryz.underlying50 Tryz.underlying5 Tryz.underlying9]
    show (Conv.bytesToString (.slice (some ad) 0 dc)).run Tryz.prog W=_
    rw [run_bytesToString W ad 0 dc [] (by simp [loadCells,loadCellsFrom])]
    rfl
 · exact run_convert_bytes_arg W 50 5 Tryz.underlying50 Tryz.underlying5 b o _ dc bs rfl hc 9 Tryz.underlying9
theorem bytes_str (bs:List Int) (h:∀ b ∈ bs,0≤b∧b≤255):bytesOf (strOfNums bs)=bs:=by
 simp only [bytesOf,strOfNums_data,List.map_map]
 conv=>rhs;rw [← List.map_id bs]
 refine List.map_congr_left (fun b hb=>?_)
 obtain ⟨h0,h1⟩:=h b hb
 simp only [Function.comp,id]
 have:(UInt8.ofNat b.toNat).toNat=b.toNat:=by rw [UInt8.toNat_ofNat'];omega
 rw [this];omega
def Mod.Byt (x:Mod):Prop:=∀ i,i<x.datas.length→∀ b ∈ (x.datas.getD i Dat.z).bs,0≤b∧b≤255
theorem s5ent4 (x:Mod) (a1:Option Addr) (c1:Nat) (a2:Option Addr) (c2:Nat) (a3:Option Addr) (c3:Nat) (a4:Option Addr) (c4:Nat) (a5:Option Addr) (c5:Nat) (a6:Option Addr) (c6:Nat) (a7:Option Addr) (c7:Nat) (a8:Option Addr) (c8:Nat) (a9:Option Addr) (c9:Nat) (a10:Option Addr) (c10:Nat) (a11:Option Addr) (c11:Nat) (w0 w:World) (hb0:Below w0.heap.size w0 w) (hI:Mod.Is 0 w0 x a1 a2 a3 a4 a5 a6 a7 a8 a9 a10 a11) (hG:x.Gd) (hLB:Mod.LB 1048576 x) (i:Nat) (hi:i<x.tabs.length) (hl:(tabE (x.tabs.getD i Limits.z)).length≤400000000000) :
    Calls Tryz.prog 78 #[.agg #[.slice a1 x.types.length c1,.slice a2 x.imps.length c2,.slice a3 x.funcs.length c3,.slice a4 x.tabs.length c4,.slice a5 x.mems.length c5,.slice a6 x.globs.length c6,.slice a7 x.exps.length c7,.bool x.hasS,.int .i64 x.start,.slice a8 x.elems.length c8,.slice a9 x.codes.length c9,.slice a10 x.datas.length c10,.slice a11 x.customs.length c11],.int .i64 4,.int .i64 i] w fun e w'=>∃ u,e=.returned u∧Out w w' u (tabE (x.tabs.getD i Limits.z)):=by
 obtain ⟨W,hWd⟩:∃ W,W=w.alloc (.cells #[.slice a1 x.types.length c1,.slice a2 x.imps.length c2,.slice a3 x.funcs.length c3,.slice a4 x.tabs.length c4,.slice a5 x.mems.length c5,.slice a6 x.globs.length c6,.slice a7 x.exps.length c7,.bool x.hasS,.int .i64 x.start,.slice a8 x.elems.length c8,.slice a9 x.codes.length c9,.slice a10 x.datas.length c10,.slice a11 x.customs.length c11] 46):=⟨_,rfl⟩
 have hBk:Bk W w.heap.size [.slice a1 x.types.length c1,.slice a2 x.imps.length c2,.slice a3 x.funcs.length c3,.slice a4 x.tabs.length c4,.slice a5 x.mems.length c5,.slice a6 x.globs.length c6,.slice a7 x.exps.length c7,.bool x.hasS,.int .i64 x.start,.slice a8 x.elems.length c8,.slice a9 x.codes.length c9,.slice a10 x.datas.length c10,.slice a11 x.customs.length c11]:=by rw [hWd];exact Bk.new
 have hWs:W.heap.size=w.heap.size+1:=by rw [hWd];simp
 have bW:Below w.heap.size w W:=by rw [hWd];exact (Below.refl _ _).alloc (Nat.le_refl _) _
 have hbW:Below w0.heap.size w0 W:=hb0.trans (bW.mono hb0.size)
 have hw0:w0.heap.size≤w.heap.size:=hb0.size
 rcases hI.2.2.2.1 with hx | ⟨b,off,ea,_,hc⟩
 · rw [hx] at hi;simp at hi
 have hr:=hc i hi
 subst ea
 obtain ⟨⟨d0,d1,d2⟩,hi1⟩:=hr
 have lb:b<w0.heap.size:=World.block_lt_of_cell? w0 _ d0
 have d0:=(hbW.cell (p:=⟨b,off+i*3,none⟩) lb).trans d0
 have d1:=(hbW.cell (p:=⟨b,off+i*3+1,none⟩) lb).trans d1
 have d2:=(hbW.cell (p:=⟨b,off+i*3+2,none⟩) lb).trans d2
 have q:=hBk.2.1 3 _ rfl
 have hki:(i:Int)<(x.tabs.length:Int):=by omega
 have g1:=hG.tabs.2 i hi
 generalize x.tabs.getD i Limits.z=y at *
 obtain ⟨i0,hi0,hz0,hz1,hz2⟩:=info_parts Tryz.info5
 have hlz:1+(limE y).length≤400000000000:=by simp only [tabE,List.length_append,List.length_cons,List.length_nil] at hl;omega
 have hz:w.heap.size≤W.heap.size:=by omega
 have PP:∀ (p:Addr) (v:Value) (o:Obj),p.block<W.heap.size→W.cell? p=some v→(W.alloc o).cell? p=some v:=fun p v o hp hv=>(((Below.refl _ W).alloc (Nat.le_refl _) o).cell (p:=p) hp).trans hv
 have q':=fun o=>PP _ _ o (by show w.heap.size<_;omega) q
 have d0':=fun o=>PP _ _ o (by show b<_;omega) d0
 have d1':=fun o=>PP _ _ o (by show b<_;omega) d1
 have d2':=fun o=>PP _ _ o (by show b<_;omega) d2
 clear PP hWs
 have KC:=Hm (s5lim_c y (W.alloc (.cells #[.int .u8 112] 5)) g1)
 have BW:=Hm bW
 have HW:=Hm hWd
 clear hWd bW hBk hI hG hLB hb0 hbW hc lb hi1
 go_enter Tryz.func78,Tryz.ntmps78
 go_upto_region 1 with fail
 rw [← HW.out]
 clear HW
 go_wp2_with fail
 refine KC.out.mono ?_
 rintro e w2 ⟨v,rfl,ho,hb⟩
 obtain ⟨a3,c3,rfl,hs3⟩:=own_srcC ho
 have S3:=Hm hs3
 have O1:=Hm (ownE_keep (World.ownsRow_lit (base:=w.heap.size) (size:=1) (e:=5) W #[.int .u8 112] 1 hz (by decide) rfl) hb (Nat.le_refl _))
 have b2:Below w.heap.size w w2:=(BW.out.alloc hz _).trans (hb.mono (by simp;omega))
 have B2:=Hm b2
 have hz2':=b2.size
 clear ho hb hs3 b2 KC
 go_wp2_with (at_builtin;refine wpList_append_any rfl _ _ 50 rfl w.heap.size 5 i0 (.int .u8 0) 1 1 Tryz.underlying50 hi0 hz0 hz1 hz2 rfl (by decide) _ 1 (U [112]) rfl O1.out a3 (limE y).length c3 (U (limE y)) rfl (by simp) S3.out (oneU _) (by unfold maxLen;omega) (by omega) hz2' ?_;intro v6 w6 own6 gr6 hloc6;have O6:=Hm (And.intro own6 (below_own B2.out hz2' O1.out gr6));clear own6 gr6 hloc6)
 go_ret
 refine ⟨_,rfl,?_,O6.out.2⟩
 have h:=O6.out.1
 simpa [tabE,U,Nat.add_comm] using h
theorem s5ent6 (x:Mod) (a1:Option Addr) (c1:Nat) (a2:Option Addr) (c2:Nat) (a3:Option Addr) (c3:Nat) (a4:Option Addr) (c4:Nat) (a5:Option Addr) (c5:Nat) (a6:Option Addr) (c6:Nat) (a7:Option Addr) (c7:Nat) (a8:Option Addr) (c8:Nat) (a9:Option Addr) (c9:Nat) (a10:Option Addr) (c10:Nat) (a11:Option Addr) (c11:Nat) (w0 w:World) (hb0:Below w0.heap.size w0 w) (hI:Mod.Is 0 w0 x a1 a2 a3 a4 a5 a6 a7 a8 a9 a10 a11) (hG:x.Gd) (hLB:Mod.LB 1048576 x) (i:Nat) (hi:i<x.globs.length) (hl:(globE (x.globs.getD i Glob.z)).length≤400000000000) :
    Calls Tryz.prog 78 #[.agg #[.slice a1 x.types.length c1,.slice a2 x.imps.length c2,.slice a3 x.funcs.length c3,.slice a4 x.tabs.length c4,.slice a5 x.mems.length c5,.slice a6 x.globs.length c6,.slice a7 x.exps.length c7,.bool x.hasS,.int .i64 x.start,.slice a8 x.elems.length c8,.slice a9 x.codes.length c9,.slice a10 x.datas.length c10,.slice a11 x.customs.length c11],.int .i64 6,.int .i64 i] w fun e w'=>∃ u,e=.returned u∧Out w w' u (globE (x.globs.getD i Glob.z)):=by
 obtain ⟨W,hWd⟩:∃ W,W=w.alloc (.cells #[.slice a1 x.types.length c1,.slice a2 x.imps.length c2,.slice a3 x.funcs.length c3,.slice a4 x.tabs.length c4,.slice a5 x.mems.length c5,.slice a6 x.globs.length c6,.slice a7 x.exps.length c7,.bool x.hasS,.int .i64 x.start,.slice a8 x.elems.length c8,.slice a9 x.codes.length c9,.slice a10 x.datas.length c10,.slice a11 x.customs.length c11] 46):=⟨_,rfl⟩
 have hBk:Bk W w.heap.size [.slice a1 x.types.length c1,.slice a2 x.imps.length c2,.slice a3 x.funcs.length c3,.slice a4 x.tabs.length c4,.slice a5 x.mems.length c5,.slice a6 x.globs.length c6,.slice a7 x.exps.length c7,.bool x.hasS,.int .i64 x.start,.slice a8 x.elems.length c8,.slice a9 x.codes.length c9,.slice a10 x.datas.length c10,.slice a11 x.customs.length c11]:=by rw [hWd];exact Bk.new
 have hWs:W.heap.size=w.heap.size+1:=by rw [hWd];simp
 have bW:Below w.heap.size w W:=by rw [hWd];exact (Below.refl _ _).alloc (Nat.le_refl _) _
 have hbW:Below w0.heap.size w0 W:=hb0.trans (bW.mono hb0.size)
 have hw0:w0.heap.size≤w.heap.size:=hb0.size
 rcases hI.2.2.2.2.2.1 with hx | ⟨b,off,ea,_,hc⟩
 · rw [hx] at hi;simp at hi
 have hr:=hc i hi
 subst ea
 obtain ⟨na,nc,⟨d0,d1,d2⟩,hi1⟩:=hr
 have lb:b<w0.heap.size:=World.block_lt_of_cell? w0 _ d0
 have d0:=(hbW.cell (p:=⟨b,off+i*3,none⟩) lb).trans d0
 have d1:=(hbW.cell (p:=⟨b,off+i*3+1,none⟩) lb).trans d1
 have d2:=(hbW.cell (p:=⟨b,off+i*3+2,none⟩) lb).trans d2
 have q:=hBk.2.1 5 _ rfl
 have hki:(i:Int)<(x.globs.length:Int):=by omega
 have g1:=hG.globs.2 i hi
 generalize x.globs.getD i Glob.z=y at *
 have hl2:(gtE y.ty).length+(catE encI y.ini).length≤400000000000:=by simp only [globE,gtE,List.length_append] at hl⊢;omega
 have hbS:b<w.heap.size+1:=by omega
 have HRS:Hid (∀ k,k<w.heap.size+1→k<W.heap.size):=fun k hk=>by omega
 have HRB:Hid (w.heap.size+1≤W.heap.size):=by show _≤_;omega
 have HBW:=Hm hbW
 have HI1:=Hm hi1
 have BW:=Hm bW
 have HW:=Hm hWd
 clear hWd bW hBk hI hG hLB hb0 hbW hc lb hi1
 go_enter Tryz.func78,Tryz.ntmps78
 go_upto_region 1 with fail
 rw [← HW.out]
 clear HW
 go_upto_region 13 with fail
 refine rg_none (t:=50) (N:=157) (base:=(w.heap.size+1)) (slots:=[64,65,66,67,68,69,70,71,72,73,74,75,76,77,78,6]) (gs:=[.val (.pointer (some ⟨w.heap.size,5,none⟩)),.val (.slice (some ⟨b,off,none⟩) x.globs.length c6),.val (.int .i64 i),.val (.pointer (some ⟨b,off+i*3,none⟩)),.val (.pointer (some ⟨b,off+i*3,none⟩)),.val (.agg #[.int .i64 y.ty.ty,.bool y.ty.mu]),.row (gtE y.ty),.val (.pointer (some ⟨w.heap.size,5,none⟩)),.val (.slice (some ⟨b,off,none⟩) x.globs.length c6),.val (.int .i64 i),.val (.pointer (some ⟨b,off+i*3,none⟩)),.val (.pointer (some ⟨b,off+i*3+2,none⟩)),.val (.slice na y.ini.length nc),.row (catE encI y.ini),.row ((gtE y.ty++catE encI y.ini)),.row ((gtE y.ty++catE encI y.ini))]) (uses:=[none,none,none,none,none,none,some 14,none,none,none,none,none,none,some 14,some 15,none]) (S:=(fun k=>k<w.heap.size+1)) (by kernel_rfl) Tryz.underlying50 Tryz.info5 (by kernel_rfl) rfl rfl HRS.out HRB.out ?_ ?_
 · refine AllSteps.cons ?_ ?_
   · refine .pure (.pointer (some ⟨w.heap.size,5,none⟩)) rfl (fun a W_ f=>?_)
     have e3:=fx_sm' f 3 _ (by kernel_rfl) rfl
     clear f
     go_simp
     try rfl
   refine AllSteps.cons ?_ ?_
   · refine .pure (.slice (some ⟨b,off,none⟩) x.globs.length c6) rfl (fun a W_ f=>?_)
     have e64:=fx_va' f 0 64 _ rfl (by kernel_rfl) (by kernel_rfl) rfl
     have hc:=(f.kp.cell (show w.heap.size<w.heap.size+1 by omega)).trans q
     clear f
     go_simp
     try rfl
   refine AllSteps.cons ?_ ?_
   · refine .pure (.int .i64 i) rfl (fun a W_ f=>?_)
     have e2:=fx_sm' f 2 _ (by kernel_rfl) rfl
     clear f
     go_simp
     try rfl
   refine AllSteps.cons ?_ ?_
   · refine .pure (.pointer (some ⟨b,off+i*3,none⟩)) rfl (fun a W_ f=>?_)
     have e65:=fx_va' f 1 65 _ rfl (by kernel_rfl) (by kernel_rfl) rfl
     have e66:=fx_va' f 2 66 _ rfl (by kernel_rfl) (by kernel_rfl) rfl
     clear f
     go_simp
     try rfl
   refine AllSteps.cons ?_ ?_
   · refine .pure (.pointer (some ⟨b,off+i*3,none⟩)) rfl (fun a W_ f=>?_)
     have e67:=fx_va' f 3 67 _ rfl (by kernel_rfl) (by kernel_rfl) rfl
     clear f
     go_simp
     try rfl
   refine AllSteps.cons ?_ ?_
   · refine .pure (.agg #[.int .i64 y.ty.ty,.bool y.ty.mu]) rfl (fun a W_ f=>?_)
     have e68:=fx_va' f 4 68 _ rfl (by kernel_rfl) (by kernel_rfl) rfl
     have hc:=(f.kp.cell hbS).trans d0
     have hc1:=(f.kp.cell hbS).trans d1
     clear f
     go_simp
     try rfl
   refine AllSteps.cons ?_ ?_
   · refine .mk (gtE y.ty) rfl (fun a W_ K Q f hK=>?_)
     have e69:=fx_va' f 5 69 _ rfl (by kernel_rfl) (by kernel_rfl) rfl
     refine mk_call (by clear hK f;go_simp;try rfl) (s5gt_c y.ty W_) hK
   refine AllSteps.cons ?_ ?_
   · refine .pure (.pointer (some ⟨w.heap.size,5,none⟩)) rfl (fun a W_ f=>?_)
     have e3:=fx_sm' f 3 _ (by kernel_rfl) rfl
     clear f
     go_simp
     try rfl
   refine AllSteps.cons ?_ ?_
   · refine .pure (.slice (some ⟨b,off,none⟩) x.globs.length c6) rfl (fun a W_ f=>?_)
     have e71:=fx_va' f 7 71 _ rfl (by kernel_rfl) (by kernel_rfl) rfl
     have hc:=(f.kp.cell (show w.heap.size<w.heap.size+1 by omega)).trans q
     clear f
     go_simp
     try rfl
   refine AllSteps.cons ?_ ?_
   · refine .pure (.int .i64 i) rfl (fun a W_ f=>?_)
     have e2:=fx_sm' f 2 _ (by kernel_rfl) rfl
     clear f
     go_simp
     try rfl
   refine AllSteps.cons ?_ ?_
   · refine .pure (.pointer (some ⟨b,off+i*3,none⟩)) rfl (fun a W_ f=>?_)
     have e72:=fx_va' f 8 72 _ rfl (by kernel_rfl) (by kernel_rfl) rfl
     have e73:=fx_va' f 9 73 _ rfl (by kernel_rfl) (by kernel_rfl) rfl
     clear f
     go_simp
     try rfl
   refine AllSteps.cons ?_ ?_
   · refine .pure (.pointer (some ⟨b,off+i*3+2,none⟩)) rfl (fun a W_ f=>?_)
     have e74:=fx_va' f 10 74 _ rfl (by kernel_rfl) (by kernel_rfl) rfl
     clear f
     go_simp
     try rfl
   refine AllSteps.cons ?_ ?_
   · refine .pure (.slice na y.ini.length nc) rfl (fun a W_ f=>?_)
     have e75:=fx_va' f 11 75 _ rfl (by kernel_rfl) (by kernel_rfl) rfl
     have hc:=(f.kp.cell hbS).trans d2
     clear f
     go_simp
     try rfl
   refine AllSteps.cons ?_ ?_
   · refine .mk (catE encI y.ini) rfl (fun a W_ K Q f hK=>?_)
     have e76:=fx_va' f 12 76 _ rfl (by kernel_rfl) (by kernel_rfl) rfl
     have hV:Below w0.heap.size w0 W_:=HBW.out.trans (f.kp.weak (fun k (h:k<w0.heap.size)=>show k<w.heap.size+1 by omega)).below
     refine mk_call (by clear hK f;go_simp;try rfl) (slist_c y.ini na nc w0 W_ hV HI1.out g1 (by omega)) hK
   refine AllSteps.cons ?_ ?_
   · exact .app 6 13 (gtE y.ty) (catE encI y.ini) (show 6<16 by decide) (show 13<16 by decide) (by decide) rfl rfl rfl rfl rfl (.inr (by kernel_rfl)) (.inr (by kernel_rfl)) (by (try simp only [List.length_append,List.length_cons,List.length_nil]);omega) rfl
   refine AllSteps.cons ?_ ?_
   · refine .mv 14 ((gtE y.ty++catE encI y.ini)) (show 14<16 by decide) rfl rfl rfl (.inr (by kernel_rfl)) (fun a W_ f=>?_)
     clear f
     go_simp
     try rfl
   exact AllSteps.nil
 · intro a V F
   have FR:V.ownsRow (w.heap.size+1) 5 1 (a.eval (.tmp 6)) ((gtE y.ty++catE encI y.ini)).length (U ((gtE y.ty++catE encI y.ini)))∧∀ k,(a.eval (.tmp 6)).ownBlock=some k→¬ k<w.heap.size+1:=F.ro 15 _ (show 15<16 by decide) rfl rfl
   have FK:Below w.heap.size w V:=BW.out.trans (F.kp.weak (fun k (h:k<w.heap.size)=>Nat.lt_succ_of_lt h)).below
   have FE:(gtE y.ty++catE encI y.ini)=globE y:=by simp [globE,gtE]
   have FO:Out w V (a.eval (.tmp 6)) (globE y):=by
    have h:=ownE_down FR.1 (show w.heap.size≤w.heap.size+1 by omega)
    rw [FE] at h
    exact ⟨h,FK⟩
   have FD:a.defers=[]:=F.df
   clear F FR FK FE
   go_wp2
   (try simp only [Exit.inBlock,Exit.then])
   refine bodyPost_ret (results_tmp rfl _ _ _) FD ?_
   exact ⟨_,rfl,FO⟩
theorem s5ent1 (x:Mod) (a1:Option Addr) (c1:Nat) (a2:Option Addr) (c2:Nat) (a3:Option Addr) (c3:Nat) (a4:Option Addr) (c4:Nat) (a5:Option Addr) (c5:Nat) (a6:Option Addr) (c6:Nat) (a7:Option Addr) (c7:Nat) (a8:Option Addr) (c8:Nat) (a9:Option Addr) (c9:Nat) (a10:Option Addr) (c10:Nat) (a11:Option Addr) (c11:Nat) (w0 w:World) (hb0:Below w0.heap.size w0 w) (hI:Mod.Is 0 w0 x a1 a2 a3 a4 a5 a6 a7 a8 a9 a10 a11) (hG:x.Gd) (hLB:Mod.LB 1048576 x) (i:Nat) (hi:i<x.types.length) (hl:(ftE (x.types.getD i FType.z)).length≤400000000000) :
    Calls Tryz.prog 78 #[.agg #[.slice a1 x.types.length c1,.slice a2 x.imps.length c2,.slice a3 x.funcs.length c3,.slice a4 x.tabs.length c4,.slice a5 x.mems.length c5,.slice a6 x.globs.length c6,.slice a7 x.exps.length c7,.bool x.hasS,.int .i64 x.start,.slice a8 x.elems.length c8,.slice a9 x.codes.length c9,.slice a10 x.datas.length c10,.slice a11 x.customs.length c11],.int .i64 1,.int .i64 i] w fun e w'=>∃ u,e=.returned u∧Out w w' u (ftE (x.types.getD i FType.z)):=by
 obtain ⟨W,hWd⟩:∃ W,W=w.alloc (.cells #[.slice a1 x.types.length c1,.slice a2 x.imps.length c2,.slice a3 x.funcs.length c3,.slice a4 x.tabs.length c4,.slice a5 x.mems.length c5,.slice a6 x.globs.length c6,.slice a7 x.exps.length c7,.bool x.hasS,.int .i64 x.start,.slice a8 x.elems.length c8,.slice a9 x.codes.length c9,.slice a10 x.datas.length c10,.slice a11 x.customs.length c11] 46):=⟨_,rfl⟩
 have hBk:Bk W w.heap.size [.slice a1 x.types.length c1,.slice a2 x.imps.length c2,.slice a3 x.funcs.length c3,.slice a4 x.tabs.length c4,.slice a5 x.mems.length c5,.slice a6 x.globs.length c6,.slice a7 x.exps.length c7,.bool x.hasS,.int .i64 x.start,.slice a8 x.elems.length c8,.slice a9 x.codes.length c9,.slice a10 x.datas.length c10,.slice a11 x.customs.length c11]:=by rw [hWd];exact Bk.new
 have hWs:W.heap.size=w.heap.size+1:=by rw [hWd];simp
 have bW:Below w.heap.size w W:=by rw [hWd];exact (Below.refl _ _).alloc (Nat.le_refl _) _
 have hbW:Below w0.heap.size w0 W:=hb0.trans (bW.mono hb0.size)
 have hw0:w0.heap.size≤w.heap.size:=hb0.size
 rcases hI.1 with hx | ⟨b,off,ea,_,hc⟩
 · rw [hx] at hi;simp at hi
 have hr:=hc i hi
 subst ea
 obtain ⟨pa,pc,ra,rc,⟨d0,d1⟩,hi1⟩:=hr
 have lb:b<w0.heap.size:=World.block_lt_of_cell? w0 _ d0
 have d0:=(hbW.cell (p:=⟨b,off+i*2,none⟩) lb).trans d0
 have d1:=(hbW.cell (p:=⟨b,off+i*2+1,none⟩) lb).trans d1
 have q:=hBk.2.1 0 _ rfl
 have hki:(i:Int)<(x.types.length:Int):=by omega
 obtain ⟨g1,g2⟩:=hG.types.2 i hi
 generalize x.types.getD i FType.z=y at *
 have hl2:1+(lebU 9 y.ps.length++onesE y.ps).length+(lebU 9 y.rs.length++onesE y.rs).length≤400000000000:=by simp only [ftE,List.length_append,List.length_cons,List.length_nil] at hl⊢;omega
 simp only [List.length_append] at hl2
 have hbS:b<w.heap.size+1:=by omega
 have HRS:Hid (∀ k,k<w.heap.size+1→k<W.heap.size):=fun k hk=>by omega
 have HRB:Hid (w.heap.size+1≤W.heap.size):=by show _≤_;omega
 have HBW:=Hm hbW
 have HI1:=Hm hi1
 have BW:=Hm bW
 have HW:=Hm hWd
 clear hWd bW hBk hI hG hLB hb0 hbW hc lb hi1
 go_enter Tryz.func78,Tryz.ntmps78
 go_upto_region 1 with fail
 rw [← HW.out]
 clear HW
 go_upto_region 3 with fail
 refine rg_none (t:=50) (N:=157) (base:=(w.heap.size+1)) (slots:=[10,11,12,13,14,15,16,17,18,19,20,21,22,23,24,25,26,6]) (gs:=[.row ([96]),.val (.pointer (some ⟨w.heap.size,0,none⟩)),.val (.slice (some ⟨b,off,none⟩) x.types.length c1),.val (.int .i64 i),.val (.pointer (some ⟨b,off+i*2,none⟩)),.val (.pointer (some ⟨b,off+i*2,none⟩)),.val (.slice pa y.ps.length pc),.row ((lebU 9 y.ps.length++onesE y.ps)),.row (([96]++(lebU 9 y.ps.length++onesE y.ps))),.val (.pointer (some ⟨w.heap.size,0,none⟩)),.val (.slice (some ⟨b,off,none⟩) x.types.length c1),.val (.int .i64 i),.val (.pointer (some ⟨b,off+i*2,none⟩)),.val (.pointer (some ⟨b,off+i*2+1,none⟩)),.val (.slice ra y.rs.length rc),.row ((lebU 9 y.rs.length++onesE y.rs)),.row ((([96]++(lebU 9 y.ps.length++onesE y.ps))++(lebU 9 y.rs.length++onesE y.rs))),.row ((([96]++(lebU 9 y.ps.length++onesE y.ps))++(lebU 9 y.rs.length++onesE y.rs)))]) (uses:=[some 8,none,none,none,none,none,none,some 8,some 16,none,none,none,none,none,none,some 16,some 17,none]) (S:=(fun k=>k<w.heap.size+1)) (by kernel_rfl) Tryz.underlying50 Tryz.info5 (by kernel_rfl) rfl rfl HRS.out HRB.out ?_ ?_
 · refine AllSteps.cons ?_ ?_
   · refine .mk ([96]) rfl (fun a W_ K Q f hK=>?_)
     refine mk_lit (by clear hK f;go_simp;try rfl) hK
   refine AllSteps.cons ?_ ?_
   · refine .pure (.pointer (some ⟨w.heap.size,0,none⟩)) rfl (fun a W_ f=>?_)
     have e3:=fx_sm' f 3 _ (by kernel_rfl) rfl
     clear f
     go_simp
     try rfl
   refine AllSteps.cons ?_ ?_
   · refine .pure (.slice (some ⟨b,off,none⟩) x.types.length c1) rfl (fun a W_ f=>?_)
     have e11:=fx_va' f 1 11 _ rfl (by kernel_rfl) (by kernel_rfl) rfl
     have hc:=(f.kp.cell (show w.heap.size<w.heap.size+1 by omega)).trans q
     clear f
     go_simp
     try rfl
   refine AllSteps.cons ?_ ?_
   · refine .pure (.int .i64 i) rfl (fun a W_ f=>?_)
     have e2:=fx_sm' f 2 _ (by kernel_rfl) rfl
     clear f
     go_simp
     try rfl
   refine AllSteps.cons ?_ ?_
   · refine .pure (.pointer (some ⟨b,off+i*2,none⟩)) rfl (fun a W_ f=>?_)
     have e12:=fx_va' f 2 12 _ rfl (by kernel_rfl) (by kernel_rfl) rfl
     have e13:=fx_va' f 3 13 _ rfl (by kernel_rfl) (by kernel_rfl) rfl
     clear f
     go_simp
     try rfl
   refine AllSteps.cons ?_ ?_
   · refine .pure (.pointer (some ⟨b,off+i*2,none⟩)) rfl (fun a W_ f=>?_)
     have e14:=fx_va' f 4 14 _ rfl (by kernel_rfl) (by kernel_rfl) rfl
     clear f
     go_simp
     try rfl
   refine AllSteps.cons ?_ ?_
   · refine .pure (.slice pa y.ps.length pc) rfl (fun a W_ f=>?_)
     have e15:=fx_va' f 5 15 _ rfl (by kernel_rfl) (by kernel_rfl) rfl
     have hc:=(f.kp.cell hbS).trans d0
     clear f
     go_simp
     try rfl
   refine AllSteps.cons ?_ ?_
   · refine .mk ((lebU 9 y.ps.length++onesE y.ps)) rfl (fun a W_ K Q f hK=>?_)
     have e16:=fx_va' f 6 16 _ rfl (by kernel_rfl) (by kernel_rfl) rfl
     have hV:Below w0.heap.size w0 W_:=HBW.out.trans (f.kp.weak (fun k (h:k<w0.heap.size)=>show k<w.heap.size+1 by omega)).below
     refine mk_call (by clear hK f;go_simp;try rfl) (s5types_c y.ps pa pc W_ g1 (HI1.out.1.up (up_below hV)).has) hK
   refine AllSteps.cons ?_ ?_
   · exact .app 0 7 ([96]) ((lebU 9 y.ps.length++onesE y.ps)) (show 0<18 by decide) (show 7<18 by decide) (by decide) rfl rfl rfl rfl rfl (.inr (by kernel_rfl)) (.inr (by kernel_rfl)) (by (try simp only [List.length_append,List.length_cons,List.length_nil]);omega) rfl
   refine AllSteps.cons ?_ ?_
   · refine .pure (.pointer (some ⟨w.heap.size,0,none⟩)) rfl (fun a W_ f=>?_)
     have e3:=fx_sm' f 3 _ (by kernel_rfl) rfl
     clear f
     go_simp
     try rfl
   refine AllSteps.cons ?_ ?_
   · refine .pure (.slice (some ⟨b,off,none⟩) x.types.length c1) rfl (fun a W_ f=>?_)
     have e19:=fx_va' f 9 19 _ rfl (by kernel_rfl) (by kernel_rfl) rfl
     have hc:=(f.kp.cell (show w.heap.size<w.heap.size+1 by omega)).trans q
     clear f
     go_simp
     try rfl
   refine AllSteps.cons ?_ ?_
   · refine .pure (.int .i64 i) rfl (fun a W_ f=>?_)
     have e2:=fx_sm' f 2 _ (by kernel_rfl) rfl
     clear f
     go_simp
     try rfl
   refine AllSteps.cons ?_ ?_
   · refine .pure (.pointer (some ⟨b,off+i*2,none⟩)) rfl (fun a W_ f=>?_)
     have e20:=fx_va' f 10 20 _ rfl (by kernel_rfl) (by kernel_rfl) rfl
     have e21:=fx_va' f 11 21 _ rfl (by kernel_rfl) (by kernel_rfl) rfl
     clear f
     go_simp
     try rfl
   refine AllSteps.cons ?_ ?_
   · refine .pure (.pointer (some ⟨b,off+i*2+1,none⟩)) rfl (fun a W_ f=>?_)
     have e22:=fx_va' f 12 22 _ rfl (by kernel_rfl) (by kernel_rfl) rfl
     clear f
     go_simp
     try rfl
   refine AllSteps.cons ?_ ?_
   · refine .pure (.slice ra y.rs.length rc) rfl (fun a W_ f=>?_)
     have e23:=fx_va' f 13 23 _ rfl (by kernel_rfl) (by kernel_rfl) rfl
     have hc:=(f.kp.cell hbS).trans d1
     clear f
     go_simp
     try rfl
   refine AllSteps.cons ?_ ?_
   · refine .mk ((lebU 9 y.rs.length++onesE y.rs)) rfl (fun a W_ K Q f hK=>?_)
     have e24:=fx_va' f 14 24 _ rfl (by kernel_rfl) (by kernel_rfl) rfl
     have hV:Below w0.heap.size w0 W_:=HBW.out.trans (f.kp.weak (fun k (h:k<w0.heap.size)=>show k<w.heap.size+1 by omega)).below
     refine mk_call (by clear hK f;go_simp;try rfl) (s5types_c y.rs ra rc W_ g2 (HI1.out.2.up (up_below hV)).has) hK
   refine AllSteps.cons ?_ ?_
   · exact .app 8 15 (([96]++(lebU 9 y.ps.length++onesE y.ps))) ((lebU 9 y.rs.length++onesE y.rs)) (show 8<18 by decide) (show 15<18 by decide) (by decide) rfl rfl rfl rfl rfl (.inr (by kernel_rfl)) (.inr (by kernel_rfl)) (by (try simp only [List.length_append,List.length_cons,List.length_nil]);omega) rfl
   refine AllSteps.cons ?_ ?_
   · refine .mv 16 ((([96]++(lebU 9 y.ps.length++onesE y.ps))++(lebU 9 y.rs.length++onesE y.rs))) (show 16<18 by decide) rfl rfl rfl (.inr (by kernel_rfl)) (fun a W_ f=>?_)
     clear f
     go_simp
     try rfl
   exact AllSteps.nil
 · intro a V F
   have FR:V.ownsRow (w.heap.size+1) 5 1 (a.eval (.tmp 6)) ((([96]++(lebU 9 y.ps.length++onesE y.ps))++(lebU 9 y.rs.length++onesE y.rs))).length (U ((([96]++(lebU 9 y.ps.length++onesE y.ps))++(lebU 9 y.rs.length++onesE y.rs))))∧∀ k,(a.eval (.tmp 6)).ownBlock=some k→¬ k<w.heap.size+1:=F.ro 17 _ (show 17<18 by decide) rfl rfl
   have FK:Below w.heap.size w V:=BW.out.trans (F.kp.weak (fun k (h:k<w.heap.size)=>Nat.lt_succ_of_lt h)).below
   have FE:(([96]++(lebU 9 y.ps.length++onesE y.ps))++(lebU 9 y.rs.length++onesE y.rs))=ftE y:=by simp [ftE]
   have FO:Out w V (a.eval (.tmp 6)) (ftE y):=by
    have h:=ownE_down FR.1 (show w.heap.size≤w.heap.size+1 by omega)
    rw [FE] at h
    exact ⟨h,FK⟩
   have FD:a.defers=[]:=F.df
   clear F FR FK FE
   go_wp2
   (try simp only [Exit.inBlock,Exit.then])
   refine bodyPost_ret (results_tmp rfl _ _ _) FD ?_
   exact ⟨_,rfl,FO⟩
theorem s5ent7 (x:Mod) (a1:Option Addr) (c1:Nat) (a2:Option Addr) (c2:Nat) (a3:Option Addr) (c3:Nat) (a4:Option Addr) (c4:Nat) (a5:Option Addr) (c5:Nat) (a6:Option Addr) (c6:Nat) (a7:Option Addr) (c7:Nat) (a8:Option Addr) (c8:Nat) (a9:Option Addr) (c9:Nat) (a10:Option Addr) (c10:Nat) (a11:Option Addr) (c11:Nat) (w0 w:World) (hb0:Below w0.heap.size w0 w) (hI:Mod.Is 0 w0 x a1 a2 a3 a4 a5 a6 a7 a8 a9 a10 a11) (hG:x.Gd) (hLB:Mod.LB 1048576 x) (i:Nat) (hi:i<x.exps.length) (hl:(expE (x.exps.getD i Exp.z)).length≤400000000000) :
    Calls Tryz.prog 78 #[.agg #[.slice a1 x.types.length c1,.slice a2 x.imps.length c2,.slice a3 x.funcs.length c3,.slice a4 x.tabs.length c4,.slice a5 x.mems.length c5,.slice a6 x.globs.length c6,.slice a7 x.exps.length c7,.bool x.hasS,.int .i64 x.start,.slice a8 x.elems.length c8,.slice a9 x.codes.length c9,.slice a10 x.datas.length c10,.slice a11 x.customs.length c11],.int .i64 7,.int .i64 i] w fun e w'=>∃ u,e=.returned u∧Out w w' u (expE (x.exps.getD i Exp.z)):=by
 obtain ⟨W,hWd⟩:∃ W,W=w.alloc (.cells #[.slice a1 x.types.length c1,.slice a2 x.imps.length c2,.slice a3 x.funcs.length c3,.slice a4 x.tabs.length c4,.slice a5 x.mems.length c5,.slice a6 x.globs.length c6,.slice a7 x.exps.length c7,.bool x.hasS,.int .i64 x.start,.slice a8 x.elems.length c8,.slice a9 x.codes.length c9,.slice a10 x.datas.length c10,.slice a11 x.customs.length c11] 46):=⟨_,rfl⟩
 have hBk:Bk W w.heap.size [.slice a1 x.types.length c1,.slice a2 x.imps.length c2,.slice a3 x.funcs.length c3,.slice a4 x.tabs.length c4,.slice a5 x.mems.length c5,.slice a6 x.globs.length c6,.slice a7 x.exps.length c7,.bool x.hasS,.int .i64 x.start,.slice a8 x.elems.length c8,.slice a9 x.codes.length c9,.slice a10 x.datas.length c10,.slice a11 x.customs.length c11]:=by rw [hWd];exact Bk.new
 have hWs:W.heap.size=w.heap.size+1:=by rw [hWd];simp
 have bW:Below w.heap.size w W:=by rw [hWd];exact (Below.refl _ _).alloc (Nat.le_refl _) _
 have hbW:Below w0.heap.size w0 W:=hb0.trans (bW.mono hb0.size)
 have hw0:w0.heap.size≤w.heap.size:=hb0.size
 rcases hI.2.2.2.2.2.2.1 with hx | ⟨b,off,ea,_,hc⟩
 · rw [hx] at hi;simp at hi
 have hr:=hc i hi
 subst ea
 obtain ⟨⟨d0,d1,d2⟩,hi1⟩:=hr
 have lb:b<w0.heap.size:=World.block_lt_of_cell? w0 _ d0
 have d0:=(hbW.cell (p:=⟨b,off+i*3,none⟩) lb).trans d0
 have d1:=(hbW.cell (p:=⟨b,off+i*3+1,none⟩) lb).trans d1
 have d2:=(hbW.cell (p:=⟨b,off+i*3+2,none⟩) lb).trans d2
 have q:=hBk.2.1 6 _ rfl
 have hki:(i:Int)<(x.exps.length:Int):=by omega
 obtain ⟨g1,g2⟩:=hG.exps.2 i hi
 have g3:=hLB.2.2.2.2.2.2.1.2 i hi
 generalize x.exps.getD i Exp.z=y at *
 have g3:y.nm.size≤1048576:=g3
 have hwu:IntKind.u64.wrap y.ix=y.ix:=by rw [IntKind.wrap_u64];omega
 have hw8:IntKind.u8.wrap y.kind=y.kind%256:=wu8 y.kind
 have hl2:(nmE y.nm).length+1+(lebU 9 y.ix).length≤400000000000:=by simp only [expE,List.length_append,List.length_cons,List.length_nil] at hl⊢;omega
 have hbS:b<w.heap.size+1:=by omega
 have HRS:Hid (∀ k,k<w.heap.size+1→k<W.heap.size):=fun k hk=>by omega
 have HRB:Hid (w.heap.size+1≤W.heap.size):=by show _≤_;omega
 have HBW:=Hm hbW
 have HI1:=Hm hi1
 have BW:=Hm bW
 have HW:=Hm hWd
 clear hWd bW hBk hI hG hLB hb0 hbW hc lb hi1
 go_enter Tryz.func78,Tryz.ntmps78
 go_upto_region 1 with fail
 rw [← HW.out]
 clear HW
 go_upto_region 15 with fail
 refine rg_none (t:=50) (N:=157) (base:=(w.heap.size+1)) (slots:=[81,82,83,84,85,86,87,88,89,90,91,92,93,94,95,96,97,98,99,100,101,102,103,104,105,6]) (gs:=[.val (.pointer (some ⟨w.heap.size,6,none⟩)),.val (.slice (some ⟨b,off,none⟩) x.exps.length c7),.val (.int .i64 i),.val (.pointer (some ⟨b,off+i*3,none⟩)),.val (.pointer (some ⟨b,off+i*3,none⟩)),.val (.string y.nm),.row (nmE y.nm),.val (.pointer (some ⟨w.heap.size,6,none⟩)),.val (.slice (some ⟨b,off,none⟩) x.exps.length c7),.val (.int .i64 i),.val (.pointer (some ⟨b,off+i*3,none⟩)),.val (.pointer (some ⟨b,off+i*3+1,none⟩)),.val (.int .i64 y.kind),.val (.int .u8 (y.kind%256)),.row ([y.kind%256]),.row ((nmE y.nm++[y.kind%256])),.val (.pointer (some ⟨w.heap.size,6,none⟩)),.val (.slice (some ⟨b,off,none⟩) x.exps.length c7),.val (.int .i64 i),.val (.pointer (some ⟨b,off+i*3,none⟩)),.val (.pointer (some ⟨b,off+i*3+2,none⟩)),.val (.int .i64 y.ix),.val (.int .u64 y.ix),.row (lebU 9 y.ix),.row (((nmE y.nm++[y.kind%256])++lebU 9 y.ix)),.row (((nmE y.nm++[y.kind%256])++lebU 9 y.ix))]) (uses:=[none,none,none,none,none,none,some 15,none,none,none,none,none,none,none,some 15,some 24,none,none,none,none,none,none,none,some 24,some 25,none]) (S:=(fun k=>k<w.heap.size+1)) (by kernel_rfl) Tryz.underlying50 Tryz.info5 (by kernel_rfl) rfl rfl HRS.out HRB.out ?_ ?_
 · refine AllSteps.cons ?_ ?_
   · refine .pure (.pointer (some ⟨w.heap.size,6,none⟩)) rfl (fun a W_ f=>?_)
     have e3:=fx_sm' f 3 _ (by kernel_rfl) rfl
     clear f
     go_simp
     try rfl
   refine AllSteps.cons ?_ ?_
   · refine .pure (.slice (some ⟨b,off,none⟩) x.exps.length c7) rfl (fun a W_ f=>?_)
     have e81:=fx_va' f 0 81 _ rfl (by kernel_rfl) (by kernel_rfl) rfl
     have hc:=(f.kp.cell (show w.heap.size<w.heap.size+1 by omega)).trans q
     clear f
     go_simp
     try rfl
   refine AllSteps.cons ?_ ?_
   · refine .pure (.int .i64 i) rfl (fun a W_ f=>?_)
     have e2:=fx_sm' f 2 _ (by kernel_rfl) rfl
     clear f
     go_simp
     try rfl
   refine AllSteps.cons ?_ ?_
   · refine .pure (.pointer (some ⟨b,off+i*3,none⟩)) rfl (fun a W_ f=>?_)
     have e82:=fx_va' f 1 82 _ rfl (by kernel_rfl) (by kernel_rfl) rfl
     have e83:=fx_va' f 2 83 _ rfl (by kernel_rfl) (by kernel_rfl) rfl
     clear f
     go_simp
     try rfl
   refine AllSteps.cons ?_ ?_
   · refine .pure (.pointer (some ⟨b,off+i*3,none⟩)) rfl (fun a W_ f=>?_)
     have e84:=fx_va' f 3 84 _ rfl (by kernel_rfl) (by kernel_rfl) rfl
     clear f
     go_simp
     try rfl
   refine AllSteps.cons ?_ ?_
   · refine .pure (.string y.nm) rfl (fun a W_ f=>?_)
     have e85:=fx_va' f 4 85 _ rfl (by kernel_rfl) (by kernel_rfl) rfl
     have hc:=(f.kp.cell hbS).trans d0
     clear f
     go_simp
     try rfl
   refine AllSteps.cons ?_ ?_
   · refine .mk (nmE y.nm) rfl (fun a W_ K Q f hK=>?_)
     have e86:=fx_va' f 5 86 _ rfl (by kernel_rfl) (by kernel_rfl) rfl
     refine mk_call (by clear hK f;go_simp;try rfl) (s5name_c y.nm W_ g3) hK
   refine AllSteps.cons ?_ ?_
   · refine .pure (.pointer (some ⟨w.heap.size,6,none⟩)) rfl (fun a W_ f=>?_)
     have e3:=fx_sm' f 3 _ (by kernel_rfl) rfl
     clear f
     go_simp
     try rfl
   refine AllSteps.cons ?_ ?_
   · refine .pure (.slice (some ⟨b,off,none⟩) x.exps.length c7) rfl (fun a W_ f=>?_)
     have e88:=fx_va' f 7 88 _ rfl (by kernel_rfl) (by kernel_rfl) rfl
     have hc:=(f.kp.cell (show w.heap.size<w.heap.size+1 by omega)).trans q
     clear f
     go_simp
     try rfl
   refine AllSteps.cons ?_ ?_
   · refine .pure (.int .i64 i) rfl (fun a W_ f=>?_)
     have e2:=fx_sm' f 2 _ (by kernel_rfl) rfl
     clear f
     go_simp
     try rfl
   refine AllSteps.cons ?_ ?_
   · refine .pure (.pointer (some ⟨b,off+i*3,none⟩)) rfl (fun a W_ f=>?_)
     have e89:=fx_va' f 8 89 _ rfl (by kernel_rfl) (by kernel_rfl) rfl
     have e90:=fx_va' f 9 90 _ rfl (by kernel_rfl) (by kernel_rfl) rfl
     clear f
     go_simp
     try rfl
   refine AllSteps.cons ?_ ?_
   · refine .pure (.pointer (some ⟨b,off+i*3+1,none⟩)) rfl (fun a W_ f=>?_)
     have e91:=fx_va' f 10 91 _ rfl (by kernel_rfl) (by kernel_rfl) rfl
     clear f
     go_simp
     try rfl
   refine AllSteps.cons ?_ ?_
   · refine .pure (.int .i64 y.kind) rfl (fun a W_ f=>?_)
     have e92:=fx_va' f 11 92 _ rfl (by kernel_rfl) (by kernel_rfl) rfl
     have hc:=(f.kp.cell hbS).trans d1
     clear f
     go_simp
     try rfl
   refine AllSteps.cons ?_ ?_
   · refine .pure (.int .u8 (y.kind%256)) rfl (fun a W_ f=>?_)
     have e93:=fx_va' f 12 93 _ rfl (by kernel_rfl) (by kernel_rfl) rfl
     clear f
     go_simp
     try rfl
   refine AllSteps.cons ?_ ?_
   · refine .mk ([y.kind%256]) rfl (fun a W_ K Q f hK=>?_)
     have e94:=fx_va' f 13 94 _ rfl (by kernel_rfl) (by kernel_rfl) rfl
     refine mk_lit (by clear hK f;go_simp;try rfl) hK
   refine AllSteps.cons ?_ ?_
   · exact .app 6 14 (nmE y.nm) ([y.kind%256]) (show 6<26 by decide) (show 14<26 by decide) (by decide) rfl rfl rfl rfl rfl (.inr (by kernel_rfl)) (.inr (by kernel_rfl)) (by (try simp only [List.length_append,List.length_cons,List.length_nil]);omega) rfl
   refine AllSteps.cons ?_ ?_
   · refine .pure (.pointer (some ⟨w.heap.size,6,none⟩)) rfl (fun a W_ f=>?_)
     have e3:=fx_sm' f 3 _ (by kernel_rfl) rfl
     clear f
     go_simp
     try rfl
   refine AllSteps.cons ?_ ?_
   · refine .pure (.slice (some ⟨b,off,none⟩) x.exps.length c7) rfl (fun a W_ f=>?_)
     have e97:=fx_va' f 16 97 _ rfl (by kernel_rfl) (by kernel_rfl) rfl
     have hc:=(f.kp.cell (show w.heap.size<w.heap.size+1 by omega)).trans q
     clear f
     go_simp
     try rfl
   refine AllSteps.cons ?_ ?_
   · refine .pure (.int .i64 i) rfl (fun a W_ f=>?_)
     have e2:=fx_sm' f 2 _ (by kernel_rfl) rfl
     clear f
     go_simp
     try rfl
   refine AllSteps.cons ?_ ?_
   · refine .pure (.pointer (some ⟨b,off+i*3,none⟩)) rfl (fun a W_ f=>?_)
     have e98:=fx_va' f 17 98 _ rfl (by kernel_rfl) (by kernel_rfl) rfl
     have e99:=fx_va' f 18 99 _ rfl (by kernel_rfl) (by kernel_rfl) rfl
     clear f
     go_simp
     try rfl
   refine AllSteps.cons ?_ ?_
   · refine .pure (.pointer (some ⟨b,off+i*3+2,none⟩)) rfl (fun a W_ f=>?_)
     have e100:=fx_va' f 19 100 _ rfl (by kernel_rfl) (by kernel_rfl) rfl
     clear f
     go_simp
     try rfl
   refine AllSteps.cons ?_ ?_
   · refine .pure (.int .i64 y.ix) rfl (fun a W_ f=>?_)
     have e101:=fx_va' f 20 101 _ rfl (by kernel_rfl) (by kernel_rfl) rfl
     have hc:=(f.kp.cell hbS).trans d2
     clear f
     go_simp
     try rfl
   refine AllSteps.cons ?_ ?_
   · refine .pure (.int .u64 y.ix) rfl (fun a W_ f=>?_)
     have e102:=fx_va' f 21 102 _ rfl (by kernel_rfl) (by kernel_rfl) rfl
     clear f
     go_simp
     try rfl
   refine AllSteps.cons ?_ ?_
   · refine .mk (lebU 9 y.ix) rfl (fun a W_ K Q f hK=>?_)
     have e103:=fx_va' f 22 103 _ rfl (by kernel_rfl) (by kernel_rfl) rfl
     refine mk_call (by clear hK f;go_simp;try rfl) (specPutU_any y.ix W_ (by omega) (by omega)) hK
   refine AllSteps.cons ?_ ?_
   · exact .app 15 23 ((nmE y.nm++[y.kind%256])) (lebU 9 y.ix) (show 15<26 by decide) (show 23<26 by decide) (by decide) rfl rfl rfl rfl rfl (.inr (by kernel_rfl)) (.inr (by kernel_rfl)) (by (try simp only [List.length_append,List.length_cons,List.length_nil]);omega) rfl
   refine AllSteps.cons ?_ ?_
   · refine .mv 24 (((nmE y.nm++[y.kind%256])++lebU 9 y.ix)) (show 24<26 by decide) rfl rfl rfl (.inr (by kernel_rfl)) (fun a W_ f=>?_)
     clear f
     go_simp
     try rfl
   exact AllSteps.nil
 · intro a V F
   have FR:V.ownsRow (w.heap.size+1) 5 1 (a.eval (.tmp 6)) (((nmE y.nm++[y.kind%256])++lebU 9 y.ix)).length (U (((nmE y.nm++[y.kind%256])++lebU 9 y.ix)))∧∀ k,(a.eval (.tmp 6)).ownBlock=some k→¬ k<w.heap.size+1:=F.ro 25 _ (show 25<26 by decide) rfl rfl
   have FK:Below w.heap.size w V:=BW.out.trans (F.kp.weak (fun k (h:k<w.heap.size)=>Nat.lt_succ_of_lt h)).below
   have FE:((nmE y.nm++[y.kind%256])++lebU 9 y.ix)=expE y:=by simp [expE]
   have FO:Out w V (a.eval (.tmp 6)) (expE y):=by
    have h:=ownE_down FR.1 (show w.heap.size≤w.heap.size+1 by omega)
    rw [FE] at h
    exact ⟨h,FK⟩
   have FD:a.defers=[]:=F.df
   clear F FR FK FE
   go_wp2
   (try simp only [Exit.inBlock,Exit.then])
   refine bodyPost_ret (results_tmp rfl _ _ _) FD ?_
   exact ⟨_,rfl,FO⟩
theorem s5ent9 (x:Mod) (a1:Option Addr) (c1:Nat) (a2:Option Addr) (c2:Nat) (a3:Option Addr) (c3:Nat) (a4:Option Addr) (c4:Nat) (a5:Option Addr) (c5:Nat) (a6:Option Addr) (c6:Nat) (a7:Option Addr) (c7:Nat) (a8:Option Addr) (c8:Nat) (a9:Option Addr) (c9:Nat) (a10:Option Addr) (c10:Nat) (a11:Option Addr) (c11:Nat) (w0 w:World) (hb0:Below w0.heap.size w0 w) (hI:Mod.Is 0 w0 x a1 a2 a3 a4 a5 a6 a7 a8 a9 a10 a11) (hG:x.Gd) (hLB:Mod.LB 1048576 x) (i:Nat) (hi:i<x.elems.length) (hl:(eleE (x.elems.getD i Ele.z)).length≤400000000000) :
    Calls Tryz.prog 78 #[.agg #[.slice a1 x.types.length c1,.slice a2 x.imps.length c2,.slice a3 x.funcs.length c3,.slice a4 x.tabs.length c4,.slice a5 x.mems.length c5,.slice a6 x.globs.length c6,.slice a7 x.exps.length c7,.bool x.hasS,.int .i64 x.start,.slice a8 x.elems.length c8,.slice a9 x.codes.length c9,.slice a10 x.datas.length c10,.slice a11 x.customs.length c11],.int .i64 9,.int .i64 i] w fun e w'=>∃ u,e=.returned u∧Out w w' u (eleE (x.elems.getD i Ele.z)):=by
 obtain ⟨W,hWd⟩:∃ W,W=w.alloc (.cells #[.slice a1 x.types.length c1,.slice a2 x.imps.length c2,.slice a3 x.funcs.length c3,.slice a4 x.tabs.length c4,.slice a5 x.mems.length c5,.slice a6 x.globs.length c6,.slice a7 x.exps.length c7,.bool x.hasS,.int .i64 x.start,.slice a8 x.elems.length c8,.slice a9 x.codes.length c9,.slice a10 x.datas.length c10,.slice a11 x.customs.length c11] 46):=⟨_,rfl⟩
 have hBk:Bk W w.heap.size [.slice a1 x.types.length c1,.slice a2 x.imps.length c2,.slice a3 x.funcs.length c3,.slice a4 x.tabs.length c4,.slice a5 x.mems.length c5,.slice a6 x.globs.length c6,.slice a7 x.exps.length c7,.bool x.hasS,.int .i64 x.start,.slice a8 x.elems.length c8,.slice a9 x.codes.length c9,.slice a10 x.datas.length c10,.slice a11 x.customs.length c11]:=by rw [hWd];exact Bk.new
 have hWs:W.heap.size=w.heap.size+1:=by rw [hWd];simp
 have bW:Below w.heap.size w W:=by rw [hWd];exact (Below.refl _ _).alloc (Nat.le_refl _) _
 have hbW:Below w0.heap.size w0 W:=hb0.trans (bW.mono hb0.size)
 have hw0:w0.heap.size≤w.heap.size:=hb0.size
 rcases hI.2.2.2.2.2.2.2.1 with hx | ⟨b,off,ea,_,hc⟩
 · rw [hx] at hi;simp at hi
 have hr:=hc i hi
 subst ea
 obtain ⟨na,nc,fa,fc,⟨d0,d1⟩,hi1⟩:=hr
 have lb:b<w0.heap.size:=World.block_lt_of_cell? w0 _ d0
 have d0:=(hbW.cell (p:=⟨b,off+i*2,none⟩) lb).trans d0
 have d1:=(hbW.cell (p:=⟨b,off+i*2+1,none⟩) lb).trans d1
 have q:=hBk.2.1 9 _ rfl
 have hki:(i:Int)<(x.elems.length:Int):=by omega
 obtain ⟨g1,g2,g3⟩:=hG.elems.2 i hi
 generalize x.elems.getD i Ele.z=y at *
 have hl2:1+(catE encI y.off).length+(lebU 9 y.fs.length++nums y.fs).length≤400000000000:=by simp only [eleE,List.length_append,List.length_cons,List.length_nil] at hl⊢;omega
 simp only [List.length_append] at hl2
 have hbS:b<w.heap.size+1:=by omega
 have HRS:Hid (∀ k,k<w.heap.size+1→k<W.heap.size):=fun k hk=>by omega
 have HRB:Hid (w.heap.size+1≤W.heap.size):=by show _≤_;omega
 have HBW:=Hm hbW
 have HI1:=Hm hi1
 have BW:=Hm bW
 have HW:=Hm hWd
 clear hWd bW hBk hI hG hLB hb0 hbW hc lb hi1
 go_enter Tryz.func78,Tryz.ntmps78
 go_upto_region 1 with fail
 rw [← HW.out]
 clear HW
 go_upto_region 19 with fail
 refine rg_none (t:=50) (N:=157) (base:=(w.heap.size+1)) (slots:=[114,115,116,117,118,119,120,121,122,123,124,125,126,127,128,129,130,6]) (gs:=[.row ([0]),.val (.pointer (some ⟨w.heap.size,9,none⟩)),.val (.slice (some ⟨b,off,none⟩) x.elems.length c8),.val (.int .i64 i),.val (.pointer (some ⟨b,off+i*2,none⟩)),.val (.pointer (some ⟨b,off+i*2,none⟩)),.val (.slice na y.off.length nc),.row (catE encI y.off),.row (([0]++catE encI y.off)),.val (.pointer (some ⟨w.heap.size,9,none⟩)),.val (.slice (some ⟨b,off,none⟩) x.elems.length c8),.val (.int .i64 i),.val (.pointer (some ⟨b,off+i*2,none⟩)),.val (.pointer (some ⟨b,off+i*2+1,none⟩)),.val (.slice fa y.fs.length fc),.row ((lebU 9 y.fs.length++nums y.fs)),.row ((([0]++catE encI y.off)++(lebU 9 y.fs.length++nums y.fs))),.row ((([0]++catE encI y.off)++(lebU 9 y.fs.length++nums y.fs)))]) (uses:=[some 8,none,none,none,none,none,none,some 8,some 16,none,none,none,none,none,none,some 16,some 17,none]) (S:=(fun k=>k<w.heap.size+1)) (by kernel_rfl) Tryz.underlying50 Tryz.info5 (by kernel_rfl) rfl rfl HRS.out HRB.out ?_ ?_
 · refine AllSteps.cons ?_ ?_
   · refine .mk ([0]) rfl (fun a W_ K Q f hK=>?_)
     refine mk_lit (by clear hK f;go_simp;try rfl) hK
   refine AllSteps.cons ?_ ?_
   · refine .pure (.pointer (some ⟨w.heap.size,9,none⟩)) rfl (fun a W_ f=>?_)
     have e3:=fx_sm' f 3 _ (by kernel_rfl) rfl
     clear f
     go_simp
     try rfl
   refine AllSteps.cons ?_ ?_
   · refine .pure (.slice (some ⟨b,off,none⟩) x.elems.length c8) rfl (fun a W_ f=>?_)
     have e115:=fx_va' f 1 115 _ rfl (by kernel_rfl) (by kernel_rfl) rfl
     have hc:=(f.kp.cell (show w.heap.size<w.heap.size+1 by omega)).trans q
     clear f
     go_simp
     try rfl
   refine AllSteps.cons ?_ ?_
   · refine .pure (.int .i64 i) rfl (fun a W_ f=>?_)
     have e2:=fx_sm' f 2 _ (by kernel_rfl) rfl
     clear f
     go_simp
     try rfl
   refine AllSteps.cons ?_ ?_
   · refine .pure (.pointer (some ⟨b,off+i*2,none⟩)) rfl (fun a W_ f=>?_)
     have e116:=fx_va' f 2 116 _ rfl (by kernel_rfl) (by kernel_rfl) rfl
     have e117:=fx_va' f 3 117 _ rfl (by kernel_rfl) (by kernel_rfl) rfl
     clear f
     go_simp
     try rfl
   refine AllSteps.cons ?_ ?_
   · refine .pure (.pointer (some ⟨b,off+i*2,none⟩)) rfl (fun a W_ f=>?_)
     have e118:=fx_va' f 4 118 _ rfl (by kernel_rfl) (by kernel_rfl) rfl
     clear f
     go_simp
     try rfl
   refine AllSteps.cons ?_ ?_
   · refine .pure (.slice na y.off.length nc) rfl (fun a W_ f=>?_)
     have e119:=fx_va' f 5 119 _ rfl (by kernel_rfl) (by kernel_rfl) rfl
     have hc:=(f.kp.cell hbS).trans d0
     clear f
     go_simp
     try rfl
   refine AllSteps.cons ?_ ?_
   · refine .mk (catE encI y.off) rfl (fun a W_ K Q f hK=>?_)
     have e120:=fx_va' f 6 120 _ rfl (by kernel_rfl) (by kernel_rfl) rfl
     have hV:Below w0.heap.size w0 W_:=HBW.out.trans (f.kp.weak (fun k (h:k<w0.heap.size)=>show k<w.heap.size+1 by omega)).below
     refine mk_call (by clear hK f;go_simp;try rfl) (slist_c y.off na nc w0 W_ hV HI1.out.1 g1 (by omega)) hK
   refine AllSteps.cons ?_ ?_
   · exact .app 0 7 ([0]) (catE encI y.off) (show 0<18 by decide) (show 7<18 by decide) (by decide) rfl rfl rfl rfl rfl (.inr (by kernel_rfl)) (.inr (by kernel_rfl)) (by (try simp only [List.length_append,List.length_cons,List.length_nil]);omega) rfl
   refine AllSteps.cons ?_ ?_
   · refine .pure (.pointer (some ⟨w.heap.size,9,none⟩)) rfl (fun a W_ f=>?_)
     have e3:=fx_sm' f 3 _ (by kernel_rfl) rfl
     clear f
     go_simp
     try rfl
   refine AllSteps.cons ?_ ?_
   · refine .pure (.slice (some ⟨b,off,none⟩) x.elems.length c8) rfl (fun a W_ f=>?_)
     have e123:=fx_va' f 9 123 _ rfl (by kernel_rfl) (by kernel_rfl) rfl
     have hc:=(f.kp.cell (show w.heap.size<w.heap.size+1 by omega)).trans q
     clear f
     go_simp
     try rfl
   refine AllSteps.cons ?_ ?_
   · refine .pure (.int .i64 i) rfl (fun a W_ f=>?_)
     have e2:=fx_sm' f 2 _ (by kernel_rfl) rfl
     clear f
     go_simp
     try rfl
   refine AllSteps.cons ?_ ?_
   · refine .pure (.pointer (some ⟨b,off+i*2,none⟩)) rfl (fun a W_ f=>?_)
     have e124:=fx_va' f 10 124 _ rfl (by kernel_rfl) (by kernel_rfl) rfl
     have e125:=fx_va' f 11 125 _ rfl (by kernel_rfl) (by kernel_rfl) rfl
     clear f
     go_simp
     try rfl
   refine AllSteps.cons ?_ ?_
   · refine .pure (.pointer (some ⟨b,off+i*2+1,none⟩)) rfl (fun a W_ f=>?_)
     have e126:=fx_va' f 12 126 _ rfl (by kernel_rfl) (by kernel_rfl) rfl
     clear f
     go_simp
     try rfl
   refine AllSteps.cons ?_ ?_
   · refine .pure (.slice fa y.fs.length fc) rfl (fun a W_ f=>?_)
     have e127:=fx_va' f 13 127 _ rfl (by kernel_rfl) (by kernel_rfl) rfl
     have hc:=(f.kp.cell hbS).trans d1
     clear f
     go_simp
     try rfl
   refine AllSteps.cons ?_ ?_
   · refine .mk ((lebU 9 y.fs.length++nums y.fs)) rfl (fun a W_ K Q f hK=>?_)
     have e128:=fx_va' f 14 128 _ rfl (by kernel_rfl) (by kernel_rfl) rfl
     have hV:Below w0.heap.size w0 W_:=HBW.out.trans (f.kp.weak (fun k (h:k<w0.heap.size)=>show k<w.heap.size+1 by omega)).below
     refine mk_call (by clear hK f;go_simp;try rfl) (snums_c y.fs fa fc W_ g2 g3 (HI1.out.2.up (up_below hV)).has) hK
   refine AllSteps.cons ?_ ?_
   · exact .app 8 15 (([0]++catE encI y.off)) ((lebU 9 y.fs.length++nums y.fs)) (show 8<18 by decide) (show 15<18 by decide) (by decide) rfl rfl rfl rfl rfl (.inr (by kernel_rfl)) (.inr (by kernel_rfl)) (by (try simp only [List.length_append,List.length_cons,List.length_nil]);omega) rfl
   refine AllSteps.cons ?_ ?_
   · refine .mv 16 ((([0]++catE encI y.off)++(lebU 9 y.fs.length++nums y.fs))) (show 16<18 by decide) rfl rfl rfl (.inr (by kernel_rfl)) (fun a W_ f=>?_)
     clear f
     go_simp
     try rfl
   exact AllSteps.nil
 · intro a V F
   have FR:V.ownsRow (w.heap.size+1) 5 1 (a.eval (.tmp 6)) ((([0]++catE encI y.off)++(lebU 9 y.fs.length++nums y.fs))).length (U ((([0]++catE encI y.off)++(lebU 9 y.fs.length++nums y.fs))))∧∀ k,(a.eval (.tmp 6)).ownBlock=some k→¬ k<w.heap.size+1:=F.ro 17 _ (show 17<18 by decide) rfl rfl
   have FK:Below w.heap.size w V:=BW.out.trans (F.kp.weak (fun k (h:k<w.heap.size)=>Nat.lt_succ_of_lt h)).below
   have FE:(([0]++catE encI y.off)++(lebU 9 y.fs.length++nums y.fs))=eleE y:=by simp [eleE]
   have FO:Out w V (a.eval (.tmp 6)) (eleE y):=by
    have h:=ownE_down FR.1 (show w.heap.size≤w.heap.size+1 by omega)
    rw [FE] at h
    exact ⟨h,FK⟩
   have FD:a.defers=[]:=F.df
   clear F FR FK FE
   go_wp2
   (try simp only [Exit.inBlock,Exit.then])
   refine bodyPost_ret (results_tmp rfl _ _ _) FD ?_
   exact ⟨_,rfl,FO⟩
theorem s5ent11 (x:Mod) (a1:Option Addr) (c1:Nat) (a2:Option Addr) (c2:Nat) (a3:Option Addr) (c3:Nat) (a4:Option Addr) (c4:Nat) (a5:Option Addr) (c5:Nat) (a6:Option Addr) (c6:Nat) (a7:Option Addr) (c7:Nat) (a8:Option Addr) (c8:Nat) (a9:Option Addr) (c9:Nat) (a10:Option Addr) (c10:Nat) (a11:Option Addr) (c11:Nat) (w0 w:World) (hb0:Below w0.heap.size w0 w) (hI:Mod.Is 0 w0 x a1 a2 a3 a4 a5 a6 a7 a8 a9 a10 a11) (hG:x.Gd) (hLB:Mod.LB 1048576 x) (i:Nat) (hi:i<x.datas.length) (hl:(datE (x.datas.getD i Dat.z)).length≤400000000000) (hByt:x.Byt) :
    Calls Tryz.prog 78 #[.agg #[.slice a1 x.types.length c1,.slice a2 x.imps.length c2,.slice a3 x.funcs.length c3,.slice a4 x.tabs.length c4,.slice a5 x.mems.length c5,.slice a6 x.globs.length c6,.slice a7 x.exps.length c7,.bool x.hasS,.int .i64 x.start,.slice a8 x.elems.length c8,.slice a9 x.codes.length c9,.slice a10 x.datas.length c10,.slice a11 x.customs.length c11],.int .i64 11,.int .i64 i] w fun e w'=>∃ u,e=.returned u∧Out w w' u (datE (x.datas.getD i Dat.z)):=by
 obtain ⟨W,hWd⟩:∃ W,W=w.alloc (.cells #[.slice a1 x.types.length c1,.slice a2 x.imps.length c2,.slice a3 x.funcs.length c3,.slice a4 x.tabs.length c4,.slice a5 x.mems.length c5,.slice a6 x.globs.length c6,.slice a7 x.exps.length c7,.bool x.hasS,.int .i64 x.start,.slice a8 x.elems.length c8,.slice a9 x.codes.length c9,.slice a10 x.datas.length c10,.slice a11 x.customs.length c11] 46):=⟨_,rfl⟩
 have hBk:Bk W w.heap.size [.slice a1 x.types.length c1,.slice a2 x.imps.length c2,.slice a3 x.funcs.length c3,.slice a4 x.tabs.length c4,.slice a5 x.mems.length c5,.slice a6 x.globs.length c6,.slice a7 x.exps.length c7,.bool x.hasS,.int .i64 x.start,.slice a8 x.elems.length c8,.slice a9 x.codes.length c9,.slice a10 x.datas.length c10,.slice a11 x.customs.length c11]:=by rw [hWd];exact Bk.new
 have hWs:W.heap.size=w.heap.size+1:=by rw [hWd];simp
 have bW:Below w.heap.size w W:=by rw [hWd];exact (Below.refl _ _).alloc (Nat.le_refl _) _
 have hbW:Below w0.heap.size w0 W:=hb0.trans (bW.mono hb0.size)
 have hw0:w0.heap.size≤w.heap.size:=hb0.size
 rcases hI.2.2.2.2.2.2.2.2.2.1 with hx | ⟨b,off,ea,_,hc⟩
 · rw [hx] at hi;simp at hi
 have hr:=hc i hi
 subst ea
 obtain ⟨na,nc,da,dc,⟨d0,d1⟩,hi1⟩:=hr
 have lb:b<w0.heap.size:=World.block_lt_of_cell? w0 _ d0
 have d0:=(hbW.cell (p:=⟨b,off+i*2,none⟩) lb).trans d0
 have d1:=(hbW.cell (p:=⟨b,off+i*2+1,none⟩) lb).trans d1
 have q:=hBk.2.1 11 _ rfl
 have hki:(i:Int)<(x.datas.length:Int):=by omega
 have g1:=hG.datas.2 i hi
 have g2:=(hLB.2.2.2.2.2.2.2.2.2.1.2 i hi).2
 have hB:=hByt i hi
 generalize x.datas.getD i Dat.z=y at *
 have g3:(strOfNums y.bs).size≤1048576:=by rw [strOfNums_size];exact g2
 have HN:Hid (nmE (strOfNums y.bs)=szE y.bs):=by show _=_;rw [nmE,bytes_str y.bs hB]
 have hl2:1+(catE encI y.off).length+(nmE (strOfNums y.bs)).length≤400000000000:=by rw [HN.out];simp only [datE,List.length_append,List.length_cons,List.length_nil] at hl⊢;omega
 clear hB
 have hbS:b<w.heap.size+1:=by omega
 have HRS:Hid (∀ k,k<w.heap.size+1→k<W.heap.size):=fun k hk=>by omega
 have HRB:Hid (w.heap.size+1≤W.heap.size):=by show _≤_;omega
 have HBW:=Hm hbW
 have HI1:=Hm hi1
 have BW:=Hm bW
 have HW:=Hm hWd
 clear hWd bW hBk hI hG hLB hByt hb0 hbW hc lb hi1
 go_enter Tryz.func78,Tryz.ntmps78
 go_upto_region 1 with fail
 rw [← HW.out]
 clear HW
 go_upto_region 22 with fail
 refine rg_none (t:=50) (N:=157) (base:=(w.heap.size+1)) (slots:=[139,140,141,142,143,144,145,146,147,148,149,150,151,152,153,154,155,156,6]) (gs:=[.row ([0]),.val (.pointer (some ⟨w.heap.size,11,none⟩)),.val (.slice (some ⟨b,off,none⟩) x.datas.length c10),.val (.int .i64 i),.val (.pointer (some ⟨b,off+i*2,none⟩)),.val (.pointer (some ⟨b,off+i*2,none⟩)),.val (.slice na y.off.length nc),.row (catE encI y.off),.row (([0]++catE encI y.off)),.val (.pointer (some ⟨w.heap.size,11,none⟩)),.val (.slice (some ⟨b,off,none⟩) x.datas.length c10),.val (.int .i64 i),.val (.pointer (some ⟨b,off+i*2,none⟩)),.val (.pointer (some ⟨b,off+i*2+1,none⟩)),.val (.slice da y.bs.length dc),.val (.string (strOfNums y.bs)),.row (nmE (strOfNums y.bs)),.row ((([0]++catE encI y.off)++nmE (strOfNums y.bs))),.row ((([0]++catE encI y.off)++nmE (strOfNums y.bs)))]) (uses:=[some 8,none,none,none,none,none,none,some 8,some 17,none,none,none,none,none,none,none,some 17,some 18,none]) (S:=(fun k=>k<w.heap.size+1)) (by kernel_rfl) Tryz.underlying50 Tryz.info5 (by kernel_rfl) rfl rfl HRS.out HRB.out ?_ ?_
 · refine AllSteps.cons ?_ ?_
   · refine .mk ([0]) rfl (fun a W_ K Q f hK=>?_)
     refine mk_lit (by clear hK f;go_simp;try rfl) hK
   refine AllSteps.cons ?_ ?_
   · refine .pure (.pointer (some ⟨w.heap.size,11,none⟩)) rfl (fun a W_ f=>?_)
     have e3:=fx_sm' f 3 _ (by kernel_rfl) rfl
     clear f
     go_simp
     try rfl
   refine AllSteps.cons ?_ ?_
   · refine .pure (.slice (some ⟨b,off,none⟩) x.datas.length c10) rfl (fun a W_ f=>?_)
     have e140:=fx_va' f 1 140 _ rfl (by kernel_rfl) (by kernel_rfl) rfl
     have hc:=(f.kp.cell (show w.heap.size<w.heap.size+1 by omega)).trans q
     clear f
     go_simp
     try rfl
   refine AllSteps.cons ?_ ?_
   · refine .pure (.int .i64 i) rfl (fun a W_ f=>?_)
     have e2:=fx_sm' f 2 _ (by kernel_rfl) rfl
     clear f
     go_simp
     try rfl
   refine AllSteps.cons ?_ ?_
   · refine .pure (.pointer (some ⟨b,off+i*2,none⟩)) rfl (fun a W_ f=>?_)
     have e141:=fx_va' f 2 141 _ rfl (by kernel_rfl) (by kernel_rfl) rfl
     have e142:=fx_va' f 3 142 _ rfl (by kernel_rfl) (by kernel_rfl) rfl
     clear f
     go_simp
     try rfl
   refine AllSteps.cons ?_ ?_
   · refine .pure (.pointer (some ⟨b,off+i*2,none⟩)) rfl (fun a W_ f=>?_)
     have e143:=fx_va' f 4 143 _ rfl (by kernel_rfl) (by kernel_rfl) rfl
     clear f
     go_simp
     try rfl
   refine AllSteps.cons ?_ ?_
   · refine .pure (.slice na y.off.length nc) rfl (fun a W_ f=>?_)
     have e144:=fx_va' f 5 144 _ rfl (by kernel_rfl) (by kernel_rfl) rfl
     have hc:=(f.kp.cell hbS).trans d0
     clear f
     go_simp
     try rfl
   refine AllSteps.cons ?_ ?_
   · refine .mk (catE encI y.off) rfl (fun a W_ K Q f hK=>?_)
     have e145:=fx_va' f 6 145 _ rfl (by kernel_rfl) (by kernel_rfl) rfl
     have hV:Below w0.heap.size w0 W_:=HBW.out.trans (f.kp.weak (fun k (h:k<w0.heap.size)=>show k<w.heap.size+1 by omega)).below
     refine mk_call (by clear hK f;go_simp;try rfl) (slist_c y.off na nc w0 W_ hV HI1.out.1 g1 (by omega)) hK
   refine AllSteps.cons ?_ ?_
   · exact .app 0 7 ([0]) (catE encI y.off) (show 0<19 by decide) (show 7<19 by decide) (by decide) rfl rfl rfl rfl rfl (.inr (by kernel_rfl)) (.inr (by kernel_rfl)) (by (try simp only [List.length_append,List.length_cons,List.length_nil]);omega) rfl
   refine AllSteps.cons ?_ ?_
   · refine .pure (.pointer (some ⟨w.heap.size,11,none⟩)) rfl (fun a W_ f=>?_)
     have e3:=fx_sm' f 3 _ (by kernel_rfl) rfl
     clear f
     go_simp
     try rfl
   refine AllSteps.cons ?_ ?_
   · refine .pure (.slice (some ⟨b,off,none⟩) x.datas.length c10) rfl (fun a W_ f=>?_)
     have e148:=fx_va' f 9 148 _ rfl (by kernel_rfl) (by kernel_rfl) rfl
     have hc:=(f.kp.cell (show w.heap.size<w.heap.size+1 by omega)).trans q
     clear f
     go_simp
     try rfl
   refine AllSteps.cons ?_ ?_
   · refine .pure (.int .i64 i) rfl (fun a W_ f=>?_)
     have e2:=fx_sm' f 2 _ (by kernel_rfl) rfl
     clear f
     go_simp
     try rfl
   refine AllSteps.cons ?_ ?_
   · refine .pure (.pointer (some ⟨b,off+i*2,none⟩)) rfl (fun a W_ f=>?_)
     have e149:=fx_va' f 10 149 _ rfl (by kernel_rfl) (by kernel_rfl) rfl
     have e150:=fx_va' f 11 150 _ rfl (by kernel_rfl) (by kernel_rfl) rfl
     clear f
     go_simp
     try rfl
   refine AllSteps.cons ?_ ?_
   · refine .pure (.pointer (some ⟨b,off+i*2+1,none⟩)) rfl (fun a W_ f=>?_)
     have e151:=fx_va' f 12 151 _ rfl (by kernel_rfl) (by kernel_rfl) rfl
     clear f
     go_simp
     try rfl
   refine AllSteps.cons ?_ ?_
   · refine .pure (.slice da y.bs.length dc) rfl (fun a W_ f=>?_)
     have e152:=fx_va' f 13 152 _ rfl (by kernel_rfl) (by kernel_rfl) rfl
     have hc:=(f.kp.cell hbS).trans d1
     clear f
     go_simp
     try rfl
   refine AllSteps.cons ?_ ?_
   · refine .pure (.string (strOfNums y.bs)) rfl (fun a W_ f=>?_)
     have e153:=fx_va' f 14 153 _ rfl (by kernel_rfl) (by kernel_rfl) rfl
     have hV:Below w0.heap.size w0 W_:=HBW.out.trans (f.kp.weak (fun k (h:k<w0.heap.size)=>show k<w.heap.size+1 by omega)).below
     have hcv:=conv_bytes da dc y.bs W_ (HI1.out.2.up (up_below hV))
     clear f
     go_simp
     try rfl
   refine AllSteps.cons ?_ ?_
   · refine .mk (nmE (strOfNums y.bs)) rfl (fun a W_ K Q f hK=>?_)
     have e154:=fx_va' f 15 154 _ rfl (by kernel_rfl) (by kernel_rfl) rfl
     refine mk_call (by clear hK f;go_simp;try rfl) (s5name_c (strOfNums y.bs) W_ g3) hK
   refine AllSteps.cons ?_ ?_
   · exact .app 8 16 (([0]++catE encI y.off)) (nmE (strOfNums y.bs)) (show 8<19 by decide) (show 16<19 by decide) (by decide) rfl rfl rfl rfl rfl (.inr (by kernel_rfl)) (.inr (by kernel_rfl)) (by (try simp only [List.length_append,List.length_cons,List.length_nil]);omega) rfl
   refine AllSteps.cons ?_ ?_
   · refine .mv 17 ((([0]++catE encI y.off)++nmE (strOfNums y.bs))) (show 17<19 by decide) rfl rfl rfl (.inr (by kernel_rfl)) (fun a W_ f=>?_)
     clear f
     go_simp
     try rfl
   exact AllSteps.nil
 · intro a V F
   have FR:V.ownsRow (w.heap.size+1) 5 1 (a.eval (.tmp 6)) ((([0]++catE encI y.off)++nmE (strOfNums y.bs))).length (U ((([0]++catE encI y.off)++nmE (strOfNums y.bs))))∧∀ k,(a.eval (.tmp 6)).ownBlock=some k→¬ k<w.heap.size+1:=F.ro 18 _ (show 18<19 by decide) rfl rfl
   have FK:Below w.heap.size w V:=BW.out.trans (F.kp.weak (fun k (h:k<w.heap.size)=>Nat.lt_succ_of_lt h)).below
   have FE:(([0]++catE encI y.off)++nmE (strOfNums y.bs))=datE y:=by rw [HN.out];simp [datE]
   have FO:Out w V (a.eval (.tmp 6)) (datE y):=by
    have h:=ownE_down FR.1 (show w.heap.size≤w.heap.size+1 by omega)
    rw [FE] at h
    exact ⟨h,FK⟩
   have FD:a.defers=[]:=F.df
   clear F FR FK FE
   go_wp2
   (try simp only [Exit.inBlock,Exit.then])
   refine bodyPost_ret (results_tmp rfl _ _ _) FD ?_
   exact ⟨_,rfl,FO⟩
end Go.Proofs.YtdbmolambolmgaaGreat
