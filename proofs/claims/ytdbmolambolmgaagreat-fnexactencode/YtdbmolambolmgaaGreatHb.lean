import Derived.Test.YtdbmolambolmgaaGreatHa
import Derived.Test.YtdbmolambolmgaaGreatHk
import Derived.Lib.SlBytesConst
set_option linter.all false
set_option maxHeartbeats 16000000
set_option maxRecDepth 100000
namespace Go.Proofs.YtdbmolambolmgaaGreat
open Go.RowKit Go.Sort
set_option maxRecDepth 100000
def partE (x:Mod) (n:Int):List Int:=(if writ x n then secE x n else [])++catE cusE (aftL n x.customs)
def prE (x:Mod):Nat→List Int
 | 0=>headE
 | k+1=>prE x k++partE x k
theorem prE_le (x:Mod) (k:Nat):∀ j,(prE x k).length≤(prE x (k+j)).length
 | 0=>Nat.le_refl _
 | j+1=>by rw [← Nat.add_assoc,prE,List.length_append];have:=prE_le x k j;omega
theorem prE_12 (x:Mod) (k:Nat) (h:k≤12):(prE x k).length≤(prE x 12).length:=by
 have:=prE_le x k (12-k)
 rwa [show k+(12-k)=12 by omega] at this
def encX (x:Mod):List Int:=if wfB x then (if 65536<(prE x 12).length then [] else prE x 12) else []
theorem writ_pos {x:Mod} {n:Int} (h:writ x n=true):1≤n∧n≤11:=by
 simp only [writ,Bool.and_eq_true,decide_eq_true_eq] at h
 obtain ⟨⟨h0,h1⟩,h2⟩:=h
 refine ⟨?_,by omega⟩
 rcases (by omega:n=0∨1≤n) with e | e
 · subst e;simp [szs] at h2
 · exact e
theorem aft_len (n:Int) (l:List Cus) (h:l.length≤1048576):(aftL n l).length≤1048576:=by
 have h1:=List.length_filter_le (fun c:Cus=>c.aft==n) l
 unfold aftL
 omega
def ResE (w:World) (B:Nat) (v:Value) (M:List Int):Prop:=w.ownsRow B 5 1 v M.length (U M)∨(M=headE∧∃ g,v=.slice (some ⟨g,0,none⟩) 8 8∧B≤g∧w.heap[g]?=some (.cells headC 5 (8,9)))
theorem own_shape3 {w:World} {B e n:Nat} {v:Value} {cs:List Value} (h:w.ownsRow B e 3 v n cs):(v=.slice none 0 0∧n=0)∨∃ g c,v=.slice (some ⟨g,0,none⟩) n c∧B≤g∧g<w.heap.size:=by
 rcases h.2 with h0 | ⟨g,cap,cur,hv,hB,hh,_⟩
 · exact .inl h0
 · subst hv;exact .inr ⟨g,cap,rfl,hB,(h.lt g rfl).2⟩
theorem hd_new (w1:World):Hd ((w1.alloc (.cells headC 5 (8,9))).alloc (.cells #[.slice (some ⟨w1.heap.size,0,none⟩) 8 8] 138)) (w1.heap.size+1) (fun k=>k<w1.heap.size):=by
 have e:(w1.alloc (.cells headC 5 (8,9))).heap.size=w1.heap.size+1:=by simp
 refine ⟨w1.heap.size,?_,?_,?_,by omega,by omega,by omega,by omega,fun k hk=>by simp;omega⟩
 · rw [← e];exact cell_new rfl rfl
 · rw [← e];exact World.frozen?_alloc_new _ _ _ _
 · rw [heap_old _ _ _ (by rw [e];omega)];exact heap_new w1 _
theorem Bk.below {w w':World} {g:Nat} {cs:List Value} {B:Nat} (h:Bk w g cs) (hb:Below B w w') (hg:g<B):Bk w' g cs :=
 ⟨Nat.lt_of_lt_of_le h.1 hb.size,fun j v hv=>(hb.cell (p:=⟨g,j,none⟩) hg).trans (h.2.1 j v hv),fun j=>(hb.frozen (p:=⟨g,j,none⟩) hg).trans (h.2.2 j)⟩
theorem ienc_c (x:Mod) (a1:Option Addr) (c1:Nat) (a2:Option Addr) (c2:Nat) (a3:Option Addr) (c3:Nat) (a4:Option Addr) (c4:Nat) (a5:Option Addr) (c5:Nat) (a6:Option Addr) (c6:Nat) (a7:Option Addr) (c7:Nat) (a8:Option Addr) (c8:Nat) (a9:Option Addr) (c9:Nat) (a10:Option Addr) (c10:Nat) (a11:Option Addr) (c11:Nat) (w:World) (hI:Mod.Is 0 w x a1 a2 a3 a4 a5 a6 a7 a8 a9 a10 a11) (hl:Mod.LB 1048576 x) (hp:x.Pos) (hG:wfB x=true→x.Gd) (hLn:x.Ln) (hcu:x.customs.length≤1048576) (ht:(prE x 12).length≤400000000000) :
    Calls Tryz.prog 12 #[.agg #[.slice a1 x.types.length c1,.slice a2 x.imps.length c2,.slice a3 x.funcs.length c3,.slice a4 x.tabs.length c4,.slice a5 x.mems.length c5,.slice a6 x.globs.length c6,.slice a7 x.exps.length c7,.bool x.hasS,.int .i64 x.start,.slice a8 x.elems.length c8,.slice a9 x.codes.length c9,.slice a10 x.datas.length c10,.slice a11 x.customs.length c11]] w fun e w'=>∃ v,e=.returned v∧ResE w' w.heap.size v (encX x)∧Below w.heap.size w w':=by
 have b0:∀ o,Below w.heap.size w (w.alloc o):=fun o=>(Below.refl _ _).alloc (Nat.le_refl _) o
 have KW:=Hm (fun o=>iwf_c x a1 c1 a2 c2 a3 c3 a4 c4 a5 c5 a6 c6 a7 c7 a8 c8 a9 c9 a10 c10 a11 c11 (w.alloc o) (Mod.Is.up hI (up_below (b0 o))) hl hp)
 have KZ:=Hm (fun (n:Int) (W:World)=>isec_c x a1 c1 a2 c2 a3 c3 a4 c4 a5 c5 a6 c6 a7 c7 a8 c8 a9 c9 a10 c10 a11 c11 n W hLn)
 have HI0:=Hm hI
 have HG:=Hm hG
 clear hI hl hp hG b0 hLn
 cases hwf:wfB x
 · have HE:Hid (encX x=[]):=by show _=_;simp [encX,hwf]
   rw [hwf] at KW
   clear hwf
   go_enter Tryz.func12,Tryz.ntmps12
   go_wp2_with fail
   refine (KW.out _).mono ?_
   rintro e w1 ⟨rfl,hb⟩
   have HB:=Hm (show Below w.heap.size w w1 from ((Below.refl _ _).alloc (Nat.le_refl _) _).trans (hb.mono (by simp)))
   clear hb KW
   go_wp2
   go_ret
   refine ⟨_,rfl,?_,HB.out.alloc HB.out.size _⟩
   rw [HE.out]
   exact .inl (World.ownsRow_lit w1 #[] 0 HB.out.size (Nat.zero_le _) rfl)
 have HE:Hid (encX x=if 65536<(prE x 12).length then [] else prE x 12):=by show _=_;simp [encX,hwf]
 have HGx:=Hm (HG.out hwf)
 rw [hwf] at KW
 clear hwf HG
 obtain ⟨W0,hW0⟩:∃ W0,W0=w.alloc (.cells #[.slice a1 x.types.length c1,.slice a2 x.imps.length c2,.slice a3 x.funcs.length c3,.slice a4 x.tabs.length c4,.slice a5 x.mems.length c5,.slice a6 x.globs.length c6,.slice a7 x.exps.length c7,.bool x.hasS,.int .i64 x.start,.slice a8 x.elems.length c8,.slice a9 x.codes.length c9,.slice a10 x.datas.length c10,.slice a11 x.customs.length c11] 46):=⟨_,rfl⟩
 have hBk0:Bk W0 w.heap.size [.slice a1 x.types.length c1,.slice a2 x.imps.length c2,.slice a3 x.funcs.length c3,.slice a4 x.tabs.length c4,.slice a5 x.mems.length c5,.slice a6 x.globs.length c6,.slice a7 x.exps.length c7,.bool x.hasS,.int .i64 x.start,.slice a8 x.elems.length c8,.slice a9 x.codes.length c9,.slice a10 x.datas.length c10,.slice a11 x.customs.length c11]:=by rw [hW0];exact Bk.new
 have bW0:Below w.heap.size w W0:=by rw [hW0];exact (Below.refl _ _).alloc (Nat.le_refl _) _
 have hs0:W0.heap.size=w.heap.size+1:=by rw [hW0];simp
 have KW0:=Hm (KW.out (.cells #[.slice a1 x.types.length c1,.slice a2 x.imps.length c2,.slice a3 x.funcs.length c3,.slice a4 x.tabs.length c4,.slice a5 x.mems.length c5,.slice a6 x.globs.length c6,.slice a7 x.exps.length c7,.bool x.hasS,.int .i64 x.start,.slice a8 x.elems.length c8,.slice a9 x.codes.length c9,.slice a10 x.datas.length c10,.slice a11 x.customs.length c11] 46))
 rw [← hW0] at KW0
 have HW0:=Hm hW0
 have q0:=hBk0.2.1 0 _ rfl
 have q1:=hBk0.2.1 1 _ rfl
 have q2:=hBk0.2.1 2 _ rfl
 have q3:=hBk0.2.1 3 _ rfl
 have q4:=hBk0.2.1 4 _ rfl
 have q5:=hBk0.2.1 5 _ rfl
 have q6:=hBk0.2.1 6 _ rfl
 have q7:=hBk0.2.1 7 _ rfl
 have q8:=hBk0.2.1 8 _ rfl
 have q9:=hBk0.2.1 9 _ rfl
 have q10:=hBk0.2.1 10 _ rfl
 have q11:=hBk0.2.1 11 _ rfl
 have q12:=hBk0.2.1 12 _ rfl
 have BB0:=Hm hBk0
 have HBW0:=Hm bW0
 clear hBk0 bW0 hW0 KW
 go_enter Tryz.func12,Tryz.ntmps12
 go_wp2_with fail
 rw [show w.alloc (.cells #[.slice a1 x.types.length c1,.slice a2 x.imps.length c2,.slice a3 x.funcs.length c3,.slice a4 x.tabs.length c4,.slice a5 x.mems.length c5,.slice a6 x.globs.length c6,.slice a7 x.exps.length c7,.bool x.hasS,.int .i64 x.start,.slice a8 x.elems.length c8,.slice a9 x.codes.length c9,.slice a10 x.datas.length c10,.slice a11 x.customs.length c11] 46)=W0 from HW0.out.symm]
 refine KW0.out.mono ?_
 rintro e w1 ⟨rfl,hb1⟩
 have hs1:w.heap.size+1≤w1.heap.size:=by have:=hb1.size;omega
 have HB1:=Hm (HBW0.out.trans (hb1.mono (by omega)))
 have BB1:=Hm (show Bk w1 w.heap.size [.slice a1 x.types.length c1,.slice a2 x.imps.length c2,.slice a3 x.funcs.length c3,.slice a4 x.tabs.length c4,.slice a5 x.mems.length c5,.slice a6 x.globs.length c6,.slice a7 x.exps.length c7,.bool x.hasS,.int .i64 x.start,.slice a8 x.elems.length c8,.slice a9 x.codes.length c9,.slice a10 x.datas.length c10,.slice a11 x.customs.length c11] from ⟨by omega,fun j v hv=>(hb1.cell (p:=⟨w.heap.size,j,none⟩) (by show w.heap.size<_;omega)).trans (BB0.out.2.1 j v hv),fun j=>(hb1.frozen (p:=⟨w.heap.size,j,none⟩) (by show w.heap.size<_;omega)).trans (BB0.out.2.2 j)⟩)
 clear hb1 KW0 q0 q1 q2 q3 q4 q5 q6 q7 q8 q9 q10 q11 q12
 have hcv:(convert 50 50 (.slice (some ⟨w1.heap.size,0,none⟩) 8 8)).run Tryz.prog (w1.alloc (.cells headC 5))=.ok (.slice (some ⟨w1.heap.size,0,none⟩) 8 8) (w1.alloc (.cells headC 5 (8,9))):=Lib.run_convert_bytes_const w1 50 5 headC 8 8 Tryz.underlying50 Tryz.underlying5
 go_wp2_with fail
 obtain ⟨W1,hW1⟩:∃ W1,W1=(w1.alloc (.cells headC 5 (8,9))).alloc (.cells #[.slice (some ⟨w1.heap.size,0,none⟩) 8 8] 138):=⟨_,rfl⟩
 rw [← hW1]
 have hHd:Hd W1 (w1.heap.size+1) (fun k=>k<w1.heap.size):=by rw [hW1];exact hd_new w1
 have bW1:Below w1.heap.size w1 W1:=by rw [hW1];exact ((Below.refl _ _).alloc (Nat.le_refl _) _).alloc (by simp) _
 have BBW:=Hm (BB1.out.below bW1 (by omega))
 have HBW:=Hm (HB1.out.trans (bW1.mono (by omega)))
 have HHd:=Hm hHd
 have HCu:=Hm HI0.out.2.2.2.2.2.2.2.2.2.2
 clear hW1 hHd bW1 hcv BB0 BB1 HBW0 HW0
 go_loopw [4] (fun i wr=>∃ k:Nat,k≤12∧i=.int .i64 k∧Wr0 wr (w1.heap.size+1) (fun k=>k<w1.heap.size) (prE x k)∧Kept (fun k=>k<w1.heap.size) W1 wr) (fun i _=>12-(intOf i).toNat)
 case atStart=>exact ⟨0,by omega,rfl,.inr ⟨rfl,HHd.out⟩,Kept.refl _ _⟩
 case round =>
  obtain ⟨k,hk,rfl,hw,hkp⟩:=hrel
  clear HHd
  by_cases hlt:k<12
  · have hki:(k:Int)≤11:=by omega
    have hbr:Below w.heap.size w wr:=HBW.out.trans (hkp.weak (fun j (h:j<w.heap.size)=>by show j<w1.heap.size;omega)).below
    have bbr:=BBW.out.kept hkp (show w.heap.size<w1.heap.size by omega)
    have q0:=bbr.2.1 0 _ rfl
    have q1:=bbr.2.1 1 _ rfl
    have q2:=bbr.2.1 2 _ rfl
    have q3:=bbr.2.1 3 _ rfl
    have q4:=bbr.2.1 4 _ rfl
    have q5:=bbr.2.1 5 _ rfl
    have q6:=bbr.2.1 6 _ rfl
    have q7:=bbr.2.1 7 _ rfl
    have q8:=bbr.2.1 8 _ rfl
    have q9:=bbr.2.1 9 _ rfl
    have q10:=bbr.2.1 10 _ rfl
    have q11:=bbr.2.1 11 _ rfl
    have q12:=bbr.2.1 12 _ rfl
    have KS:=Hm (KZ.out (k:Int) wr)
    have HWr:=Hm hw
    have HKr:=Hm hkp
    have HBr:=Hm hbr
    have BBr:=Hm bbr
    have lbr:w.heap.size<wr.heap.size:=bbr.1
    clear hw hkp hbr bbr
    go_wp2_with fail
    refine KS.out.mono ?_
    rintro e w2 ⟨rfl,hb2⟩
    have H2:=Hm (HWr.out.keep hb2)
    have HK2:=Hm (HKr.out.trans (Kept.of_below hb2 HWr.out.lt))
    have HB2:=Hm (HBr.out.trans (hb2.mono HBr.out.size))
    have BB2:=Hm (BBr.out.below hb2 lbr)
    clear hb2 KS HWr HKr HBr BBr lbr q0 q1 q2 q3 q4 q5 q6 q7 q8 q9 q10 q11 q12
    cases hwt:writ x (k:Int)
    · have HWt:=Hm hwt
      have H3:=H2
      have HK3:=HK2
      have HB3:=HB2
      have BB3:=BB2
      clear hwt H2 HK2 HB2 BB2
      have q0:=BB3.out.2.1 0 _ rfl
      have q1:=BB3.out.2.1 1 _ rfl
      have q2:=BB3.out.2.1 2 _ rfl
      have q3:=BB3.out.2.1 3 _ rfl
      have q4:=BB3.out.2.1 4 _ rfl
      have q5:=BB3.out.2.1 5 _ rfl
      have q6:=BB3.out.2.1 6 _ rfl
      have q7:=BB3.out.2.1 7 _ rfl
      have q8:=BB3.out.2.1 8 _ rfl
      have q9:=BB3.out.2.1 9 _ rfl
      have q10:=BB3.out.2.1 10 _ rfl
      have q11:=BB3.out.2.1 11 _ rfl
      have q12:=BB3.out.2.1 12 _ rfl
      have KA:=Hm (after_c x a1 c1 a2 c2 a3 c3 a4 c4 a5 c5 a6 c6 a7 c7 a8 c8 a9 c9 a10 c10 a11 c11 (k:Int) w w2 HB3.out HCu.out hcu)
      clear BB3
      go_wp2_with fail
      refine KA.out.mono ?_
      rintro e w4 ⟨v4,cs4,rfl,ho4,hr4,hb4⟩
      clear KA q0 q1 q2 q3 q4 q5 q6 q7 q8 q9 q10 q11 q12
      have h4:Wr0 w4 (w1.heap.size+1) (fun j=>j<w1.heap.size∨(w2.heap.size≤j∧j<w4.heap.size)) (prE x k):=H3.out.on hb4
      have H4:=Hm h4
      have HB4:=Hm (HB3.out.trans (hb4.mono HB3.out.size))
      have HK4:=Hm (HK3.out.trans (Kept.of_below hb4 H3.out.lt))
      have HR4:=Hm hr4
      have HO4:=Hm ho4
      have hlL:=aft_len (k:Int) x.customs hcu
      have HPT:Hid (prE x (k+1)=(prE x k)++catE cusE (aftL (k:Int) x.customs)):=by show _=_;rw [prE,partE,if_neg (by rw [HWt.out];simp),List.nil_append]
      have hto:((prE x k)++catE cusE (aftL (k:Int) x.customs)).length≤400000000000:=by rw [← HPT.out];exact Nat.le_trans (prE_12 x (k+1) (by omega)) ht
      rw [List.length_append] at hto
      generalize aftL (k:Int) x.customs=L at *
      generalize hpr:prE x k=pr at *
      have HPr:=Hm hpr
      have sh:=own_shape3 HO4.out
      obtain ⟨va,vc,hv4⟩:∃ va vc,v4=.slice va L.length vc:=by
       rcases sh with ⟨e,h0⟩ | ⟨g,c,e,_⟩
       · exact ⟨none,0,by rw [e,h0]⟩
       · exact ⟨_,c,e⟩
      subst hv4
      have SH:=Hm sh
      clear h4 hr4 ho4 hb4 sh hpr H3 HK3 HB3
      go_wp2_with fail
      go_loopw [28] (fun i wi=>∃ j:Nat,j≤L.length∧i=.int .i64 j∧Wr0 wi (w1.heap.size+1) (fun j=>j<w1.heap.size∨(w2.heap.size≤j∧j<w4.heap.size)) (pr++catE cusE (L.take j))∧Kept (fun j=>j<w1.heap.size∨(w2.heap.size≤j∧j<w4.heap.size)) w4 wi) (fun i _=>L.length-(intOf i).toNat)
      case atStart=>exact ⟨0,Nat.zero_le _,rfl,by simpa [catE] using H4.out,Kept.refl _ _⟩
      case round =>
       obtain ⟨j,hj,rfl,hwi,hki⟩:=hrel
       by_cases hlj:j<L.length
       · have hji:(j:Int)<(L.length:Int):=by omega
         rcases SH.out with ⟨e,h0⟩ | ⟨g,c,e,hg1,hg2⟩
         · omega
         simp only [Value.slice.injEq,true_and] at e
         obtain ⟨rfl,rfl⟩:=e
         obtain ⟨ca,cc,q0,q1,q2,hci⟩:=CRel.at L cs4 j HR4.out hlj
         have q0:=(hki.cell (o:=j*3) (.inr ⟨hg1,hg2⟩)).trans ((HO4.out.cellAt (j*3) (by omega)).trans q0)
         have q1:=(hki.cell (o:=j*3+1) (.inr ⟨hg1,hg2⟩)).trans ((HO4.out.cellAt (j*3+1) (by omega)).trans q1)
         have q2:=(hki.cell (o:=j*3+2) (.inr ⟨hg1,hg2⟩)).trans ((HO4.out.cellAt (j*3+2) (by omega)).trans q2)
         have HSt:=Hm (catE_step cusE Cus.z L j hlj)
         have hle:=catE_le cusE L (j+1)
         rw [HSt.out,List.length_append] at hle
         generalize L.getD j Cus.z=y at *
         have hbi:Below w.heap.size w wr:=HB4.out.trans (hki.weak (fun i (h:i<w.heap.size)=>.inl (by omega))).below
         generalize hpi:pr++catE cusE (L.take j)=pi at *
         have hpl:pi.length+(cusE y).length≤500000000000:=by rw [← hpi,List.length_append];omega
         have HPi:=Hm hpi
         have KC:=Hm (fun (ob:Obj)=>wcus_c (w1.heap.size+1) (fun j=>j<w1.heap.size∨(w2.heap.size≤j∧j<w4.heap.size)) pi y ca cc w (wr.alloc ob) (fun i hi=>.inl (by omega)) (hbi.alloc hbi.size ob) hci hpl (hwi.keep ((Below.refl _ _).alloc (Nat.le_refl _) ob)))
         have HKi:=Hm hki
         have HLti:=Hm hwi.lt
         clear hwi hki hle hpi hci hbi
         go_wp2_with fail
         refine (KC.out _).mono ?_
         rintro e w6 ⟨rfl,hw6,hk6⟩
         have H6:Hid (Wr0 w6 (w1.heap.size+1) (fun j=>j<w1.heap.size∨(w2.heap.size≤j∧j<w4.heap.size)) (pr++catE cusE (L.take (j+1)))):=by
          show Wr0 _ _ _ _
          rw [HSt.out,← List.append_assoc,HPi.out];exact .inl hw6
         have HK6:=Hm (HKi.out.trans ((Kept.of_below ((Below.refl _ _).alloc (Nat.le_refl _) _) HLti.out).trans hk6))
         clear hw6 hk6 KC q0 q1 q2
         go_wp2
         go_roundw
         case rel=>exact ⟨j+1,by omega,by go_num,H6.out,HK6.out⟩
         case measure=>simp [intOf];omega
       · have ej:j=L.length:=by omega
         subst ej
         rw [List.take_length] at hwi
         have H6:Hid (Wr0 wr (w1.heap.size+1) (fun j=>j<w1.heap.size) (prE x (k+1))):=by
          show Wr0 _ _ _ _
          rw [HPT.out]
          exact hwi.weak (fun i hi=>.inl hi)
         have HK6:=Hm (HK4.out.trans (hki.weak (fun i hi=>.inl hi)))
         clear hwi hki
         go_wp2
         go_roundw
         case rel=>exact ⟨k+1,by omega,by go_num,H6.out,HK6.out⟩
         case measure=>simp [intOf];omega
    · have HWt:=Hm hwt
      have hp1:(prE x (k+1)).length≤400000000000:=Nat.le_trans (prE_12 x (k+1) (by omega)) ht
      have hsl:(prE x k).length+(secE x (k:Int)).length≤500000000000:=by
       rw [prE,partE,if_pos hwt,List.length_append,List.length_append] at hp1
       omega
      have KSe:=Hm (wsec_c (w1.heap.size+1) (fun k=>k<w1.heap.size) (prE x k) x a1 c1 a2 c2 a3 c3 a4 c4 a5 c5 a6 c6 a7 c7 a8 c8 a9 c9 a10 c10 a11 c11 (k:Int) w w2 (fun j hj=>by show j<w1.heap.size;omega) HB2.out HI0.out HGx.out (writ_pos hwt) hsl H2.out)
      have q0:=BB2.out.2.1 0 _ rfl
      have q1:=BB2.out.2.1 1 _ rfl
      have q2:=BB2.out.2.1 2 _ rfl
      have q3:=BB2.out.2.1 3 _ rfl
      have q4:=BB2.out.2.1 4 _ rfl
      have q5:=BB2.out.2.1 5 _ rfl
      have q6:=BB2.out.2.1 6 _ rfl
      have q7:=BB2.out.2.1 7 _ rfl
      have q8:=BB2.out.2.1 8 _ rfl
      have q9:=BB2.out.2.1 9 _ rfl
      have q10:=BB2.out.2.1 10 _ rfl
      have q11:=BB2.out.2.1 11 _ rfl
      have q12:=BB2.out.2.1 12 _ rfl
      clear hwt hp1 hsl
      go_wp2_with fail
      refine KSe.out.mono ?_
      rintro e w3 ⟨rfl,hw3,hk3⟩
      have H3:Hid (Wr0 w3 (w1.heap.size+1) (fun k=>k<w1.heap.size) (prE x k++secE x (k:Int))):=.inl hw3
      have HK3:=Hm (HK2.out.trans hk3)
      have HB3:=Hm (HB2.out.trans (hk3.weak (fun j (h:j<w.heap.size)=>by show j<w1.heap.size;omega)).below)
      have BB3:=Hm (BB2.out.kept hk3 (show w.heap.size<w1.heap.size by omega))
      clear hw3 hk3 KSe H2 HK2 HB2 BB2 q0 q1 q2 q3 q4 q5 q6 q7 q8 q9 q10 q11 q12
      have q0:=BB3.out.2.1 0 _ rfl
      have q1:=BB3.out.2.1 1 _ rfl
      have q2:=BB3.out.2.1 2 _ rfl
      have q3:=BB3.out.2.1 3 _ rfl
      have q4:=BB3.out.2.1 4 _ rfl
      have q5:=BB3.out.2.1 5 _ rfl
      have q6:=BB3.out.2.1 6 _ rfl
      have q7:=BB3.out.2.1 7 _ rfl
      have q8:=BB3.out.2.1 8 _ rfl
      have q9:=BB3.out.2.1 9 _ rfl
      have q10:=BB3.out.2.1 10 _ rfl
      have q11:=BB3.out.2.1 11 _ rfl
      have q12:=BB3.out.2.1 12 _ rfl
      have KA:=Hm (after_c x a1 c1 a2 c2 a3 c3 a4 c4 a5 c5 a6 c6 a7 c7 a8 c8 a9 c9 a10 c10 a11 c11 (k:Int) w w3 HB3.out HCu.out hcu)
      clear BB3
      go_wp2_with fail
      refine KA.out.mono ?_
      rintro e w4 ⟨v4,cs4,rfl,ho4,hr4,hb4⟩
      clear KA q0 q1 q2 q3 q4 q5 q6 q7 q8 q9 q10 q11 q12
      have h4:Wr0 w4 (w1.heap.size+1) (fun j=>j<w1.heap.size∨(w3.heap.size≤j∧j<w4.heap.size)) (prE x k++secE x (k:Int)):=H3.out.on hb4
      have H4:=Hm h4
      have HB4:=Hm (HB3.out.trans (hb4.mono HB3.out.size))
      have HK4:=Hm (HK3.out.trans (Kept.of_below hb4 H3.out.lt))
      have HR4:=Hm hr4
      have HO4:=Hm ho4
      have hlL:=aft_len (k:Int) x.customs hcu
      have HPT:Hid (prE x (k+1)=(prE x k++secE x (k:Int))++catE cusE (aftL (k:Int) x.customs)):=by show _=_;rw [prE,partE,if_pos HWt.out,List.append_assoc]
      have hto:((prE x k++secE x (k:Int))++catE cusE (aftL (k:Int) x.customs)).length≤400000000000:=by rw [← HPT.out];exact Nat.le_trans (prE_12 x (k+1) (by omega)) ht
      rw [List.length_append] at hto
      generalize aftL (k:Int) x.customs=L at *
      generalize hpr:prE x k++secE x (k:Int)=pr at *
      have HPr:=Hm hpr
      have sh:=own_shape3 HO4.out
      obtain ⟨va,vc,hv4⟩:∃ va vc,v4=.slice va L.length vc:=by
       rcases sh with ⟨e,h0⟩ | ⟨g,c,e,_⟩
       · exact ⟨none,0,by rw [e,h0]⟩
       · exact ⟨_,c,e⟩
      subst hv4
      have SH:=Hm sh
      clear h4 hr4 ho4 hb4 sh hpr H3 HK3 HB3
      go_wp2_with fail
      go_loopw [28] (fun i wi=>∃ j:Nat,j≤L.length∧i=.int .i64 j∧Wr0 wi (w1.heap.size+1) (fun j=>j<w1.heap.size∨(w3.heap.size≤j∧j<w4.heap.size)) (pr++catE cusE (L.take j))∧Kept (fun j=>j<w1.heap.size∨(w3.heap.size≤j∧j<w4.heap.size)) w4 wi) (fun i _=>L.length-(intOf i).toNat)
      case atStart=>exact ⟨0,Nat.zero_le _,rfl,by simpa [catE] using H4.out,Kept.refl _ _⟩
      case round =>
       obtain ⟨j,hj,rfl,hwi,hki⟩:=hrel
       by_cases hlj:j<L.length
       · have hji:(j:Int)<(L.length:Int):=by omega
         rcases SH.out with ⟨e,h0⟩ | ⟨g,c,e,hg1,hg2⟩
         · omega
         simp only [Value.slice.injEq,true_and] at e
         obtain ⟨rfl,rfl⟩:=e
         obtain ⟨ca,cc,q0,q1,q2,hci⟩:=CRel.at L cs4 j HR4.out hlj
         have q0:=(hki.cell (o:=j*3) (.inr ⟨hg1,hg2⟩)).trans ((HO4.out.cellAt (j*3) (by omega)).trans q0)
         have q1:=(hki.cell (o:=j*3+1) (.inr ⟨hg1,hg2⟩)).trans ((HO4.out.cellAt (j*3+1) (by omega)).trans q1)
         have q2:=(hki.cell (o:=j*3+2) (.inr ⟨hg1,hg2⟩)).trans ((HO4.out.cellAt (j*3+2) (by omega)).trans q2)
         have HSt:=Hm (catE_step cusE Cus.z L j hlj)
         have hle:=catE_le cusE L (j+1)
         rw [HSt.out,List.length_append] at hle
         generalize L.getD j Cus.z=y at *
         have hbi:Below w.heap.size w wr:=HB4.out.trans (hki.weak (fun i (h:i<w.heap.size)=>.inl (by omega))).below
         generalize hpi:pr++catE cusE (L.take j)=pi at *
         have hpl:pi.length+(cusE y).length≤500000000000:=by rw [← hpi,List.length_append];omega
         have HPi:=Hm hpi
         have KC:=Hm (fun (ob:Obj)=>wcus_c (w1.heap.size+1) (fun j=>j<w1.heap.size∨(w3.heap.size≤j∧j<w4.heap.size)) pi y ca cc w (wr.alloc ob) (fun i hi=>.inl (by omega)) (hbi.alloc hbi.size ob) hci hpl (hwi.keep ((Below.refl _ _).alloc (Nat.le_refl _) ob)))
         have HKi:=Hm hki
         have HLti:=Hm hwi.lt
         clear hwi hki hle hpi hci hbi
         go_wp2_with fail
         refine (KC.out _).mono ?_
         rintro e w6 ⟨rfl,hw6,hk6⟩
         have H6:Hid (Wr0 w6 (w1.heap.size+1) (fun j=>j<w1.heap.size∨(w3.heap.size≤j∧j<w4.heap.size)) (pr++catE cusE (L.take (j+1)))):=by
          show Wr0 _ _ _ _
          rw [HSt.out,← List.append_assoc,HPi.out];exact .inl hw6
         have HK6:=Hm (HKi.out.trans ((Kept.of_below ((Below.refl _ _).alloc (Nat.le_refl _) _) HLti.out).trans hk6))
         clear hw6 hk6 KC q0 q1 q2
         go_wp2
         go_roundw
         case rel=>exact ⟨j+1,by omega,by go_num,H6.out,HK6.out⟩
         case measure=>simp [intOf];omega
       · have ej:j=L.length:=by omega
         subst ej
         rw [List.take_length] at hwi
         have H6:Hid (Wr0 wr (w1.heap.size+1) (fun j=>j<w1.heap.size) (prE x (k+1))):=by
          show Wr0 _ _ _ _
          rw [HPT.out]
          exact hwi.weak (fun i hi=>.inl hi)
         have HK6:=Hm (HK4.out.trans (hki.weak (fun i hi=>.inl hi)))
         clear hwi hki
         go_wp2
         go_roundw
         case rel=>exact ⟨k+1,by omega,by go_num,H6.out,HK6.out⟩
         case measure=>simp [intOf];omega
  · have e:k=12:=by omega
    subst e
    have hbr:Below w.heap.size w wr:=HBW.out.trans (hkp.weak (fun j (h:j<w.heap.size)=>by show j<w1.heap.size;omega)).below
    have HBr:=Hm hbr
    clear hkp hbr BBW
    rcases hw with ⟨v,c0,f0,own,hp,hr,hS⟩ | ⟨eh,g,c0,f0,hg,h4,_⟩
    · obtain ⟨va,vc,rfl⟩:=ownE_slice own
      have OW:=Hm own
      by_cases hb:65536<(prE x 12).length
      · have hbi:(65536:Int)<((prE x 12).length:Int):=by omega
        rw [if_pos hb] at HE
        clear hb hp hr hS own
        go_wp2
        go_ret
        refine ⟨_,rfl,?_,HBr.out.alloc HBr.out.size _⟩
        rw [HE.out]
        exact .inl (World.ownsRow_lit wr #[] 0 HBr.out.size (Nat.zero_le _) rfl)
      · have hbi:¬ (65536:Int)<((prE x 12).length:Int):=by omega
        rw [if_neg hb] at HE
        clear hb hp hr hS own
        go_wp2
        go_ret
        refine ⟨_,rfl,?_,HBr.out⟩
        rw [HE.out]
        exact .inl (ownE_down OW.out (by omega))
    · rw [eh] at HE
      rw [if_neg (by decide)] at HE
      have HGg:=Hm (And.intro h4 hg)
      clear eh hg h4
      go_wp2
      go_ret
      refine ⟨_,rfl,?_,HBr.out⟩
      rw [HE.out]
      exact .inr ⟨rfl,g,rfl,by have:=HGg.out.1;omega,HGg.out.2⟩
end Go.Proofs.YtdbmolambolmgaaGreat
