import Derived.Test.YtdbmolambolmgaaGreatGx
set_option linter.all false
set_option maxHeartbeats 16000000
set_option maxRecDepth 100000
namespace Go.Proofs.YtdbmolambolmgaaGreat
open Go.RowKit Go.Sort
set_option maxRecDepth 100000
theorem inner_row {w w2:World} {r:Nat} {SR:Nat→Prop} {ys:List Int} (hr:w.heap.size+1≤r) (h:Wr w2 r SR ys) (hys:1≤ys.length) :
    ∃ g vc,w2.cell? ⟨r,0,none⟩=some (.slice (some ⟨g,0,none⟩) ys.length vc)∧w.heap.size≤g∧g<w2.heap.size∧r<w2.heap.size∧By.Has w2 (some ⟨g,0,none⟩) ys:=by
 obtain ⟨v,c0,f0,own,hp,hrr,hS⟩:=h
 obtain ⟨g,cap,rfl,h1,h2⟩:=By.own_split own hys
 exact ⟨g,cap,c0,by omega,h2,World.block_lt_of_cell? w2 _ c0,By.own_has own⟩
theorem has_kept {S:Nat→Prop} {w w':World} {g:Nat} {ys:List Int} (h:By.Has w (some ⟨g,0,none⟩) ys) (hk:Kept S w w') (hg:S g):By.Has w' (some ⟨g,0,none⟩) ys:=by
 rcases h with h | ⟨b,o,e,hc⟩
 · exact .inl h
 · simp only [Option.some.injEq,Addr.mk.injEq] at e
   obtain ⟨rfl,rfl,_⟩:=e
   exact .inr ⟨g,0,rfl,fun i hi=>(hk.cell hg).trans (hc i hi)⟩
def codI (x:Cod):List Int:=(lebU 9 x.locs.length++catE grpE x.locs)++catE encI x.body
def codE (x:Cod):List Int:=szE (codI x)
theorem wcod_c (p:Nat) (S:Nat→Prop) (xs:List Int) (x:Cod) (a1:Option Addr) (c1:Nat) (a2:Option Addr) (c2:Nat) (w0 w:World) (hS:∀ k,k<w0.heap.size→S k) (hb:Below w0.heap.size w0 w) (hI:Cod.Is 0 w0 x a1 a2) (hn:x.locs.length≤1048576) (hu:∀ i,i<x.locs.length→0≤(x.locs.getD i Grp.z).n∧(x.locs.getD i Grp.z).n≤4294967295) (hg:LG x.body) (hl:xs.length+(codE x).length≤500000000000) (hW:Wr w p S xs) :
    Calls Tryz.prog 203 #[.pointer (some ⟨p,0,none⟩),.agg #[.slice a1 x.locs.length c1,.slice a2 x.body.length c2]] w fun e w'=>e=.returned (.tuple #[])∧Wr w' p S (xs++codE x)∧Kept S w w':=by
 obtain ⟨W,hWd⟩:∃ W,W=w.alloc (.cells #[.slice a1 x.locs.length c1,.slice a2 x.body.length c2] 74):=⟨_,rfl⟩
 have hBk:Bk W w.heap.size [.slice a1 x.locs.length c1,.slice a2 x.body.length c2]:=by rw [hWd];exact Bk.new
 have hWs:W.heap.size=w.heap.size+1:=by rw [hWd];simp
 have bW:Below w.heap.size w W:=by rw [hWd];exact (Below.refl _ _).alloc (Nat.le_refl _) _
 obtain ⟨V,hVd⟩:∃ V,V=W.alloc (.cells #[.slice none 0 0] 138):=⟨_,rfl⟩
 have hVs:V.heap.size=W.heap.size+1:=by rw [hVd];simp
 have bV:Below W.heap.size W V:=by rw [hVd];exact (Below.refl _ _).alloc (Nat.le_refl _) _
 have bwV:Below w.heap.size w V:=bW.trans (bV.mono (by omega))
 have hBkV:Bk V w.heap.size [.slice a1 x.locs.length c1,.slice a2 x.body.length c2]:=⟨by have:=hBk.1;omega,fun j v hv=>(bV.cell (p:=⟨w.heap.size,j,none⟩) hBk.1).trans (hBk.2.1 j v hv),fun j=>(bV.frozen (p:=⟨w.heap.size,j,none⟩) hBk.1).trans (hBk.2.2 j)⟩
 have hR0:Wr V (w.heap.size+1) (fun k=>k<w.heap.size+1) []:=by rw [← hWs,hVd];exact wr_new W _ (fun k hk=>hk)
 have hlI:(codI x).length≤500000000000:=by simp only [codE,szE,List.length_append] at hl;omega
 have hlI2:=hlI
 simp only [codI,List.length_append] at hlI2
 have hSR:∀ k,k<w0.heap.size→k<w.heap.size+1:=fun k hk=>by have:=hb.size;omega
 have hb0V:Below w0.heap.size w0 V:=hb.trans (bwV.mono hb.size)
 have K1:=Hm (wvgrp_c (w.heap.size+1) (fun k=>k<w.heap.size+1) [] x.locs a1 c1 w0 V hSR hb0V hI.1 hn hu (by simp only [List.length_append,List.length_nil];omega) hR0)
 have KL:=Hm (fun (w1:World) (hk:Kept (fun k=>k<w.heap.size+1) V w1) hw=>wlist_c (w.heap.size+1) (fun k=>k<w.heap.size+1) ([]++(lebU 9 x.locs.length++catE grpE x.locs)) x.body a2 c2 w0 w1 hSR (kb hSR hb0V hk) hI.2 hg.1 hg.2 (by simp only [List.length_append,List.length_nil];omega) hw)
 have HWp:=Hm hW
 have HWd:=Hm hWd
 have HVd:=Hm hVd
 have BWV:=Hm bwV
 have BB:=Hm hBkV
 have q0:=hBkV.2.1 0 _ rfl
 have hne:1≤(codI x).length:=by have:=(lebU_len 9 x.locs.length).1;simp only [codI,List.length_append];omega
 clear hWd hVd hBk hBkV bW bV bwV hR0 hI hg hu hW hSR hb0V hS hb hlI2
 go_enter Tryz.func203,Tryz.ntmps203
 go_wp2_with fail
 rw [show (w.alloc (.cells #[.slice a1 x.locs.length c1,.slice a2 x.body.length c2] 74)).alloc (.cells #[.slice none 0 0] 138)=V by rw [HVd.out,HWd.out]]
 refine K1.out.mono ?_
 rintro e w1 ⟨rfl,hw1,hk1⟩
 have q1:w1.cell? ⟨w.heap.size,1,none⟩=some (.slice a2 x.body.length c2):=(BB.out.kept hk1 (Nat.lt_succ_self _)).2.1 1 _ rfl
 have KL1:=Hm (KL.out w1 hk1 hw1)
 have HK1:=Hm hk1
 clear hw1 hk1 K1 KL q0 BB
 go_wp2_with fail
 refine KL1.out.mono ?_
 rintro e w2 ⟨rfl,hw2,hk2⟩
 have b2:Below w.heap.size w w2:=BWV.out.trans ((HK1.out.trans hk2).weak (fun k (h:k<w.heap.size)=>Nat.lt_succ_of_lt h)).below
 rw [List.nil_append] at hw2
 obtain ⟨g,vc,cr,hg1,hg2,hr2,hh⟩:=inner_row (w:=w) (ys:=codI x) (Nat.le_refl _) hw2 hne
 have KS:=Hm (wsized_c p (fun k=>S k∨(w.heap.size≤k∧k<w2.heap.size)) xs (codI x) (some ⟨g,0,none⟩) vc w2 (fun w' hk'=>has_kept hh hk' (.inr ⟨hg1,hg2⟩)) (fun h=>by cases h) hl (HWp.out.on b2))
 have HB2:=Hm b2
 clear hw2 hk2 KL1 HK1 hh hg1 hg2 hr2 b2 q1
 go_wp2_with fail
 refine KS.out.mono ?_
 rintro e w3 ⟨rfl,hw3,hk3⟩
 have H3:=Hm hw3
 have HK3:=Hm hk3
 clear hw3 hk3 KS cr
 go_wp2
 go_end0
 exact ⟨rfl,H3.out.weak (fun k hk=>.inl hk),(Kept.of_below HB2.out HWp.out.lt).trans (HK3.out.weak fun k hk=>.inl hk)⟩
theorem wvft_c (p:Nat) (S:Nat→Prop) (xs:List Int) (l:List FType) (a:Option Addr) (c:Nat) (w0 w:World) (hS:∀ k,k<w0.heap.size→S k) (hb:Below w0.heap.size w0 w) (hL:FType.Ls 0 w0 a l) (hn:l.length≤1048576) (hg:∀ i,i<l.length→(l.getD i FType.z).ps.length≤1048576∧(l.getD i FType.z).rs.length≤1048576) (hl:xs.length+(lebU 9 l.length++catE ftE l).length≤500000000000) (hW:Wr w p S xs) :
    Calls Tryz.prog 187 #[.pointer (some ⟨p,0,none⟩),.slice a l.length c,.func (.func 188) #[.pointer (some ⟨p,0,none⟩)] #[]] w fun e w'=>e=.returned (.tuple #[])∧Wr w' p S (xs++(lebU 9 l.length++catE ftE l))∧Kept S w w':=by
 have HS:=Hm hS
 have HB:=Hm hb
 have HG:=Hm hg
 have HLs:=Hm hL
 rw [List.length_append] at hl
 have KL:=Hm (wu32_c p S xs l.length w (by omega) (by omega) (by omega) hW)
 generalize hQ:xs++lebU 9 l.length=ys at *
 have hys:ys.length+(catE ftE l).length≤500000000000:=by rw [← hQ,List.length_append];omega
 have HQ:=Hm hQ
 clear hS hb hg hL hW hQ hl
 go_enter Tryz.func187,Tryz.ntmps187
 go_wp2_with fail
 refine (KL.out).mono ?_
 rintro e w1 ⟨rfl,hw1,hk1⟩
 have HW1:=Hm hw1
 have HK1:=Hm hk1
 clear hw1 hk1 KL
 go_wp2_with fail
 go_loopw [14] (fun i wr=>∃ k:Nat,k≤l.length∧i=.int .i64 k∧Wr wr p S (ys++catE ftE (l.take k))∧Kept S w wr) (fun i _=>l.length-(intOf i).toNat)
 case atStart=>exact ⟨0,Nat.zero_le _,rfl,by simpa [catE] using HW1.out,HK1.out⟩
 case round =>
  obtain ⟨k,hk,rfl,hw,hkp⟩:=hrel
  clear HW1 HK1
  by_cases hlt:k<l.length
  · have hki:(k:Int)<(l.length:Int):=by omega
    have hbr:=kb HS.out HB.out hkp
    rcases HLs.out with hx | ⟨b,o,ea,_,hc⟩
    · subst hx;simp at hlt
    have hxk:=hc k hlt
    subst ea
    have g0:=HG.out k hlt
    have HSt:=Hm (catE_step ftE FType.z l k hlt)
    have hle2:=catE_le ftE l (k+1)
    rw [HSt.out,List.length_append] at hle2
    generalize hx:l.getD k FType.z=x at *
    obtain ⟨a1,c1,a2,c2,⟨q0,q1⟩,hi⟩:=hxk
    have lb:b<w0.heap.size:=World.block_lt_of_cell? w0 _ q0
    have q0:=(hbr.cell (p:=⟨b,o+k*2,none⟩) lb).trans q0
    have q1:=(hbr.cell (p:=⟨b,o+k*2+1,none⟩) lb).trans q1
    generalize hpre:ys++catE ftE (l.take k)=pre at *
    have hpl:pre.length+(ftE x).length≤500000000000:=by rw [← hpre,List.length_append];omega
    have HPre:=Hm hpre
    have KI:=Hm (fun (ob:Obj)=>wft_c p S pre x a1 c1 a2 c2 w0 (wr.alloc ob) HS.out (hbr.alloc hbr.size ob) hi g0.1 g0.2 hpl (hw.keep ((Below.refl _ _).alloc (Nat.le_refl _) ob)))
    have HKP:=Hm hkp
    have HLt:=Hm hw.lt
    clear hw hkp hc hx hpre hle2 hi hbr lb g0 HG HLs
    go_wp2_with fail
    refine (KI.out _).mono ?_
    rintro e w2 ⟨rfl,hw2,hk2⟩
    have HW2:Hid (Wr w2 p S (ys++catE ftE (l.take (k+1)))):=by
     show Wr _ _ _ _
     rw [HSt.out,← List.append_assoc,HPre.out];exact hw2
    have HK2:=Hm (HKP.out.trans ((Kept.of_below ((Below.refl _ _).alloc (Nat.le_refl _) _) HLt.out).trans hk2))
    clear hw2 hk2 KI q0 q1
    go_wp2
    go_roundw
    case rel=>exact ⟨k+1,by omega,by go_num,HW2.out,HK2.out⟩
    case measure=>simp [intOf];omega
  · have e:k=l.length:=by omega
    subst e
    have HW2:Hid (Wr wr p S (xs++(lebU 9 l.length++catE ftE l))):=by
     rw [List.take_length,← HQ.out,List.append_assoc] at hw
     exact hw
    have HK2:=Hm hkp
    clear hw hkp HG HLs
    go_wp2
    go_end0
    exact ⟨rfl,HW2.out,HK2.out⟩
theorem wvglob_c (p:Nat) (S:Nat→Prop) (xs:List Int) (l:List Glob) (a:Option Addr) (c:Nat) (w0 w:World) (hS:∀ k,k<w0.heap.size→S k) (hb:Below w0.heap.size w0 w) (hL:Glob.Ls 0 w0 a l) (hn:l.length≤1048576) (hg:∀ i,i<l.length→LG (l.getD i Glob.z).ini) (hl:xs.length+(lebU 9 l.length++catE globE l).length≤500000000000) (hW:Wr w p S xs) :
    Calls Tryz.prog 196 #[.pointer (some ⟨p,0,none⟩),.slice a l.length c,.func (.func 197) #[.pointer (some ⟨p,0,none⟩)] #[]] w fun e w'=>e=.returned (.tuple #[])∧Wr w' p S (xs++(lebU 9 l.length++catE globE l))∧Kept S w w':=by
 have HS:=Hm hS
 have HB:=Hm hb
 have HG:=Hm hg
 have HLs:=Hm hL
 rw [List.length_append] at hl
 have KL:=Hm (wu32_c p S xs l.length w (by omega) (by omega) (by omega) hW)
 generalize hQ:xs++lebU 9 l.length=ys at *
 have hys:ys.length+(catE globE l).length≤500000000000:=by rw [← hQ,List.length_append];omega
 have HQ:=Hm hQ
 clear hS hb hg hL hW hQ hl
 go_enter Tryz.func196,Tryz.ntmps196
 go_wp2_with fail
 refine (KL.out).mono ?_
 rintro e w1 ⟨rfl,hw1,hk1⟩
 have HW1:=Hm hw1
 have HK1:=Hm hk1
 clear hw1 hk1 KL
 go_wp2_with fail
 go_loopw [14] (fun i wr=>∃ k:Nat,k≤l.length∧i=.int .i64 k∧Wr wr p S (ys++catE globE (l.take k))∧Kept S w wr) (fun i _=>l.length-(intOf i).toNat)
 case atStart=>exact ⟨0,Nat.zero_le _,rfl,by simpa [catE] using HW1.out,HK1.out⟩
 case round =>
  obtain ⟨k,hk,rfl,hw,hkp⟩:=hrel
  clear HW1 HK1
  by_cases hlt:k<l.length
  · have hki:(k:Int)<(l.length:Int):=by omega
    have hbr:=kb HS.out HB.out hkp
    rcases HLs.out with hx | ⟨b,o,ea,_,hc⟩
    · subst hx;simp at hlt
    have hxk:=hc k hlt
    subst ea
    have g0:=HG.out k hlt
    have HSt:=Hm (catE_step globE Glob.z l k hlt)
    have hle2:=catE_le globE l (k+1)
    rw [HSt.out,List.length_append] at hle2
    generalize hx:l.getD k Glob.z=x at *
    obtain ⟨a1,c1,⟨q0,q1,q2⟩,hi⟩:=hxk
    have lb:b<w0.heap.size:=World.block_lt_of_cell? w0 _ q0
    have q0:=(hbr.cell (p:=⟨b,o+k*3,none⟩) lb).trans q0
    have q1:=(hbr.cell (p:=⟨b,o+k*3+1,none⟩) lb).trans q1
    have q2:=(hbr.cell (p:=⟨b,o+k*3+2,none⟩) lb).trans q2
    generalize hpre:ys++catE globE (l.take k)=pre at *
    have hpl:pre.length+(globE x).length≤500000000000:=by rw [← hpre,List.length_append];omega
    have HPre:=Hm hpre
    have KI:=Hm (fun (ob:Obj)=>wglob_c p S pre x a1 c1 w0 (wr.alloc ob) HS.out (hbr.alloc hbr.size ob) hi g0 hpl (hw.keep ((Below.refl _ _).alloc (Nat.le_refl _) ob)))
    have HKP:=Hm hkp
    have HLt:=Hm hw.lt
    clear hw hkp hc hx hpre hle2 hi hbr lb g0 HG HLs
    go_wp2_with fail
    refine (KI.out _).mono ?_
    rintro e w2 ⟨rfl,hw2,hk2⟩
    have HW2:Hid (Wr w2 p S (ys++catE globE (l.take (k+1)))):=by
     show Wr _ _ _ _
     rw [HSt.out,← List.append_assoc,HPre.out];exact hw2
    have HK2:=Hm (HKP.out.trans ((Kept.of_below ((Below.refl _ _).alloc (Nat.le_refl _) _) HLt.out).trans hk2))
    clear hw2 hk2 KI q0 q1 q2
    go_wp2
    go_roundw
    case rel=>exact ⟨k+1,by omega,by go_num,HW2.out,HK2.out⟩
    case measure=>simp [intOf];omega
  · have e:k=l.length:=by omega
    subst e
    have HW2:Hid (Wr wr p S (xs++(lebU 9 l.length++catE globE l))):=by
     rw [List.take_length,← HQ.out,List.append_assoc] at hw
     exact hw
    have HK2:=Hm hkp
    clear hw hkp HG HLs
    go_wp2
    go_end0
    exact ⟨rfl,HW2.out,HK2.out⟩
theorem wvele_c (p:Nat) (S:Nat→Prop) (xs:List Int) (l:List Ele) (a:Option Addr) (c:Nat) (w0 w:World) (hS:∀ k,k<w0.heap.size→S k) (hb:Below w0.heap.size w0 w) (hL:Ele.Ls 0 w0 a l) (hn:l.length≤1048576) (hg:∀ i,i<l.length→LG (l.getD i Ele.z).off∧(l.getD i Ele.z).fs.length≤1048576∧∀ j,j<(l.getD i Ele.z).fs.length→0≤(l.getD i Ele.z).fs.getD j 0∧(l.getD i Ele.z).fs.getD j 0≤4294967295) (hl:xs.length+(lebU 9 l.length++catE eleE l).length≤500000000000) (hW:Wr w p S xs) :
    Calls Tryz.prog 200 #[.pointer (some ⟨p,0,none⟩),.slice a l.length c,.func (.func 201) #[.pointer (some ⟨p,0,none⟩)] #[]] w fun e w'=>e=.returned (.tuple #[])∧Wr w' p S (xs++(lebU 9 l.length++catE eleE l))∧Kept S w w':=by
 have HS:=Hm hS
 have HB:=Hm hb
 have HG:=Hm hg
 have HLs:=Hm hL
 rw [List.length_append] at hl
 have KL:=Hm (wu32_c p S xs l.length w (by omega) (by omega) (by omega) hW)
 generalize hQ:xs++lebU 9 l.length=ys at *
 have hys:ys.length+(catE eleE l).length≤500000000000:=by rw [← hQ,List.length_append];omega
 have HQ:=Hm hQ
 clear hS hb hg hL hW hQ hl
 go_enter Tryz.func200,Tryz.ntmps200
 go_wp2_with fail
 refine (KL.out).mono ?_
 rintro e w1 ⟨rfl,hw1,hk1⟩
 have HW1:=Hm hw1
 have HK1:=Hm hk1
 clear hw1 hk1 KL
 go_wp2_with fail
 go_loopw [14] (fun i wr=>∃ k:Nat,k≤l.length∧i=.int .i64 k∧Wr wr p S (ys++catE eleE (l.take k))∧Kept S w wr) (fun i _=>l.length-(intOf i).toNat)
 case atStart=>exact ⟨0,Nat.zero_le _,rfl,by simpa [catE] using HW1.out,HK1.out⟩
 case round =>
  obtain ⟨k,hk,rfl,hw,hkp⟩:=hrel
  clear HW1 HK1
  by_cases hlt:k<l.length
  · have hki:(k:Int)<(l.length:Int):=by omega
    have hbr:=kb HS.out HB.out hkp
    rcases HLs.out with hx | ⟨b,o,ea,_,hc⟩
    · subst hx;simp at hlt
    have hxk:=hc k hlt
    subst ea
    have g0:=HG.out k hlt
    have HSt:=Hm (catE_step eleE Ele.z l k hlt)
    have hle2:=catE_le eleE l (k+1)
    rw [HSt.out,List.length_append] at hle2
    generalize hx:l.getD k Ele.z=x at *
    obtain ⟨a1,c1,a2,c2,⟨q0,q1⟩,hi⟩:=hxk
    have lb:b<w0.heap.size:=World.block_lt_of_cell? w0 _ q0
    have q0:=(hbr.cell (p:=⟨b,o+k*2,none⟩) lb).trans q0
    have q1:=(hbr.cell (p:=⟨b,o+k*2+1,none⟩) lb).trans q1
    generalize hpre:ys++catE eleE (l.take k)=pre at *
    have hpl:pre.length+(eleE x).length≤500000000000:=by rw [← hpre,List.length_append];omega
    have HPre:=Hm hpre
    have KI:=Hm (fun (ob:Obj)=>wele_c p S pre x a1 c1 a2 c2 w0 (wr.alloc ob) HS.out (hbr.alloc hbr.size ob) hi g0.1 g0.2.1 g0.2.2 hpl (hw.keep ((Below.refl _ _).alloc (Nat.le_refl _) ob)))
    have HKP:=Hm hkp
    have HLt:=Hm hw.lt
    clear hw hkp hc hx hpre hle2 hi hbr lb g0 HG HLs
    go_wp2_with fail
    refine (KI.out _).mono ?_
    rintro e w2 ⟨rfl,hw2,hk2⟩
    have HW2:Hid (Wr w2 p S (ys++catE eleE (l.take (k+1)))):=by
     show Wr _ _ _ _
     rw [HSt.out,← List.append_assoc,HPre.out];exact hw2
    have HK2:=Hm (HKP.out.trans ((Kept.of_below ((Below.refl _ _).alloc (Nat.le_refl _) _) HLt.out).trans hk2))
    clear hw2 hk2 KI q0 q1
    go_wp2
    go_roundw
    case rel=>exact ⟨k+1,by omega,by go_num,HW2.out,HK2.out⟩
    case measure=>simp [intOf];omega
  · have e:k=l.length:=by omega
    subst e
    have HW2:Hid (Wr wr p S (xs++(lebU 9 l.length++catE eleE l))):=by
     rw [List.take_length,← HQ.out,List.append_assoc] at hw
     exact hw
    have HK2:=Hm hkp
    clear hw hkp HG HLs
    go_wp2
    go_end0
    exact ⟨rfl,HW2.out,HK2.out⟩
theorem wvdat_c (p:Nat) (S:Nat→Prop) (xs:List Int) (l:List Dat) (a:Option Addr) (c:Nat) (w0 w:World) (hS:∀ k,k<w0.heap.size→S k) (hb:Below w0.heap.size w0 w) (hL:Dat.Ls 0 w0 a l) (hn:l.length≤1048576) (hg:∀ i,i<l.length→LG (l.getD i Dat.z).off) (hl:xs.length+(lebU 9 l.length++catE datE l).length≤500000000000) (hW:Wr w p S xs) :
    Calls Tryz.prog 204 #[.pointer (some ⟨p,0,none⟩),.slice a l.length c,.func (.func 205) #[.pointer (some ⟨p,0,none⟩)] #[]] w fun e w'=>e=.returned (.tuple #[])∧Wr w' p S (xs++(lebU 9 l.length++catE datE l))∧Kept S w w':=by
 have HS:=Hm hS
 have HB:=Hm hb
 have HG:=Hm hg
 have HLs:=Hm hL
 rw [List.length_append] at hl
 have KL:=Hm (wu32_c p S xs l.length w (by omega) (by omega) (by omega) hW)
 generalize hQ:xs++lebU 9 l.length=ys at *
 have hys:ys.length+(catE datE l).length≤500000000000:=by rw [← hQ,List.length_append];omega
 have HQ:=Hm hQ
 clear hS hb hg hL hW hQ hl
 go_enter Tryz.func204,Tryz.ntmps204
 go_wp2_with fail
 refine (KL.out).mono ?_
 rintro e w1 ⟨rfl,hw1,hk1⟩
 have HW1:=Hm hw1
 have HK1:=Hm hk1
 clear hw1 hk1 KL
 go_wp2_with fail
 go_loopw [14] (fun i wr=>∃ k:Nat,k≤l.length∧i=.int .i64 k∧Wr wr p S (ys++catE datE (l.take k))∧Kept S w wr) (fun i _=>l.length-(intOf i).toNat)
 case atStart=>exact ⟨0,Nat.zero_le _,rfl,by simpa [catE] using HW1.out,HK1.out⟩
 case round =>
  obtain ⟨k,hk,rfl,hw,hkp⟩:=hrel
  clear HW1 HK1
  by_cases hlt:k<l.length
  · have hki:(k:Int)<(l.length:Int):=by omega
    have hbr:=kb HS.out HB.out hkp
    rcases HLs.out with hx | ⟨b,o,ea,_,hc⟩
    · subst hx;simp at hlt
    have hxk:=hc k hlt
    subst ea
    have g0:=HG.out k hlt
    have HSt:=Hm (catE_step datE Dat.z l k hlt)
    have hle2:=catE_le datE l (k+1)
    rw [HSt.out,List.length_append] at hle2
    generalize hx:l.getD k Dat.z=x at *
    obtain ⟨a1,c1,a2,c2,⟨q0,q1⟩,hi⟩:=hxk
    have lb:b<w0.heap.size:=World.block_lt_of_cell? w0 _ q0
    have q0:=(hbr.cell (p:=⟨b,o+k*2,none⟩) lb).trans q0
    have q1:=(hbr.cell (p:=⟨b,o+k*2+1,none⟩) lb).trans q1
    generalize hpre:ys++catE datE (l.take k)=pre at *
    have hpl:pre.length+(datE x).length≤500000000000:=by rw [← hpre,List.length_append];omega
    have HPre:=Hm hpre
    have KI:=Hm (fun (ob:Obj)=>wdat_c p S pre x a1 c1 a2 c2 w0 (wr.alloc ob) HS.out (hbr.alloc hbr.size ob) hi g0 hpl (hw.keep ((Below.refl _ _).alloc (Nat.le_refl _) ob)))
    have HKP:=Hm hkp
    have HLt:=Hm hw.lt
    clear hw hkp hc hx hpre hle2 hi hbr lb g0 HG HLs
    go_wp2_with fail
    refine (KI.out _).mono ?_
    rintro e w2 ⟨rfl,hw2,hk2⟩
    have HW2:Hid (Wr w2 p S (ys++catE datE (l.take (k+1)))):=by
     show Wr _ _ _ _
     rw [HSt.out,← List.append_assoc,HPre.out];exact hw2
    have HK2:=Hm (HKP.out.trans ((Kept.of_below ((Below.refl _ _).alloc (Nat.le_refl _) _) HLt.out).trans hk2))
    clear hw2 hk2 KI q0 q1
    go_wp2
    go_roundw
    case rel=>exact ⟨k+1,by omega,by go_num,HW2.out,HK2.out⟩
    case measure=>simp [intOf];omega
  · have e:k=l.length:=by omega
    subst e
    have HW2:Hid (Wr wr p S (xs++(lebU 9 l.length++catE datE l))):=by
     rw [List.take_length,← HQ.out,List.append_assoc] at hw
     exact hw
    have HK2:=Hm hkp
    clear hw hkp HG HLs
    go_wp2
    go_end0
    exact ⟨rfl,HW2.out,HK2.out⟩
theorem wvcod_c (p:Nat) (S:Nat→Prop) (xs:List Int) (l:List Cod) (a:Option Addr) (c:Nat) (w0 w:World) (hS:∀ k,k<w0.heap.size→S k) (hb:Below w0.heap.size w0 w) (hL:Cod.Ls 0 w0 a l) (hn:l.length≤1048576) (hg:∀ i,i<l.length→(l.getD i Cod.z).locs.length≤1048576∧(∀ j,j<(l.getD i Cod.z).locs.length→0≤((l.getD i Cod.z).locs.getD j Grp.z).n∧((l.getD i Cod.z).locs.getD j Grp.z).n≤4294967295)∧LG (l.getD i Cod.z).body) (hl:xs.length+(lebU 9 l.length++catE codE l).length≤500000000000) (hW:Wr w p S xs) :
    Calls Tryz.prog 202 #[.pointer (some ⟨p,0,none⟩),.slice a l.length c,.func (.func 203) #[.pointer (some ⟨p,0,none⟩)] #[]] w fun e w'=>e=.returned (.tuple #[])∧Wr w' p S (xs++(lebU 9 l.length++catE codE l))∧Kept S w w':=by
 have HS:=Hm hS
 have HB:=Hm hb
 have HG:=Hm hg
 have HLs:=Hm hL
 rw [List.length_append] at hl
 have KL:=Hm (wu32_c p S xs l.length w (by omega) (by omega) (by omega) hW)
 generalize hQ:xs++lebU 9 l.length=ys at *
 have hys:ys.length+(catE codE l).length≤500000000000:=by rw [← hQ,List.length_append];omega
 have HQ:=Hm hQ
 clear hS hb hg hL hW hQ hl
 go_enter Tryz.func202,Tryz.ntmps202
 go_wp2_with fail
 refine (KL.out).mono ?_
 rintro e w1 ⟨rfl,hw1,hk1⟩
 have HW1:=Hm hw1
 have HK1:=Hm hk1
 clear hw1 hk1 KL
 go_wp2_with fail
 go_loopw [14] (fun i wr=>∃ k:Nat,k≤l.length∧i=.int .i64 k∧Wr wr p S (ys++catE codE (l.take k))∧Kept S w wr) (fun i _=>l.length-(intOf i).toNat)
 case atStart=>exact ⟨0,Nat.zero_le _,rfl,by simpa [catE] using HW1.out,HK1.out⟩
 case round =>
  obtain ⟨k,hk,rfl,hw,hkp⟩:=hrel
  clear HW1 HK1
  by_cases hlt:k<l.length
  · have hki:(k:Int)<(l.length:Int):=by omega
    have hbr:=kb HS.out HB.out hkp
    rcases HLs.out with hx | ⟨b,o,ea,_,hc⟩
    · subst hx;simp at hlt
    have hxk:=hc k hlt
    subst ea
    have g0:=HG.out k hlt
    have HSt:=Hm (catE_step codE Cod.z l k hlt)
    have hle2:=catE_le codE l (k+1)
    rw [HSt.out,List.length_append] at hle2
    generalize hx:l.getD k Cod.z=x at *
    obtain ⟨a1,c1,a2,c2,⟨q0,q1⟩,hi⟩:=hxk
    have lb:b<w0.heap.size:=World.block_lt_of_cell? w0 _ q0
    have q0:=(hbr.cell (p:=⟨b,o+k*2,none⟩) lb).trans q0
    have q1:=(hbr.cell (p:=⟨b,o+k*2+1,none⟩) lb).trans q1
    generalize hpre:ys++catE codE (l.take k)=pre at *
    have hpl:pre.length+(codE x).length≤500000000000:=by rw [← hpre,List.length_append];omega
    have HPre:=Hm hpre
    have KI:=Hm (fun (ob:Obj)=>wcod_c p S pre x a1 c1 a2 c2 w0 (wr.alloc ob) HS.out (hbr.alloc hbr.size ob) hi g0.1 g0.2.1 g0.2.2 hpl (hw.keep ((Below.refl _ _).alloc (Nat.le_refl _) ob)))
    have HKP:=Hm hkp
    have HLt:=Hm hw.lt
    clear hw hkp hc hx hpre hle2 hi hbr lb g0 HG HLs
    go_wp2_with fail
    refine (KI.out _).mono ?_
    rintro e w2 ⟨rfl,hw2,hk2⟩
    have HW2:Hid (Wr w2 p S (ys++catE codE (l.take (k+1)))):=by
     show Wr _ _ _ _
     rw [HSt.out,← List.append_assoc,HPre.out];exact hw2
    have HK2:=Hm (HKP.out.trans ((Kept.of_below ((Below.refl _ _).alloc (Nat.le_refl _) _) HLt.out).trans hk2))
    clear hw2 hk2 KI q0 q1
    go_wp2
    go_roundw
    case rel=>exact ⟨k+1,by omega,by go_num,HW2.out,HK2.out⟩
    case measure=>simp [intOf];omega
  · have e:k=l.length:=by omega
    subst e
    have HW2:Hid (Wr wr p S (xs++(lebU 9 l.length++catE codE l))):=by
     rw [List.take_length,← HQ.out,List.append_assoc] at hw
     exact hw
    have HK2:=Hm hkp
    clear hw hkp HG HLs
    go_wp2
    go_end0
    exact ⟨rfl,HW2.out,HK2.out⟩
end Go.Proofs.YtdbmolambolmgaaGreat
