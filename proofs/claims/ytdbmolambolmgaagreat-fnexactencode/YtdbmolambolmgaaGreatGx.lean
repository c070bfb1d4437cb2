import Derived.Test.YtdbmolambolmgaaGreatGw
set_option linter.all false
set_option maxHeartbeats 16000000
set_option maxRecDepth 100000
namespace Go.Proofs.YtdbmolambolmgaaGreat
open Go.RowKit Go.Sort
set_option maxRecDepth 100000
theorem wvlim_c (p:Nat) (S:Nat→Prop) (xs:List Int) (l:List Limits) (a:Option Addr) (c:Nat) (w0 w:World) (hS:∀ k,k<w0.heap.size→S k) (hb:Below w0.heap.size w0 w) (hL:Limits.Ls 0 w0 a l) (hn:l.length≤1048576) (hg:∀ i,i<l.length→limB (l.getD i Limits.z)=true) (hl:xs.length+(lebU 9 l.length++catE limE l).length≤500000000000) (hW:Wr w p S xs) :
    Calls Tryz.prog 193 #[.pointer (some ⟨p,0,none⟩),.slice a l.length c,.func (.func 195) #[.pointer (some ⟨p,0,none⟩)] #[]] w fun e w'=>e=.returned (.tuple #[])∧Wr w' p S (xs++(lebU 9 l.length++catE limE l))∧Kept S w w':=by
 have HS:=Hm hS
 have HB:=Hm hb
 have HG:=Hm hg
 have HLs:=Hm hL
 rw [List.length_append] at hl
 have KL:=Hm (wu32_c p S xs l.length w (by omega) (by omega) (by omega) hW)
 generalize hQ:xs++lebU 9 l.length=ys at *
 have hys:ys.length+(catE limE l).length≤500000000000:=by rw [← hQ,List.length_append];omega
 have HQ:=Hm hQ
 clear hS hb hg hL hW hQ hl
 go_enter Tryz.func193,Tryz.ntmps193
 go_wp2_with fail
 refine (KL.out).mono ?_
 rintro e w1 ⟨rfl,hw1,hk1⟩
 have HW1:=Hm hw1
 have HK1:=Hm hk1
 clear hw1 hk1 KL
 go_wp2_with fail
 go_loopw [14] (fun i wr=>∃ k:Nat,k≤l.length∧i=.int .i64 k∧Wr wr p S (ys++catE limE (l.take k))∧Kept S w wr) (fun i _=>l.length-(intOf i).toNat)
 case atStart=>exact ⟨0,Nat.zero_le _,rfl,by simpa [catE] using HW1.out,HK1.out⟩
 case round =>
  obtain ⟨k,hk,rfl,hw,hkp⟩:=hrel
  clear HW1 HK1
  by_cases hlt:k<l.length
  · have hki:(k:Int)<(l.length:Int):=by omega
    have hbr:=kb HS.out HB.out hkp
    rcases HLs.out with hx | ⟨b,o,ea,_,hc⟩
    · subst hx;simp at hlt
    have hxk:=hc k hlt
    subst ea
    have g0:=HG.out k hlt
    have HSt:=Hm (catE_step limE Limits.z l k hlt)
    have hle2:=catE_le limE l (k+1)
    rw [HSt.out,List.length_append] at hle2
    generalize hx:l.getD k Limits.z=x at *
    obtain ⟨⟨q0,q1,q2⟩,hi⟩:=hxk
    have lb:b<w0.heap.size:=World.block_lt_of_cell? w0 _ q0
    have q0:=(hbr.cell (p:=⟨b,o+k*3,none⟩) lb).trans q0
    have q1:=(hbr.cell (p:=⟨b,o+k*3+1,none⟩) lb).trans q1
    have q2:=(hbr.cell (p:=⟨b,o+k*3+2,none⟩) lb).trans q2
    generalize hpre:ys++catE limE (l.take k)=pre at *
    have hpl:pre.length+(limE x).length≤500000000000:=by rw [← hpre,List.length_append];omega
    have HPre:=Hm hpre
    have KI:=Hm (fun (ob:Obj)=>wlim_c p S pre x (wr.alloc ob) g0 hpl (hw.keep ((Below.refl _ _).alloc (Nat.le_refl _) ob)))
    have HKP:=Hm hkp
    have HLt:=Hm hw.lt
    clear hw hkp hc hx hpre hle2 hi hbr lb g0 HG HLs
    go_wp2_with fail
    refine (KI.out _).mono ?_
    rintro e w2 ⟨rfl,hw2,hk2⟩
    have HW2:Hid (Wr w2 p S (ys++catE limE (l.take (k+1)))):=by
     show Wr _ _ _ _
     rw [HSt.out,← List.append_assoc,HPre.out];exact hw2
    have HK2:=Hm (HKP.out.trans ((Kept.of_below ((Below.refl _ _).alloc (Nat.le_refl _) _) HLt.out).trans hk2))
    clear hw2 hk2 KI q0 q1 q2
    go_wp2
    go_roundw
    case rel=>exact ⟨k+1,by omega,by go_num,HW2.out,HK2.out⟩
    case measure=>simp [intOf];omega
  · have e:k=l.length:=by omega
    subst e
    have HW2:Hid (Wr wr p S (xs++(lebU 9 l.length++catE limE l))):=by
     rw [List.take_length,← HQ.out,List.append_assoc] at hw
     exact hw
    have HK2:=Hm hkp
    clear hw hkp HG HLs
    go_wp2
    go_end0
    exact ⟨rfl,HW2.out,HK2.out⟩
def tabE (l:Limits):List Int:=[112]++limE l
theorem wvtab_c (p:Nat) (S:Nat→Prop) (xs:List Int) (l:List Limits) (a:Option Addr) (c:Nat) (w0 w:World) (hS:∀ k,k<w0.heap.size→S k) (hb:Below w0.heap.size w0 w) (hL:Limits.Ls 0 w0 a l) (hn:l.length≤1048576) (hg:∀ i,i<l.length→limB (l.getD i Limits.z)=true) (hl:xs.length+(lebU 9 l.length++catE tabE l).length≤500000000000) (hW:Wr w p S xs) :
    Calls Tryz.prog 193 #[.pointer (some ⟨p,0,none⟩),.slice a l.length c,.func (.func 194) #[.pointer (some ⟨p,0,none⟩)] #[]] w fun e w'=>e=.returned (.tuple #[])∧Wr w' p S (xs++(lebU 9 l.length++catE tabE l))∧Kept S w w':=by
 have HS:=Hm hS
 have HB:=Hm hb
 have HG:=Hm hg
 have HLs:=Hm hL
 rw [List.length_append] at hl
 have KL:=Hm (wu32_c p S xs l.length w (by omega) (by omega) (by omega) hW)
 generalize hQ:xs++lebU 9 l.length=ys at *
 have hys:ys.length+(catE tabE l).length≤500000000000:=by rw [← hQ,List.length_append];omega
 have HQ:=Hm hQ
 clear hS hb hg hL hW hQ hl
 go_enter Tryz.func193,Tryz.ntmps193
 go_wp2_with fail
 refine (KL.out).mono ?_
 rintro e w1 ⟨rfl,hw1,hk1⟩
 have HW1:=Hm hw1
 have HK1:=Hm hk1
 clear hw1 hk1 KL
 go_wp2_with fail
 go_loopw [14] (fun i wr=>∃ k:Nat,k≤l.length∧i=.int .i64 k∧Wr wr p S (ys++catE tabE (l.take k))∧Kept S w wr) (fun i _=>l.length-(intOf i).toNat)
 case atStart=>exact ⟨0,Nat.zero_le _,rfl,by simpa [catE] using HW1.out,HK1.out⟩
 case round =>
  obtain ⟨k,hk,rfl,hw,hkp⟩:=hrel
  clear HW1 HK1
  by_cases hlt:k<l.length
  · have hki:(k:Int)<(l.length:Int):=by omega
    have hbr:=kb HS.out HB.out hkp
    rcases HLs.out with hx | ⟨b,o,ea,_,hc⟩
    · subst hx;simp at hlt
    have hxk:=hc k hlt
    subst ea
    have g0:=HG.out k hlt
    have HSt:=Hm (catE_step tabE Limits.z l k hlt)
    have hle2:=catE_le tabE l (k+1)
    rw [HSt.out,List.length_append] at hle2
    generalize hx:l.getD k Limits.z=x at *
    obtain ⟨⟨q0,q1,q2⟩,hi⟩:=hxk
    have lb:b<w0.heap.size:=World.block_lt_of_cell? w0 _ q0
    have q0:=(hbr.cell (p:=⟨b,o+k*3,none⟩) lb).trans q0
    have q1:=(hbr.cell (p:=⟨b,o+k*3+1,none⟩) lb).trans q1
    have q2:=(hbr.cell (p:=⟨b,o+k*3+2,none⟩) lb).trans q2
    generalize hpre:ys++catE tabE (l.take k)=pre at *
    have hpl:pre.length+(tabE x).length≤500000000000:=by rw [← hpre,List.length_append];omega
    have HPre:=Hm hpre
    have KI:=Hm (fun (ob:Obj)=>wtab_c p S pre x (wr.alloc ob) g0 hpl (hw.keep ((Below.refl _ _).alloc (Nat.le_refl _) ob)))
    have HKP:=Hm hkp
    have HLt:=Hm hw.lt
    clear hw hkp hc hx hpre hle2 hi hbr lb g0 HG HLs
    go_wp2_with fail
    refine (KI.out _).mono ?_
    rintro e w2 ⟨rfl,hw2,hk2⟩
    have HW2:Hid (Wr w2 p S (ys++catE tabE (l.take (k+1)))):=by
     show Wr _ _ _ _
     rw [HSt.out,← List.append_assoc,HPre.out];exact hw2
    have HK2:=Hm (HKP.out.trans ((Kept.of_below ((Below.refl _ _).alloc (Nat.le_refl _) _) HLt.out).trans hk2))
    clear hw2 hk2 KI q0 q1 q2
    go_wp2
    go_roundw
    case rel=>exact ⟨k+1,by omega,by go_num,HW2.out,HK2.out⟩
    case measure=>simp [intOf];omega
  · have e:k=l.length:=by omega
    subst e
    have HW2:Hid (Wr wr p S (xs++(lebU 9 l.length++catE tabE l))):=by
     rw [List.take_length,← HQ.out,List.append_assoc] at hw
     exact hw
    have HK2:=Hm hkp
    clear hw hkp HG HLs
    go_wp2
    go_end0
    exact ⟨rfl,HW2.out,HK2.out⟩
theorem wvgrp_c (p:Nat) (S:Nat→Prop) (xs:List Int) (l:List Grp) (a:Option Addr) (c:Nat) (w0 w:World) (hS:∀ k,k<w0.heap.size→S k) (hb:Below w0.heap.size w0 w) (hL:Grp.Ls 0 w0 a l) (hn:l.length≤1048576) (hg:∀ i,i<l.length→0≤(l.getD i Grp.z).n∧(l.getD i Grp.z).n≤4294967295) (hl:xs.length+(lebU 9 l.length++catE grpE l).length≤500000000000) (hW:Wr w p S xs) :
    Calls Tryz.prog 229 #[.pointer (some ⟨p,0,none⟩),.slice a l.length c,.func (.func 230) #[.pointer (some ⟨p,0,none⟩)] #[]] w fun e w'=>e=.returned (.tuple #[])∧Wr w' p S (xs++(lebU 9 l.length++catE grpE l))∧Kept S w w':=by
 have HS:=Hm hS
 have HB:=Hm hb
 have HG:=Hm hg
 have HLs:=Hm hL
 rw [List.length_append] at hl
 have KL:=Hm (wu32_c p S xs l.length w (by omega) (by omega) (by omega) hW)
 generalize hQ:xs++lebU 9 l.length=ys at *
 have hys:ys.length+(catE grpE l).length≤500000000000:=by rw [← hQ,List.length_append];omega
 have HQ:=Hm hQ
 clear hS hb hg hL hW hQ hl
 go_enter Tryz.func229,Tryz.ntmps229
 go_wp2_with fail
 refine (KL.out).mono ?_
 rintro e w1 ⟨rfl,hw1,hk1⟩
 have HW1:=Hm hw1
 have HK1:=Hm hk1
 clear hw1 hk1 KL
 go_wp2_with fail
 go_loopw [14] (fun i wr=>∃ k:Nat,k≤l.length∧i=.int .i64 k∧Wr wr p S (ys++catE grpE (l.take k))∧Kept S w wr) (fun i _=>l.length-(intOf i).toNat)
 case atStart=>exact ⟨0,Nat.zero_le _,rfl,by simpa [catE] using HW1.out,HK1.out⟩
 case round =>
  obtain ⟨k,hk,rfl,hw,hkp⟩:=hrel
  clear HW1 HK1
  by_cases hlt:k<l.length
  · have hki:(k:Int)<(l.length:Int):=by omega
    have hbr:=kb HS.out HB.out hkp
    rcases HLs.out with hx | ⟨b,o,ea,_,hc⟩
    · subst hx;simp at hlt
    have hxk:=hc k hlt
    subst ea
    have g0:=HG.out k hlt
    have HSt:=Hm (catE_step grpE Grp.z l k hlt)
    have hle2:=catE_le grpE l (k+1)
    rw [HSt.out,List.length_append] at hle2
    generalize hx:l.getD k Grp.z=x at *
    obtain ⟨⟨q0,q1⟩,hi⟩:=hxk
    have lb:b<w0.heap.size:=World.block_lt_of_cell? w0 _ q0
    have q0:=(hbr.cell (p:=⟨b,o+k*2,none⟩) lb).trans q0
    have q1:=(hbr.cell (p:=⟨b,o+k*2+1,none⟩) lb).trans q1
    generalize hpre:ys++catE grpE (l.take k)=pre at *
    have hpl:pre.length+(grpE x).length≤500000000000:=by rw [← hpre,List.length_append];omega
    have HPre:=Hm hpre
    have KI:=Hm (fun (ob:Obj)=>wgrp_c p S pre x (wr.alloc ob) g0.1 g0.2 hpl (hw.keep ((Below.refl _ _).alloc (Nat.le_refl _) ob)))
    have HKP:=Hm hkp
    have HLt:=Hm hw.lt
    clear hw hkp hc hx hpre hle2 hi hbr lb g0 HG HLs
    go_wp2_with fail
    refine (KI.out _).mono ?_
    rintro e w2 ⟨rfl,hw2,hk2⟩
    have HW2:Hid (Wr w2 p S (ys++catE grpE (l.take (k+1)))):=by
     show Wr _ _ _ _
     rw [HSt.out,← List.append_assoc,HPre.out];exact hw2
    have HK2:=Hm (HKP.out.trans ((Kept.of_below ((Below.refl _ _).alloc (Nat.le_refl _) _) HLt.out).trans hk2))
    clear hw2 hk2 KI q0 q1
    go_wp2
    go_roundw
    case rel=>exact ⟨k+1,by omega,by go_num,HW2.out,HK2.out⟩
    case measure=>simp [intOf];omega
  · have e:k=l.length:=by omega
    subst e
    have HW2:Hid (Wr wr p S (xs++(lebU 9 l.length++catE grpE l))):=by
     rw [List.take_length,← HQ.out,List.append_assoc] at hw
     exact hw
    have HK2:=Hm hkp
    clear hw hkp HG HLs
    go_wp2
    go_end0
    exact ⟨rfl,HW2.out,HK2.out⟩
theorem wvexp_c (p:Nat) (S:Nat→Prop) (xs:List Int) (l:List Exp) (a:Option Addr) (c:Nat) (w0 w:World) (hS:∀ k,k<w0.heap.size→S k) (hb:Below w0.heap.size w0 w) (hL:Exp.Ls 0 w0 a l) (hn:l.length≤1048576) (hg:∀ i,i<l.length→0≤(l.getD i Exp.z).ix∧(l.getD i Exp.z).ix≤4294967295) (hl:xs.length+(lebU 9 l.length++catE expE l).length≤500000000000) (hW:Wr w p S xs) :
    Calls Tryz.prog 198 #[.pointer (some ⟨p,0,none⟩),.slice a l.length c,.func (.func 199) #[.pointer (some ⟨p,0,none⟩)] #[]] w fun e w'=>e=.returned (.tuple #[])∧Wr w' p S (xs++(lebU 9 l.length++catE expE l))∧Kept S w w':=by
 have HS:=Hm hS
 have HB:=Hm hb
 have HG:=Hm hg
 have HLs:=Hm hL
 rw [List.length_append] at hl
 have KL:=Hm (wu32_c p S xs l.length w (by omega) (by omega) (by omega) hW)
 generalize hQ:xs++lebU 9 l.length=ys at *
 have hys:ys.length+(catE expE l).length≤500000000000:=by rw [← hQ,List.length_append];omega
 have HQ:=Hm hQ
 clear hS hb hg hL hW hQ hl
 go_enter Tryz.func198,Tryz.ntmps198
 go_wp2_with fail
 refine (KL.out).mono ?_
 rintro e w1 ⟨rfl,hw1,hk1⟩
 have HW1:=Hm hw1
 have HK1:=Hm hk1
 clear hw1 hk1 KL
 go_wp2_with fail
 go_loopw [14] (fun i wr=>∃ k:Nat,k≤l.length∧i=.int .i64 k∧Wr wr p S (ys++catE expE (l.take k))∧Kept S w wr) (fun i _=>l.length-(intOf i).toNat)
 case atStart=>exact ⟨0,Nat.zero_le _,rfl,by simpa [catE] using HW1.out,HK1.out⟩
 case round =>
  obtain ⟨k,hk,rfl,hw,hkp⟩:=hrel
  clear HW1 HK1
  by_cases hlt:k<l.length
  · have hki:(k:Int)<(l.length:Int):=by omega
    have hbr:=kb HS.out HB.out hkp
    rcases HLs.out with hx | ⟨b,o,ea,_,hc⟩
    · subst hx;simp at hlt
    have hxk:=hc k hlt
    subst ea
    have g0:=HG.out k hlt
    have HSt:=Hm (catE_step expE Exp.z l k hlt)
    have hle2:=catE_le expE l (k+1)
    rw [HSt.out,List.length_append] at hle2
    generalize hx:l.getD k Exp.z=x at *
    obtain ⟨⟨q0,q1,q2⟩,hi⟩:=hxk
    have lb:b<w0.heap.size:=World.block_lt_of_cell? w0 _ q0
    have q0:=(hbr.cell (p:=⟨b,o+k*3,none⟩) lb).trans q0
    have q1:=(hbr.cell (p:=⟨b,o+k*3+1,none⟩) lb).trans q1
    have q2:=(hbr.cell (p:=⟨b,o+k*3+2,none⟩) lb).trans q2
    generalize hpre:ys++catE expE (l.take k)=pre at *
    have hpl:pre.length+(expE x).length≤500000000000:=by rw [← hpre,List.length_append];omega
    have HPre:=Hm hpre
    have KI:=Hm (fun (ob:Obj)=>wexp_c p S pre x (wr.alloc ob) g0.1 g0.2 hpl (hw.keep ((Below.refl _ _).alloc (Nat.le_refl _) ob)))
    have HKP:=Hm hkp
    have HLt:=Hm hw.lt
    clear hw hkp hc hx hpre hle2 hi hbr lb g0 HG HLs
    go_wp2_with fail
    refine (KI.out _).mono ?_
    rintro e w2 ⟨rfl,hw2,hk2⟩
    have HW2:Hid (Wr w2 p S (ys++catE expE (l.take (k+1)))):=by
     show Wr _ _ _ _
     rw [HSt.out,← List.append_assoc,HPre.out];exact hw2
    have HK2:=Hm (HKP.out.trans ((Kept.of_below ((Below.refl _ _).alloc (Nat.le_refl _) _) HLt.out).trans hk2))
    clear hw2 hk2 KI q0 q1 q2
    go_wp2
    go_roundw
    case rel=>exact ⟨k+1,by omega,by go_num,HW2.out,HK2.out⟩
    case measure=>simp [intOf];omega
  · have e:k=l.length:=by omega
    subst e
    have HW2:Hid (Wr wr p S (xs++(lebU 9 l.length++catE expE l))):=by
     rw [List.take_length,← HQ.out,List.append_assoc] at hw
     exact hw
    have HK2:=Hm hkp
    clear hw hkp HG HLs
    go_wp2
    go_end0
    exact ⟨rfl,HW2.out,HK2.out⟩
theorem wvimp_c (p:Nat) (S:Nat→Prop) (xs:List Int) (l:List Imp) (a:Option Addr) (c:Nat) (w0 w:World) (hS:∀ k,k<w0.heap.size→S k) (hb:Below w0.heap.size w0 w) (hL:Imp.Ls 0 w0 a l) (hn:l.length≤1048576) (hg:∀ i,i<l.length→impK (l.getD i Imp.z)=true) (hl:xs.length+(lebU 9 l.length++catE impE l).length≤500000000000) (hW:Wr w p S xs) :
    Calls Tryz.prog 189 #[.pointer (some ⟨p,0,none⟩),.slice a l.length c,.func (.func 190) #[.pointer (some ⟨p,0,none⟩)] #[]] w fun e w'=>e=.returned (.tuple #[])∧Wr w' p S (xs++(lebU 9 l.length++catE impE l))∧Kept S w w':=by
 have HS:=Hm hS
 have HB:=Hm hb
 have HG:=Hm hg
 have HLs:=Hm hL
 rw [List.length_append] at hl
 have KL:=Hm (wu32_c p S xs l.length w (by omega) (by omega) (by omega) hW)
 generalize hQ:xs++lebU 9 l.length=ys at *
 have hys:ys.length+(catE impE l).length≤500000000000:=by rw [← hQ,List.length_append];omega
 have HQ:=Hm hQ
 clear hS hb hg hL hW hQ hl
 go_enter Tryz.func189,Tryz.ntmps189
 go_wp2_with fail
 refine (KL.out).mono ?_
 rintro e w1 ⟨rfl,hw1,hk1⟩
 have HW1:=Hm hw1
 have HK1:=Hm hk1
 clear hw1 hk1 KL
 go_wp2_with fail
 go_loopw [14] (fun i wr=>∃ k:Nat,k≤l.length∧i=.int .i64 k∧Wr wr p S (ys++catE impE (l.take k))∧Kept S w wr) (fun i _=>l.length-(intOf i).toNat)
 case atStart=>exact ⟨0,Nat.zero_le _,rfl,by simpa [catE] using HW1.out,HK1.out⟩
 case round =>
  obtain ⟨k,hk,rfl,hw,hkp⟩:=hrel
  clear HW1 HK1
  by_cases hlt:k<l.length
  · have hki:(k:Int)<(l.length:Int):=by omega
    have hbr:=kb HS.out HB.out hkp
    rcases HLs.out with hx | ⟨b,o,ea,_,hc⟩
    · subst hx;simp at hlt
    have hxk:=hc k hlt
    subst ea
    have g0:=HG.out k hlt
    have HSt:=Hm (catE_step impE Imp.z l k hlt)
    have hle2:=catE_le impE l (k+1)
    rw [HSt.out,List.length_append] at hle2
    generalize hx:l.getD k Imp.z=x at *
    obtain ⟨⟨q0,q1,q2,q3,q4,q5,q6,q7,q8⟩,hi⟩:=hxk
    have lb:b<w0.heap.size:=World.block_lt_of_cell? w0 _ q0
    have q0:=(hbr.cell (p:=⟨b,o+k*9,none⟩) lb).trans q0
    have q1:=(hbr.cell (p:=⟨b,o+k*9+1,none⟩) lb).trans q1
    have q2:=(hbr.cell (p:=⟨b,o+k*9+2,none⟩) lb).trans q2
    have q3:=(hbr.cell (p:=⟨b,o+k*9+3,none⟩) lb).trans q3
    have q4:=(hbr.cell (p:=⟨b,o+k*9+4,none⟩) lb).trans q4
    have q5:=(hbr.cell (p:=⟨b,o+k*9+5,none⟩) lb).trans q5
    have q6:=(hbr.cell (p:=⟨b,o+k*9+6,none⟩) lb).trans q6
    have q7:=(hbr.cell (p:=⟨b,o+k*9+7,none⟩) lb).trans q7
    have q8:=(hbr.cell (p:=⟨b,o+k*9+8,none⟩) lb).trans q8
    generalize hpre:ys++catE impE (l.take k)=pre at *
    have hpl:pre.length+(impE x).length≤500000000000:=by rw [← hpre,List.length_append];omega
    have HPre:=Hm hpre
    have KI:=Hm (fun (ob:Obj)=>wimp_c p S pre x (wr.alloc ob) g0 hpl (hw.keep ((Below.refl _ _).alloc (Nat.le_refl _) ob)))
    have HKP:=Hm hkp
    have HLt:=Hm hw.lt
    clear hw hkp hc hx hpre hle2 hi hbr lb g0 HG HLs
    go_wp2_with fail
    refine (KI.out _).mono ?_
    rintro e w2 ⟨rfl,hw2,hk2⟩
    have HW2:Hid (Wr w2 p S (ys++catE impE (l.take (k+1)))):=by
     show Wr _ _ _ _
     rw [HSt.out,← List.append_assoc,HPre.out];exact hw2
    have HK2:=Hm (HKP.out.trans ((Kept.of_below ((Below.refl _ _).alloc (Nat.le_refl _) _) HLt.out).trans hk2))
    clear hw2 hk2 KI q0 q1 q2 q3 q4 q5 q6 q7 q8
    go_wp2
    go_roundw
    case rel=>exact ⟨k+1,by omega,by go_num,HW2.out,HK2.out⟩
    case measure=>simp [intOf];omega
  · have e:k=l.length:=by omega
    subst e
    have HW2:Hid (Wr wr p S (xs++(lebU 9 l.length++catE impE l))):=by
     rw [List.take_length,← HQ.out,List.append_assoc] at hw
     exact hw
    have HK2:=Hm hkp
    clear hw hkp HG HLs
    go_wp2
    go_end0
    exact ⟨rfl,HW2.out,HK2.out⟩
open Go.RowKit Go.Sort
def LG (l:List In):Prop:=l.length≤1048576∧∀ i,i<l.length→gd (l.getD i I0)=true∧0≤(l.getD i I0).v∧(l.getD i I0).v≤18446744073709551615∧(l.getD i I0).l.length≤1048576
theorem HI.byhas {B:Nat} {w:World} {a:Option Addr} {xs:List Int} (h:HI .u8 B w a xs):By.Has w a xs:=by
 rcases h with h | ⟨b,o,e,_,hc⟩
 · exact .inl h
 · exact .inr ⟨b,o,e,hc⟩
theorem HI.none {k:IntKind} {B:Nat} {w:World} {a:Option Addr} {xs:List Int} (h:HI k B w a xs) (e:a=none):xs=[]:=by
 rcases h with h | ⟨b,o,e',_,hc⟩
 · exact h
 · rw [e] at e';cases e'
def onesE (l:List Int):List Int:=l.map (·%256)
theorem ones_step (l:List Int) (k:Nat) (h:k<l.length):onesE (l.take (k+1))=onesE (l.take k)++[l.getD k 0%256]:=by
 rw [List.take_add_one,List.getElem?_eq_getElem h,show l.getD k 0=l[k] by simp [List.getD,h]]
 simp only [onesE,Option.toList,List.map_append,List.map_cons,List.map_nil]
theorem wvone_c (p:Nat) (S:Nat→Prop) (xs l:List Int) (a:Option Addr) (c:Nat) (w0 w:World) (hS:∀ k,k<w0.heap.size→S k) (hb:Below w0.heap.size w0 w) (hL:HI .i64 0 w0 a l) (hn:l.length≤1048576) (hl:xs.length+(lebU 9 l.length++onesE l).length≤500000000000) (hW:Wr w p S xs) :
    Calls Tryz.prog 191 #[.pointer (some ⟨p,0,none⟩),.slice a l.length c,.func (.func 148) #[.pointer (some ⟨p,0,none⟩)] #[]] w fun e w'=>e=.returned (.tuple #[])∧Wr w' p S (xs++(lebU 9 l.length++onesE l))∧Kept S w w':=by
 have HS:=Hm hS
 have HB:=Hm hb
 have HLs:=Hm hL
 rw [List.length_append] at hl
 have KL:=Hm (wu32_c p S xs l.length w (by omega) (by omega) (by omega) hW)
 generalize hQ:xs++lebU 9 l.length=ys at *
 have hys:ys.length≤500000000000:=by rw [← hQ,List.length_append];omega
 have HQ:=Hm hQ
 clear hS hb hL hW hQ hl
 go_enter Tryz.func191,Tryz.ntmps191
 go_wp2_with fail
 refine (KL.out).mono ?_
 rintro e w1 ⟨rfl,hw1,hk1⟩
 have HW1:=Hm hw1
 have HK1:=Hm hk1
 clear hw1 hk1 KL
 go_wp2_with fail
 go_loopw [14] (fun i wr=>∃ k:Nat,k≤l.length∧i=.int .i64 k∧Wr wr p S (ys++onesE (l.take k))∧Kept S w wr) (fun i _=>l.length-(intOf i).toNat)
 case atStart=>exact ⟨0,Nat.zero_le _,rfl,by simpa [onesE] using HW1.out,HK1.out⟩
 case round =>
  obtain ⟨k,hk,rfl,hw,hkp⟩:=hrel
  clear HW1 HK1
  by_cases hlt:k<l.length
  · have hki:(k:Int)<(l.length:Int):=by omega
    rcases HI.has (HLs.out.up (up_below (kb HS.out HB.out hkp))) with hx | ⟨b1,o1,ea,hc⟩
    · subst hx;simp at hlt
    have d:=hc k hlt
    subst ea
    have hs:=ones_step l k hlt
    have hlk:(ys++onesE (l.take k)).length≤1099511627776:=by
     simp only [List.length_append,onesE,List.length_map,List.length_take];omega
    generalize hy:l.getD k 0=y at *
    have KO:=Hm (wone_c p S (ys++onesE (l.take k)) y wr hlk hw)
    have HSs:=Hm hs
    have HKP:=Hm hkp
    clear hw hkp hc hs hy hlk HLs
    go_wp2_with fail
    refine (KO.out).mono ?_
    rintro e w2 ⟨rfl,hw2,hk2⟩
    have HW2:Hid (Wr w2 p S (ys++onesE (l.take (k+1)))):=by
     show Wr _ _ _ _
     rw [HSs.out,← List.append_assoc];exact hw2
    have HK2:=Hm (HKP.out.trans hk2)
    clear hw2 hk2 KO HKP d
    go_wp2
    go_roundw
    case rel=>exact ⟨k+1,by omega,by go_num,HW2.out,HK2.out⟩
    case measure=>simp [intOf];omega
  · have e:k=l.length:=by omega
    subst e
    have HW2:Hid (Wr wr p S (xs++(lebU 9 l.length++onesE l))):=by
     rw [List.take_length,← HQ.out,List.append_assoc] at hw
     exact hw
    have HK2:=Hm hkp
    clear hw hkp HLs
    go_wp2
    go_end0
    exact ⟨rfl,HW2.out,HK2.out⟩
theorem wft_c (p:Nat) (S:Nat→Prop) (xs:List Int) (x:FType) (a1:Option Addr) (c1:Nat) (a2:Option Addr) (c2:Nat) (w0:World) (w:World) (hS:∀ k,k<w0.heap.size→S k) (hb:Below w0.heap.size w0 w) (hI:FType.Is 0 w0 x a1 a2) (hn1:x.ps.length≤1048576) (hn2:x.rs.length≤1048576) (hl:xs.length+([(96)%256]++(lebU 9 x.ps.length++onesE x.ps)++(lebU 9 x.rs.length++onesE x.rs)).length≤500000000000) (hW:Wr w p S xs) :
    Calls Tryz.prog 188 #[.pointer (some ⟨p,0,none⟩),.agg #[.slice a1 x.ps.length c1,.slice a2 x.rs.length c2]] w fun e w'=>e=.returned (.tuple #[])∧Wr w' p S (xs++([(96)%256]++(lebU 9 x.ps.length++onesE x.ps)++(lebU 9 x.rs.length++onesE x.rs)))∧Kept S w w':=by
 try simp only [List.length_append,List.length_cons,List.length_nil] at hl
 have HLT:=Hm hW.lt
 obtain ⟨W,hWd⟩:∃ W,W=w.alloc (.cells #[.slice a1 x.ps.length c1,.slice a2 x.rs.length c2] 95):=⟨_,rfl⟩
 have hBk:Bk W w.heap.size [.slice a1 x.ps.length c1,.slice a2 x.rs.length c2]:=by rw [hWd];exact Bk.new
 have BB:=Hm hBk
 have HW0:Hid (Wr W p (Bx S w.heap.size) xs):=by show Wr _ _ _ _;rw [hWd];exact wr_box hW _
 have HK0:=Hm (Kept.refl (Bx S w.heap.size) W)
 have HWd:=Hm hWd
 have HS:=Hm (fun (k:Nat) (hk:k<w0.heap.size)=>(Or.inl (hS k hk):Bx S w.heap.size k))
 have HB0:Hid (Below w0.heap.size w0 W):=by show Below _ _ _;rw [hWd];exact hb.alloc hb.size _
 have q0:=hBk.2.1 0 _ rfl
 have q1:=hBk.2.1 1 _ rfl
 clear hBk hWd hW hS hb
 go_enter Tryz.func188,Tryz.ntmps188
 have K0:=Hm (wone_c p (Bx S w.heap.size) xs (96) W (by (try simp only [List.length_append,List.length_cons,List.length_nil]);omega) HW0.out)
 go_wp2_with fail
 rw [show w.alloc (.cells #[.slice a1 x.ps.length c1,.slice a2 x.rs.length c2] 95)=W from HWd.out.symm]
 refine K0.out.mono ?_
 rintro e w1 ⟨rfl,hw,hk⟩
 have HW1:=Hm hw
 have HK1:=Hm (HK0.out.trans hk)
 replace BB:=Hm (BB.out.kept hk (Bx.box S w.heap.size))
 clear q0 q1
 have q0:=BB.out.2.1 0 _ rfl
 have q1:=BB.out.2.1 1 _ rfl
 clear hw hk K0
 have K1:=Hm (wvone_c p (Bx S w.heap.size) (xs++[(96)%256]) x.ps a1 c1 w0 w1 HS.out (kb HS.out HB0.out HK1.out) hI.1 hn1 (by (try simp only [List.length_append,List.length_cons,List.length_nil]);omega) HW1.out)
 go_wp2_with fail
 refine K1.out.mono ?_
 rintro e w2 ⟨rfl,hw,hk⟩
 have HW2:=Hm hw
 have HK2:=Hm (HK1.out.trans hk)
 replace BB:=Hm (BB.out.kept hk (Bx.box S w.heap.size))
 clear q0 q1
 have q0:=BB.out.2.1 0 _ rfl
 have q1:=BB.out.2.1 1 _ rfl
 clear hw hk K1
 have K2:=Hm (wvone_c p (Bx S w.heap.size) ((xs++[(96)%256])++(lebU 9 x.ps.length++onesE x.ps)) x.rs a2 c2 w0 w2 HS.out (kb HS.out HB0.out HK2.out) hI.2 hn2 (by (try simp only [List.length_append,List.length_cons,List.length_nil]);omega) HW2.out)
 go_wp2_with fail
 refine K2.out.mono ?_
 rintro e w3 ⟨rfl,hw,hk⟩
 have HW3:=Hm hw
 have HK3:=Hm (HK2.out.trans hk)
 replace BB:=Hm (BB.out.kept hk (Bx.box S w.heap.size))
 clear q0 q1
 have q0:=BB.out.2.1 0 _ rfl
 have q1:=BB.out.2.1 1 _ rfl
 clear hw hk K2
 go_wp2
 go_end0
 have HKf:=HK3.out
 rw [HWd.out] at HKf
 obtain ⟨r1,r2⟩:=wr_fin (xs:=xs++([(96)%256]++(lebU 9 x.ps.length++onesE x.ps)++(lebU 9 x.rs.length++onesE x.rs))) HLT.out HW3.out HKf (by simp)
 exact ⟨rfl,r1,r2⟩
def ftE (x:FType):List Int:=[(96)%256]++(lebU 9 x.ps.length++onesE x.ps)++(lebU 9 x.rs.length++onesE x.rs)
theorem wglob_c (p:Nat) (S:Nat→Prop) (xs:List Int) (x:Glob) (a1:Option Addr) (c1:Nat) (w0:World) (w:World) (hS:∀ k,k<w0.heap.size→S k) (hb:Below w0.heap.size w0 w) (hI:Glob.Is 0 w0 x a1) (hg:LG x.ini) (hl:xs.length+(([x.ty.ty%256]++flB x.ty.mu)++catE encI x.ini).length≤500000000000) (hW:Wr w p S xs) :
    Calls Tryz.prog 197 #[.pointer (some ⟨p,0,none⟩),.agg #[.int .i64 x.ty.ty,.bool x.ty.mu,.slice a1 x.ini.length c1]] w fun e w'=>e=.returned (.tuple #[])∧Wr w' p S (xs++(([x.ty.ty%256]++flB x.ty.mu)++catE encI x.ini))∧Kept S w w':=by
 try simp only [List.length_append,List.length_cons,List.length_nil] at hl
 have HLT:=Hm hW.lt
 obtain ⟨W,hWd⟩:∃ W,W=w.alloc (.cells #[.int .i64 x.ty.ty,.bool x.ty.mu,.slice a1 x.ini.length c1] 110):=⟨_,rfl⟩
 have hBk:Bk W w.heap.size [.int .i64 x.ty.ty,.bool x.ty.mu,.slice a1 x.ini.length c1]:=by rw [hWd];exact Bk.new
 have BB:=Hm hBk
 have HW0:Hid (Wr W p (Bx S w.heap.size) xs):=by show Wr _ _ _ _;rw [hWd];exact wr_box hW _
 have HK0:=Hm (Kept.refl (Bx S w.heap.size) W)
 have HWd:=Hm hWd
 have HS:=Hm (fun (k:Nat) (hk:k<w0.heap.size)=>(Or.inl (hS k hk):Bx S w.heap.size k))
 have HB0:Hid (Below w0.heap.size w0 W):=by show Below _ _ _;rw [hWd];exact hb.alloc hb.size _
 have q0:=hBk.2.1 0 _ rfl
 have q1:=hBk.2.1 1 _ rfl
 have q2:=hBk.2.1 2 _ rfl
 clear hBk hWd hW hS hb
 go_enter Tryz.func197,Tryz.ntmps197
 have K0:=Hm (wgt_c p (Bx S w.heap.size) xs x.ty W (by (try simp only [List.length_append,List.length_cons,List.length_nil]);omega) HW0.out)
 go_wp2_with fail
 rw [show w.alloc (.cells #[.int .i64 x.ty.ty,.bool x.ty.mu,.slice a1 x.ini.length c1] 110)=W from HWd.out.symm]
 refine K0.out.mono ?_
 rintro e w1 ⟨rfl,hw,hk⟩
 have HW1:=Hm hw
 have HK1:=Hm (HK0.out.trans hk)
 replace BB:=Hm (BB.out.kept hk (Bx.box S w.heap.size))
 clear q0 q1 q2
 have q0:=BB.out.2.1 0 _ rfl
 have q1:=BB.out.2.1 1 _ rfl
 have q2:=BB.out.2.1 2 _ rfl
 clear hw hk K0
 have K1:=Hm (wlist_c p (Bx S w.heap.size) (xs++([x.ty.ty%256]++flB x.ty.mu)) x.ini a1 c1 w0 w1 HS.out (kb HS.out HB0.out HK1.out) hI hg.1 hg.2 (by (try simp only [List.length_append,List.length_cons,List.length_nil]);omega) HW1.out)
 go_wp2_with fail
 refine K1.out.mono ?_
 rintro e w2 ⟨rfl,hw,hk⟩
 have HW2:=Hm hw
 have HK2:=Hm (HK1.out.trans hk)
 replace BB:=Hm (BB.out.kept hk (Bx.box S w.heap.size))
 clear q0 q1 q2
 have q0:=BB.out.2.1 0 _ rfl
 have q1:=BB.out.2.1 1 _ rfl
 have q2:=BB.out.2.1 2 _ rfl
 clear hw hk K1
 go_wp2
 go_end0
 have HKf:=HK2.out
 rw [HWd.out] at HKf
 obtain ⟨r1,r2⟩:=wr_fin (xs:=xs++(([x.ty.ty%256]++flB x.ty.mu)++catE encI x.ini)) HLT.out HW2.out HKf (by simp)
 exact ⟨rfl,r1,r2⟩
def globE (x:Glob):List Int:=([x.ty.ty%256]++flB x.ty.mu)++catE encI x.ini
theorem wele_c (p:Nat) (S:Nat→Prop) (xs:List Int) (x:Ele) (a1:Option Addr) (c1:Nat) (a2:Option Addr) (c2:Nat) (w0:World) (w:World) (hS:∀ k,k<w0.heap.size→S k) (hb:Below w0.heap.size w0 w) (hI:Ele.Is 0 w0 x a1 a2) (hg:LG x.off) (hn:x.fs.length≤1048576) (hu:∀ i,i<x.fs.length→0≤x.fs.getD i 0∧x.fs.getD i 0≤4294967295) (hl:xs.length+([(0)%256]++catE encI x.off++(lebU 9 x.fs.length++nums x.fs)).length≤500000000000) (hW:Wr w p S xs) :
    Calls Tryz.prog 201 #[.pointer (some ⟨p,0,none⟩),.agg #[.slice a1 x.off.length c1,.slice a2 x.fs.length c2]] w fun e w'=>e=.returned (.tuple #[])∧Wr w' p S (xs++([(0)%256]++catE encI x.off++(lebU 9 x.fs.length++nums x.fs)))∧Kept S w w':=by
 try simp only [List.length_append,List.length_cons,List.length_nil] at hl
 have HLT:=Hm hW.lt
 obtain ⟨W,hWd⟩:∃ W,W=w.alloc (.cells #[.slice a1 x.off.length c1,.slice a2 x.fs.length c2] 70):=⟨_,rfl⟩
 have hBk:Bk W w.heap.size [.slice a1 x.off.length c1,.slice a2 x.fs.length c2]:=by rw [hWd];exact Bk.new
 have BB:=Hm hBk
 have HW0:Hid (Wr W p (Bx S w.heap.size) xs):=by show Wr _ _ _ _;rw [hWd];exact wr_box hW _
 have HK0:=Hm (Kept.refl (Bx S w.heap.size) W)
 have HWd:=Hm hWd
 have HS:=Hm (fun (k:Nat) (hk:k<w0.heap.size)=>(Or.inl (hS k hk):Bx S w.heap.size k))
 have HB0:Hid (Below w0.heap.size w0 W):=by show Below _ _ _;rw [hWd];exact hb.alloc hb.size _
 have q0:=hBk.2.1 0 _ rfl
 have q1:=hBk.2.1 1 _ rfl
 clear hBk hWd hW hS hb
 go_enter Tryz.func201,Tryz.ntmps201
 have K0:=Hm (wone_c p (Bx S w.heap.size) xs (0) W (by (try simp only [List.length_append,List.length_cons,List.length_nil]);omega) HW0.out)
 go_wp2_with fail
 rw [show w.alloc (.cells #[.slice a1 x.off.length c1,.slice a2 x.fs.length c2] 70)=W from HWd.out.symm]
 refine K0.out.mono ?_
 rintro e w1 ⟨rfl,hw,hk⟩
 have HW1:=Hm hw
 have HK1:=Hm (HK0.out.trans hk)
 replace BB:=Hm (BB.out.kept hk (Bx.box S w.heap.size))
 clear q0 q1
 have q0:=BB.out.2.1 0 _ rfl
 have q1:=BB.out.2.1 1 _ rfl
 clear hw hk K0
 have K1:=Hm (wlist_c p (Bx S w.heap.size) (xs++[(0)%256]) x.off a1 c1 w0 w1 HS.out (kb HS.out HB0.out HK1.out) hI.1 hg.1 hg.2 (by (try simp only [List.length_append,List.length_cons,List.length_nil]);omega) HW1.out)
 go_wp2_with fail
 refine K1.out.mono ?_
 rintro e w2 ⟨rfl,hw,hk⟩
 have HW2:=Hm hw
 have HK2:=Hm (HK1.out.trans hk)
 replace BB:=Hm (BB.out.kept hk (Bx.box S w.heap.size))
 clear q0 q1
 have q0:=BB.out.2.1 0 _ rfl
 have q1:=BB.out.2.1 1 _ rfl
 clear hw hk K1
 have K2:=Hm (wvec_c p (Bx S w.heap.size) ((xs++[(0)%256])++catE encI x.off) x.fs a2 c2 w2 hn hu (by (try simp only [List.length_append,List.length_cons,List.length_nil]);omega) (fun w2 hk2=>HI.has (hI.2.up (up_below (kb HS.out (kb HS.out HB0.out HK2.out) hk2)))) HW2.out)
 go_wp2_with fail
 refine K2.out.mono ?_
 rintro e w3 ⟨rfl,hw,hk⟩
 have HW3:=Hm hw
 have HK3:=Hm (HK2.out.trans hk)
 replace BB:=Hm (BB.out.kept hk (Bx.box S w.heap.size))
 clear q0 q1
 have q0:=BB.out.2.1 0 _ rfl
 have q1:=BB.out.2.1 1 _ rfl
 clear hw hk K2
 go_wp2
 go_end0
 have HKf:=HK3.out
 rw [HWd.out] at HKf
 obtain ⟨r1,r2⟩:=wr_fin (xs:=xs++([(0)%256]++catE encI x.off++(lebU 9 x.fs.length++nums x.fs))) HLT.out HW3.out HKf (by simp)
 exact ⟨rfl,r1,r2⟩
def eleE (x:Ele):List Int:=[(0)%256]++catE encI x.off++(lebU 9 x.fs.length++nums x.fs)
theorem wdat_c (p:Nat) (S:Nat→Prop) (xs:List Int) (x:Dat) (a1:Option Addr) (c1:Nat) (a2:Option Addr) (c2:Nat) (w0:World) (w:World) (hS:∀ k,k<w0.heap.size→S k) (hb:Below w0.heap.size w0 w) (hI:Dat.Is 0 w0 x a1 a2) (hg:LG x.off) (hl:xs.length+([(0)%256]++catE encI x.off++szE x.bs).length≤500000000000) (hW:Wr w p S xs) :
    Calls Tryz.prog 205 #[.pointer (some ⟨p,0,none⟩),.agg #[.slice a1 x.off.length c1,.slice a2 x.bs.length c2]] w fun e w'=>e=.returned (.tuple #[])∧Wr w' p S (xs++([(0)%256]++catE encI x.off++szE x.bs))∧Kept S w w':=by
 try simp only [List.length_append,List.length_cons,List.length_nil] at hl
 have HLT:=Hm hW.lt
 obtain ⟨W,hWd⟩:∃ W,W=w.alloc (.cells #[.slice a1 x.off.length c1,.slice a2 x.bs.length c2] 76):=⟨_,rfl⟩
 have hBk:Bk W w.heap.size [.slice a1 x.off.length c1,.slice a2 x.bs.length c2]:=by rw [hWd];exact Bk.new
 have BB:=Hm hBk
 have HW0:Hid (Wr W p (Bx S w.heap.size) xs):=by show Wr _ _ _ _;rw [hWd];exact wr_box hW _
 have HK0:=Hm (Kept.refl (Bx S w.heap.size) W)
 have HWd:=Hm hWd
 have HS:=Hm (fun (k:Nat) (hk:k<w0.heap.size)=>(Or.inl (hS k hk):Bx S w.heap.size k))
 have HB0:Hid (Below w0.heap.size w0 W):=by show Below _ _ _;rw [hWd];exact hb.alloc hb.size _
 have q0:=hBk.2.1 0 _ rfl
 have q1:=hBk.2.1 1 _ rfl
 clear hBk hWd hW hS hb
 go_enter Tryz.func205,Tryz.ntmps205
 have K0:=Hm (wone_c p (Bx S w.heap.size) xs (0) W (by (try simp only [List.length_append,List.length_cons,List.length_nil]);omega) HW0.out)
 go_wp2_with fail
 rw [show w.alloc (.cells #[.slice a1 x.off.length c1,.slice a2 x.bs.length c2] 76)=W from HWd.out.symm]
 refine K0.out.mono ?_
 rintro e w1 ⟨rfl,hw,hk⟩
 have HW1:=Hm hw
 have HK1:=Hm (HK0.out.trans hk)
 replace BB:=Hm (BB.out.kept hk (Bx.box S w.heap.size))
 clear q0 q1
 have q0:=BB.out.2.1 0 _ rfl
 have q1:=BB.out.2.1 1 _ rfl
 clear hw hk K0
 have K1:=Hm (wlist_c p (Bx S w.heap.size) (xs++[(0)%256]) x.off a1 c1 w0 w1 HS.out (kb HS.out HB0.out HK1.out) hI.1 hg.1 hg.2 (by (try simp only [List.length_append,List.length_cons,List.length_nil]);omega) HW1.out)
 go_wp2_with fail
 refine K1.out.mono ?_
 rintro e w2 ⟨rfl,hw,hk⟩
 have HW2:=Hm hw
 have HK2:=Hm (HK1.out.trans hk)
 replace BB:=Hm (BB.out.kept hk (Bx.box S w.heap.size))
 clear q0 q1
 have q0:=BB.out.2.1 0 _ rfl
 have q1:=BB.out.2.1 1 _ rfl
 clear hw hk K1
 have K2:=Hm (wsized_c p (Bx S w.heap.size) ((xs++[(0)%256])++catE encI x.off) x.bs a2 c2 w2 (fun w2 hk2=>HI.byhas (hI.2.up (up_below (kb HS.out (kb HS.out HB0.out HK2.out) hk2)))) (HI.none hI.2) (by (try simp only [List.length_append,List.length_cons,List.length_nil]);omega) HW2.out)
 go_wp2_with fail
 refine K2.out.mono ?_
 rintro e w3 ⟨rfl,hw,hk⟩
 have HW3:=Hm hw
 have HK3:=Hm (HK2.out.trans hk)
 replace BB:=Hm (BB.out.kept hk (Bx.box S w.heap.size))
 clear q0 q1
 have q0:=BB.out.2.1 0 _ rfl
 have q1:=BB.out.2.1 1 _ rfl
 clear hw hk K2
 go_wp2
 go_end0
 have HKf:=HK3.out
 rw [HWd.out] at HKf
 obtain ⟨r1,r2⟩:=wr_fin (xs:=xs++([(0)%256]++catE encI x.off++szE x.bs)) HLT.out HW3.out HKf (by simp)
 exact ⟨rfl,r1,r2⟩
def datE (x:Dat):List Int:=[(0)%256]++catE encI x.off++szE x.bs
end Go.Proofs.YtdbmolambolmgaaGreat
