import Derived.Test.YtdbmolambolmgaaGreatHj
import Derived.Test.YtdbmolambolmgaaGreatHo
set_option linter.all false
set_option maxHeartbeats 16000000
set_option maxRecDepth 100000
namespace Go.Proofs.YtdbmolambolmgaaGreat
open Go.RowKit Go.Sort
set_option maxRecDepth 100000
structure Mk (B:Nat) (W0 V:World):Prop where
 sl:∀ b o a n c,W0.cell? ⟨b,o,none⟩=some (.slice a n c)→V.cell? ⟨b,o,none⟩=some (.slice a n c)
 ex:∀ b o v,W0.cell? ⟨b,o,none⟩=some v→∃ u,V.cell? ⟨b,o,none⟩=some u
 fz:∀ b o,B≤b→b<W0.heap.size→V.frozen? ⟨b,o,none⟩=false
 size:W0.heap.size≤V.heap.size
 lb:B≤W0.heap.size
structure MB (B:Nat) (W0 V V':World):Prop where
 mm:Mk B W0 V'
 bt:Bet B W0.heap.size V V'
theorem MB.refl {B:Nat} {W0 V:World} (h:Mk B W0 V):MB B W0 V V:=⟨h,⟨rfl,rfl,rfl,Nat.le_refl _,fun _ _=>rfl⟩⟩
theorem MB.trans {B:Nat} {W0 V V1 V2:World} (h:MB B W0 V V1) (k:MB B W0 V1 V2):MB B W0 V V2 :=
 ⟨k.mm,⟨k.bt.os.trans h.bt.os,k.bt.tape.trans h.bt.tape,k.bt.output.trans h.bt.output,Nat.le_trans h.bt.size k.bt.size,fun j hj=>(k.bt.block j (hj.imp id (fun hj=>⟨hj.1,Nat.lt_of_lt_of_le hj.2 h.bt.size⟩))).trans (h.bt.block j hj)⟩⟩
theorem MB.below {B:Nat} {W0 V V1 V2:World} (h:MB B W0 V V1) (hb:Below V1.heap.size V1 V2):MB B W0 V V2:=by
 have lt:∀ b o v,V1.cell? ⟨b,o,none⟩=some v→V2.cell? ⟨b,o,none⟩=some v:=fun b o v hv=>(hb.cell (p:=⟨b,o,none⟩) (World.block_lt_of_cell? V1 _ hv)).trans hv
 refine ⟨⟨fun b o a n c hc=>lt _ _ _ (h.mm.sl b o a n c hc),fun b o v hc=>?_,fun b o hB hl=>?_,Nat.le_trans h.mm.size hb.size,h.mm.lb⟩,⟨hb.os.trans h.bt.os,hb.tape.trans h.bt.tape,hb.output.trans h.bt.output,Nat.le_trans h.bt.size hb.size,fun j hj=>(hb.block j ?_).trans (h.bt.block j hj)⟩⟩
 · obtain ⟨u,hu⟩:=h.mm.ex b o v hc
   exact ⟨u,lt _ _ _ hu⟩
 · rw [hb.frozen (p:=⟨b,o,none⟩) (Nat.lt_of_lt_of_le hl h.mm.size)]
   exact h.mm.fz b o hB hl
 · have:=h.mm.size
   have:=h.bt.size
   have:=h.mm.lb
   rcases hj with hj | hj <;> omega
theorem MB.set {B:Nat} {W0 V V1:World} (h:MB B W0 V V1) {b o:Nat} {u:Value} (v:Value) (hB:B≤b) (hc:W0.cell? ⟨b,o,none⟩=some u) (hns:∀ a n c,u≠.slice a n c):MB B W0 V (V1.setCell ⟨b,o,none⟩ v):=by
 have hb:b<W0.heap.size:=World.block_lt_of_cell? W0 _ hc
 have oth:∀ b' o' x,(b',o')≠(b,o)→V1.cell? ⟨b',o',none⟩=some x→(V1.setCell ⟨b,o,none⟩ v).cell? ⟨b',o',none⟩=some x:=fun b' o' x hne hx=>by
  rw [World.cell?_setCell_other _ _ _ _ (fun e=>hne (by injection e with e1 e2;rw [← e1,← e2]))];exact hx
 refine ⟨⟨fun b' o' a n c hc'=>?_,fun b' o' x hc'=>?_,fun b' o' h1 h2=>by rw [World.frozen?_setCell];exact h.mm.fz b' o' h1 h2,by simpa using h.mm.size,h.mm.lb⟩,⟨h.bt.os,h.bt.tape,h.bt.output,by simpa using h.bt.size,fun j hj=>(Below.heap_setCell _ _ _ _ (fun e=>by have e':j=b:=e;omega)).trans (h.bt.block j hj)⟩⟩
 · refine oth b' o' _ (fun e=>?_) (h.mm.sl b' o' a n c hc')
   simp only [Prod.mk.injEq] at e
   obtain ⟨rfl,rfl⟩:=e
   rw [hc] at hc'
   cases hc'
   exact hns a n c rfl
 · obtain ⟨y,hy⟩:=h.mm.ex b' o' x hc'
   by_cases e:(b',o')=(b,o)
   · simp only [Prod.mk.injEq] at e
     obtain ⟨rfl,rfl⟩:=e
     exact ⟨v,set_same hy⟩
   · exact ⟨y,oth b' o' y e hy⟩
theorem sumk_le {α:Type} (f:α→Nat) (l:List α) (k:Nat):((l.take k).map f).sum≤(l.map f).sum:=by
 conv=>rhs;rw [← List.take_append_drop k l]
 rw [List.map_append,List.sum_append];omega
theorem conv_one (W:World) (x:Int):(convert 50 9 (.slice (some ⟨W.heap.size,0,none⟩) 1 1)).run Tryz.prog (W.alloc (.cells #[.int .u8 x] 5))=.ok (.string (strOfNums [x])) (W.alloc (.cells #[.int .u8 x] 5)):=by
 refine run_convert_bytes_arg _ 50 5 Tryz.underlying50 Tryz.underlying5 W.heap.size 0 1 1 [x] rfl (fun i hi=>?_) 9 Tryz.underlying9
 obtain rfl:i=0:=by omega
 exact cell_new rfl rfl
theorem mtext_c (k:Int) (w:World) (h0:0≤k) (h1:k≤1000000000):Calls Tryz.prog 151 #[.int .i64 k] w fun e w'=>∃ s,e=.returned (.string s)∧Below w.heap.size w w':=by
 by_cases hk:k≤0
 · go_enter Tryz.func151,Tryz.ntmps151
   go_wp2
   go_ret
   exact ⟨_,rfl,Below.refl _ _⟩
 · go_enter Tryz.func151,Tryz.ntmps151
   go_wp2
   go_loopw [0,3] (fun q s wr=>∃ (n:Int) (t:ByteArray),0≤n∧n+(t.size:Int)≤1000000000∧q=.int .i64 n∧s=.string t∧Below w.heap.size w wr) (fun q _ _=>(intOf q).toNat)
   case atStart=>exact ⟨k,_,h0,by simpa [ByteArray.size] using h1,rfl,rfl,Below.refl _ _⟩
   case round =>
    obtain ⟨n,t,n0,n1,rfl,rfl,hb⟩:=hrel
    clear h0 h1 hk
    by_cases hn:0<n
    · have hcv:=conv_one wr
      have HB:=Hm (hb.alloc hb.size (.cells #[.int .u8 (48+n%10)] 5))
      have hd0:0≤n / 10:=by omega
      have hd1:n / 10<n:=by omega
      have hr:Int.tmod n 10=n%10:=Int.tmod_eq_emod_of_nonneg n0
      have hq:Int.tdiv n 10=n / 10:=Int.tdiv_eq_ediv_of_nonneg n0
      clear hb
      have hs1:(strOfNums [48+n%10]++t).size=t.size+1:=by simp [strOfNums_size,ByteArray.size_append];omega
      have hs2:¬ 9223372036854775807<(strOfNums [48+n%10]).size+t.size:=by rw [strOfNums_size];simp only [List.length_cons,List.length_nil];omega
      have HS1:=Hm hs1
      clear hs1
      go_wp2
      go_roundw
      case rel=>exact ⟨n / 10,_,hd0,by rw [HS1.out];omega,rfl,rfl,HB.out⟩
      case measure=>simp [intOf];omega
    · go_wp2
      go_ret
      first | exact ⟨⟨_,rfl⟩,hb⟩ | exact ⟨_,rfl,hb⟩
open Go.RowKit Go.Sort
def Limits.sz (x:Limits):Nat:=0
def Grp.sz (x:Grp):Nat:=0
theorem sum_zero (l:List Grp):(l.map Grp.sz).sum=0:=by
 induction l with
 | nil=>rfl
 | cons x l ih=>simp [Grp.sz,ih]
theorem sum_zeroL (l:List Limits):(l.map Limits.sz).sum=0:=by
 induction l with
 | nil=>rfl
 | cons x l ih=>simp [Limits.sz,ih]
theorem mkInts_c (a:Option Addr) (c:Nat) (xs:List Int) (k0:Int) (B:Nat) (W0 V:World) (hH:HI .i64 B W0 a xs) (hm:Mk B W0 V) (h0:0≤k0) (h1:k0+xs.length≤100000000) :
    Calls Tryz.prog 87 #[.slice a xs.length c,.int .i64 k0] V fun e V'=>e=.returned (.int .i64 (k0+xs.length))∧MB B W0 V V':=by
 have HH:=Hm hH
 have HM:=Hm hm
 clear hH hm
 go_enter Tryz.func87,Tryz.ntmps87
 go_wp2
 go_loopw [1,5] (fun q i wr=>∃ j:Nat,j≤xs.length∧i=.int .i64 j∧q=.int .i64 (k0+j)∧MB B W0 V wr) (fun _ i _=>xs.length-(intOf i).toNat)
 case atStart=>exact ⟨0,Nat.zero_le _,rfl,by simp,MB.refl HM.out⟩
 case round =>
  obtain ⟨j,hj,rfl,rfl,hmb⟩:=hrel
  by_cases hlt:j<xs.length
  · have hji:(j:Int)<(xs.length:Int):=by omega
    rcases HH.out with hx | ⟨b,off,ea,hB,hc⟩
    · rw [hx] at hlt;simp at hlt
    have hcj:=hc j hlt
    obtain ⟨u,hu⟩:=hmb.mm.ex b (off+j) _ hcj
    have hz:=hmb.mm.fz b (off+j) hB (World.block_lt_of_cell? W0 _ hcj)
    have HS:=Hm (fun v=>hmb.set v hB hcj (by intro a n c h;cases h))
    have hw:IntKind.i64.wrap (k0+j+1)=k0+j+1:=by rw [IntKind.wrap_i64];omega
    subst ea
    clear hc hcj hmb HM HH
    go_wp2
    go_roundw
    case rel=>exact ⟨j+1,by omega,by go_num,by go_num,HS.out _⟩
    case measure=>simp [intOf];omega
  · have e:j=xs.length:=by omega
    subst e
    go_wp2
    go_ret
    exact ⟨rfl,hmb⟩
theorem mkBytes_c (a:Option Addr) (c:Nat) (xs:List Int) (k0:Int) (B:Nat) (W0 V:World) (hH:HI .u8 B W0 a xs) (hm:Mk B W0 V) (h0:0≤k0) (h1:k0+xs.length≤100000000) :
    Calls Tryz.prog 15 #[.slice a xs.length c,.int .i64 k0] V fun e V'=>e=.returned (.int .i64 (k0+xs.length))∧MB B W0 V V':=by
 have HH:=Hm hH
 have HM:=Hm hm
 clear hH hm
 go_enter Tryz.func15,Tryz.ntmps15
 go_wp2
 go_loopw [1,5] (fun q i wr=>∃ j:Nat,j≤xs.length∧i=.int .i64 j∧q=.int .i64 (k0+j)∧MB B W0 V wr) (fun _ i _=>xs.length-(intOf i).toNat)
 case atStart=>exact ⟨0,Nat.zero_le _,rfl,by simp,MB.refl HM.out⟩
 case round =>
  obtain ⟨j,hj,rfl,rfl,hmb⟩:=hrel
  by_cases hlt:j<xs.length
  · have hji:(j:Int)<(xs.length:Int):=by omega
    rcases HH.out with hx | ⟨b,off,ea,hB,hc⟩
    · rw [hx] at hlt;simp at hlt
    have hcj:=hc j hlt
    obtain ⟨u,hu⟩:=hmb.mm.ex b (off+j) _ hcj
    have hz:=hmb.mm.fz b (off+j) hB (World.block_lt_of_cell? W0 _ hcj)
    have HS:=Hm (fun v=>hmb.set v hB hcj (by intro a n c h;cases h))
    have hw:IntKind.i64.wrap (k0+j+1)=k0+j+1:=by rw [IntKind.wrap_i64];omega
    subst ea
    clear hc hcj hmb HM HH
    go_wp2
    go_roundw
    case rel=>exact ⟨j+1,by omega,by go_num,by go_num,HS.out _⟩
    case measure=>simp [intOf];omega
  · have e:j=xs.length:=by omega
    subst e
    go_wp2
    go_ret
    exact ⟨rfl,hmb⟩
theorem mkLimitss_c (a:Option Addr) (c:Nat) (xs:List Limits) (k0:Int) (B:Nat) (W0 V:World) (hL:Limits.Ls B W0 a xs) (hm:Mk B W0 V) (h0:0≤k0) (h1:k0+10*((xs.length+(xs.map Limits.sz).sum):Nat)≤100000000) :
    Calls Tryz.prog 88 #[.slice a xs.length c,.int .i64 k0] V fun e V'=>∃ k1:Int,e=.returned (.int .i64 k1)∧k0≤k1∧k1≤k0+10*((xs.length+(xs.map Limits.sz).sum):Nat)∧MB B W0 V V':=by
 have HL:=Hm hL
 have HM:=Hm hm
 have H1:=Hm h1
 have hxl:xs.length≤100000000:=by omega
 clear hL hm h1
 go_enter Tryz.func88,Tryz.ntmps88
 go_wp2
 go_loopw [1,5] (fun q i wr=>∃ (j:Nat) (kk:Int),j≤xs.length∧i=.int .i64 j∧q=.int .i64 kk∧k0≤kk∧kk≤k0+10*((j+((xs.take j).map Limits.sz).sum:Nat):Int)∧MB B W0 V wr) (fun _ i _=>xs.length-(intOf i).toNat)
 case atStart=>exact ⟨0,k0,Nat.zero_le _,rfl,rfl,Int.le_refl _,by simp,MB.refl HM.out⟩
 case round =>
  obtain ⟨j,kk,hj,rfl,rfl,hk0,hk1,hmb⟩:=hrel
  clear HM
  by_cases hlt:j<xs.length
  · have hji:(j:Int)<(xs.length:Int):=by omega
    rcases HL.out with hx | ⟨b,off,ea,hB,hc⟩
    · rw [hx] at hlt;simp at hlt
    have hr:=hc j hlt
    have st:=sum_step (f:=Limits.sz) Limits.z xs j hlt
    have sle:=sumk_le Limits.sz xs (j+1)
    have hH1:=H1.out
    obtain ⟨⟨d0,d1,d2⟩,hi⟩:=hr
    generalize xs.getD j Limits.z=y at *
    have lb:b<W0.heap.size:=World.block_lt_of_cell? W0 _ d0
    have HST:Hid (j+1+((xs.take (j+1)).map Limits.sz).sum=(j+((xs.take j).map Limits.sz).sum)+(1+Limits.sz y)):=by show _=_;rw [st];omega
    have hbd:kk+10*((1+Limits.sz y:Nat):Int)≤100000000:=by rw [st] at sle;omega
    subst ea
    clear st sle hH1 hc HL H1
    simp only [Limits.sz] at hbd HST
    have hkp:0≤kk:=by omega
    go_upto_region 4 with fail
    obtain ⟨u,hu⟩:=hmb.mm.ex b (off+j*3) _ d0
    have hz:=hmb.mm.fz b (off+j*3) hB lb
    have hw:IntKind.i64.wrap (kk+1)=kk+1:=by rw [IntKind.wrap_i64];omega
    have HS:=Hm (fun v=>hmb.set v hB d0 (by intro a n c h;cases h))
    clear hmb
    go_upto_region 5 with fail
    refine wp_gen (fun W=>MB B W0 V W) (HS.out _) ?_
    rintro V1 m0
    clear HS hu hz u
    go_upto_region 6 with fail
    clear hw
    obtain ⟨u,hu⟩:=m0.mm.ex b (off+j*3+1) _ d1
    have hz:=m0.mm.fz b (off+j*3+1) hB lb
    have hw:IntKind.i64.wrap ((kk+1)+1)=(kk+1)+1:=by rw [IntKind.wrap_i64];omega
    have HS:=Hm (fun v=>m0.set v hB d1 (by intro a n c h;cases h))
    clear m0
    go_upto_region 7 with fail
    refine wp_gen (fun W=>MB B W0 V W) (HS.out _) ?_
    rintro V2 m1
    clear HS hu hz u
    go_upto_region 8 with fail
    clear hw
    obtain ⟨u,hu⟩:=m1.mm.ex b (off+j*3+2) _ d2
    have hz:=m1.mm.fz b (off+j*3+2) hB lb
    have hw:IntKind.i64.wrap (((kk+1)+1)+1)=((kk+1)+1)+1:=by rw [IntKind.wrap_i64];omega
    have HS:=Hm (fun v=>m1.set v hB d2 (by intro a n c h;cases h))
    clear m1
    go_upto_region 9 with fail
    refine wp_gen (fun W=>MB B W0 V W) (HS.out _) ?_
    rintro V3 m2
    clear HS hu hz u
    go_upto_region 3 with fail
    clear hw
    have HMF:=Hm m2
    clear m2
    have HKL:Hid (k0≤(((kk+1)+1)+1)):=by show _≤_;omega
    have HKU:Hid ((((kk+1)+1)+1)≤k0+10*((j+1+((xs.take (j+1)).map Limits.sz).sum:Nat):Int)):=by show _≤_;rw [HST.out];omega
    clear HST hbd hk0 hk1
    go_wp2
    go_roundw
    case rel=>exact ⟨j+1,(((kk+1)+1)+1),by omega,by go_num,rfl,HKL.out,HKU.out,HMF.out⟩
    case measure=>simp [intOf];omega
  · have e:j=xs.length:=by omega
    subst e
    rw [List.take_length] at hk1
    have HO:=Hm (And.intro hk0 (And.intro hk1 hmb))
    clear hk0 hk1 hmb
    go_wp2
    go_ret
    exact ⟨kk,rfl,HO.out⟩
theorem mkIns_c (a:Option Addr) (c:Nat) (xs:List In) (k0:Int) (B:Nat) (W0 V:World) (hL:In.Ls B W0 a xs) (hm:Mk B W0 V) (h0:0≤k0) (h1:k0+10*((xs.length+(xs.map In.sz).sum):Nat)≤100000000) :
    Calls Tryz.prog 152 #[.slice a xs.length c,.int .i64 k0] V fun e V'=>∃ k1:Int,e=.returned (.int .i64 k1)∧k0≤k1∧k1≤k0+10*((xs.length+(xs.map In.sz).sum):Nat)∧MB B W0 V V':=by
 have HL:=Hm hL
 have HM:=Hm hm
 have H1:=Hm h1
 have hxl:xs.length≤100000000:=by omega
 clear hL hm h1
 go_enter Tryz.func152,Tryz.ntmps152
 go_wp2
 go_loopw [1,5] (fun q i wr=>∃ (j:Nat) (kk:Int),j≤xs.length∧i=.int .i64 j∧q=.int .i64 kk∧k0≤kk∧kk≤k0+10*((j+((xs.take j).map In.sz).sum:Nat):Int)∧MB B W0 V wr) (fun _ i _=>xs.length-(intOf i).toNat)
 case atStart=>exact ⟨0,k0,Nat.zero_le _,rfl,rfl,Int.le_refl _,by simp,MB.refl HM.out⟩
 case round =>
  obtain ⟨j,kk,hj,rfl,rfl,hk0,hk1,hmb⟩:=hrel
  clear HM
  by_cases hlt:j<xs.length
  · have hji:(j:Int)<(xs.length:Int):=by omega
    rcases HL.out with hx | ⟨b,off,ea,hB,hc⟩
    · rw [hx] at hlt;simp at hlt
    have hr:=hc j hlt
    have st:=sum_step (f:=In.sz) I0 xs j hlt
    have sle:=sumk_le In.sz xs (j+1)
    have hH1:=H1.out
    obtain ⟨p1,s1,⟨d0,d1,d2,d3,d4⟩,hi⟩:=hr
    generalize xs.getD j I0=y at *
    have lb:b<W0.heap.size:=World.block_lt_of_cell? W0 _ d0
    have HST:Hid (j+1+((xs.take (j+1)).map In.sz).sum=(j+((xs.take j).map In.sz).sum)+(1+In.sz y)):=by show _=_;rw [st];omega
    have hbd:kk+10*((1+In.sz y:Nat):Int)≤100000000:=by rw [st] at sle;omega
    subst ea
    clear st sle hH1 hc HL H1
    simp only [In.sz] at hbd HST
    have hkp:0≤kk:=by omega
    go_upto_region 4 with fail
    obtain ⟨u,hu⟩:=hmb.mm.ex b (off+j*5) _ d0
    have hz:=hmb.mm.fz b (off+j*5) hB lb
    have hw:IntKind.i64.wrap (kk+1)=kk+1:=by rw [IntKind.wrap_i64];omega
    have HS:=Hm (fun v=>hmb.set v hB d0 (by intro a n c h;cases h))
    clear hmb
    go_upto_region 5 with fail
    refine wp_gen (fun W=>MB B W0 V W) (HS.out _) ?_
    rintro V1 m0
    clear HS hu hz u
    go_upto_region 6 with fail
    clear hw
    obtain ⟨u,hu⟩:=m0.mm.ex b (off+j*5+1) _ d1
    have hz:=m0.mm.fz b (off+j*5+1) hB lb
    have hw:IntKind.i64.wrap ((kk+1)+1)=(kk+1)+1:=by rw [IntKind.wrap_i64];omega
    have HS:=Hm (fun v=>m0.set v hB d1 (by intro a n c h;cases h))
    clear m0
    go_upto_region 7 with fail
    refine wp_gen (fun W=>MB B W0 V W) (HS.out _) ?_
    rintro V2 m1
    clear HS hu hz u
    go_upto_region 8 with fail
    clear hw
    obtain ⟨u,hu⟩:=m1.mm.ex b (off+j*5+2) _ d2
    have hz:=m1.mm.fz b (off+j*5+2) hB lb
    have hw:IntKind.i64.wrap (((kk+1)+1)+1)=((kk+1)+1)+1:=by rw [IntKind.wrap_i64];omega
    have HS:=Hm (fun v=>m1.set v hB d2 (by intro a n c h;cases h))
    clear m1
    go_upto_region 9 with fail
    refine wp_gen (fun W=>MB B W0 V W) (HS.out _) ?_
    rintro V3 m2
    clear HS hu hz u
    go_upto_region 10 with fail
    clear hw
    obtain ⟨u,hu⟩:=m2.mm.ex b (off+j*5+3) _ d3
    have hz:=m2.mm.fz b (off+j*5+3) hB lb
    have hw:IntKind.i64.wrap ((((kk+1)+1)+1)+1)=(((kk+1)+1)+1)+1:=by rw [IntKind.wrap_i64];omega
    have hwu:IntKind.u64.wrap ((((kk+1)+1)+1))=(((kk+1)+1)+1):=by rw [IntKind.wrap_u64];omega
    have HS:=Hm (fun v=>m2.set v hB d3 (by intro a n c h;cases h))
    clear m2
    go_upto_region 11 with fail
    refine wp_gen (fun W=>MB B W0 V W) (HS.out _) ?_
    rintro V4 m3
    clear HS hu hz u
    go_upto_region 12 with fail
    clear hw hwu
    have hs:=m3.mm.sl b (off+j*5+4) _ _ _ d4
    have KC:=Hm (mkInts_c p1 s1 y.l (((((kk+1)+1)+1)+1)) B W0 V4 (hi) m3.mm (by omega) (by omega))
    have HMM:=Hm m3
    clear m3
    go_wp2_with fail
    refine KC.out.mono ?_
    rintro e V5 ⟨rfl,mc⟩
    have m4:=HMM.out.trans mc
    clear mc KC HMM hs
    have HMF:=Hm m4
    clear m4
    have HKL:Hid (k0≤(((((kk+1)+1)+1)+1)+y.l.length)):=by show _≤_;omega
    have HKU:Hid ((((((kk+1)+1)+1)+1)+y.l.length)≤k0+10*((j+1+((xs.take (j+1)).map In.sz).sum:Nat):Int)):=by show _≤_;rw [HST.out];omega
    clear HST hbd hk0 hk1
    go_wp2
    go_roundw
    case rel=>exact ⟨j+1,(((((kk+1)+1)+1)+1)+y.l.length),by omega,by go_num,rfl,HKL.out,HKU.out,HMF.out⟩
    case measure=>simp [intOf];omega
  · have e:j=xs.length:=by omega
    subst e
    rw [List.take_length] at hk1
    have HO:=Hm (And.intro hk0 (And.intro hk1 hmb))
    clear hk0 hk1 hmb
    go_wp2
    go_ret
    exact ⟨kk,rfl,HO.out⟩
end Go.Proofs.YtdbmolambolmgaaGreat
