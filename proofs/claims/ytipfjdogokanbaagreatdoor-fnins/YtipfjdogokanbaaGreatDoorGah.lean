import Derived.Test.YtipfjdogokanbaaGreatDoorGaa
import Derived.Test.YtipfjdogokanbaaGreatDoorGaf
set_option linter.all false
set_option maxHeartbeats 400000000
set_option maxRecDepth 100000
set_option linter.all false
namespace Go.Proofs.YtipfjdogokanbaaGreatDoor.Yz
open Go.RowKit
theorem tz16_c (w:World)(hT:w.cell? ⟨5,15,none⟩=some (.int .u8 4)):Calls Tryz.prog 211 #[.int .u64 16] w λe w'=>e=.returned (.int .i64 4)/\w=w':=by
 have hk:IntKind.u64.wrap (bits .and .u64 16 (IntKind.u64.wrap (-16))*285870213051353865) / 288230376151711744=15:=by decide
 go_enter Tryz.func211,Tryz.ntmps211
 go_wp2
 go_ret
 exact ⟨rfl,rfl⟩
theorem pow2_c (w:World):Calls Tryz.prog 210 #[.int .i64 16] w λe w'=>e=.returned (.bool true)/\w=w':=by
 have hk:bits .and .i64 16 15=0:=by decide
 go_enter Tryz.func210,Tryz.ntmps210
 go_wp2
 go_ret
 exact ⟨rfl,rfl⟩
def hxA (u k:Nat):Array Value:=(List.replicate (65-k) (Value.int .u8 0)++(Jo k u).map (λb=>Value.int .u8 (b.toNat:Int))).toArray
theorem hxA_at (u k:Nat)(hk:k<65):(hxA u k)[64-k]?=some (Value.int .u8 0):=by
 simp only [hxA,List.getElem?_toArray]
 rw [List.getElem?_append_left (by simp;omega),List.getElem?_replicate,if_pos (by omega)]
theorem hxA_set (u k:Nat)(hk:k<65):(hxA u k).setIfInBounds (64-k) (Value.int .u8 ((hx (u / 16 ^ k%16)).toNat:Int))=hxA u (k+1):=by
 simp only [hxA,List.setIfInBounds_toArray]
 congr 1
 rw [Xz,show 65-k=(64-k)+1 by omega,List.replicate_succ',List.append_assoc,List.set_append_right _ _ (by simp)]
 simp [show 65-(k+1)=64-k by omega]
theorem hx36_at:∀ k (h:k<16),((⟨#[48,49,50,51,52,53,54,55,56,57,97,98,99,100,101,102,103,104,105,106,107,108,109,110,111,112,113,114,115,116,117,118,119,120,121,122]⟩:ByteArray)[k]'(by show k<36;omega))=hx k:=by decide
theorem k14 (u k:Nat)(hu:u<18446744073709551616)(h:16<=u / 16 ^ k):k<=14:=by
 rcases Nat.lt_or_ge k 15 with h1|h1
 . omega
 . have h2:16 ^ 15<=16 ^ k:=Nat.pow_le_pow_right (by omega) h1;have h3:u / 16 ^ k<=u / 16 ^ 15:=Nat.div_le_div_left h2 (by decide)
   have h4:u / 16 ^ 15<16:=by
    rw [show (16:Nat) ^ 15=1152921504606846976 by decide];omega
   omega
theorem hxA_cell (u k m j:Nat)(hkm:k+m=64)(hj:j<(Jo (k+1) u).length)(w:World):(w.alloc (.cells (hxA u (k+1)) 259)).cell? ⟨w.heap.size,m+j,none⟩=some (.int .u8 ((Jo (k+1) u)[j].toNat:Int)):=by
 have:(hxA u (k+1))[m+j]?=some (.int .u8 ((Jo (k+1) u)[j].toNat:Int)):=by
  simp only [hxA,List.getElem?_toArray]
  rw [List.getElem?_append_right (by simp;omega)]
  simp only [List.length_replicate,show m+j-(65-(k+1))=j by omega,List.getElem?_map,List.getElem?_eq_getElem hj,Option.map_some]
 simp [this]
theorem sl_c (b m k:Nat)(hkm:k+m=64)(W:World):(Instr.sliceAt 259 (.pointer (some ⟨b,0,none⟩)) (some (.int .i64 (m:Int))) none none).run Tryz.prog W=.ok (.slice (some ⟨b,m,none⟩) (k+1) (k+1)) W:=by
 have hal:Tryz.prog.arrayLen 259=65:=by kernel_rfl
 rw [run_sliceAt_array_l W 259 ⟨b,0,none⟩ (by simp [Program.arrayLen,Program.elem,Tryz.underlying259]) .i64 (m:Int) (by omega) (by rw [hal];omega)];have hz:¬ 65=m:=by omega
 have h1:65-m=k+1:=by omega
 have he:Tryz.prog.elem 259=5:=by kernel_rfl
 rw [hal,he]
 go_simp
theorem fmt16_c (u:Nat)(w:World)(hu:u<18446744073709551616)(hT:w.cell? ⟨5,15,none⟩=some (.int .u8 4)) :
    Calls Tryz.prog 201 #[.slice none 0 0,.int .u64 (u:Int),.int .i64 16,.bool false,.bool false] w λe w'=>e=.returned (.tuple #[.slice none 0 0,.string (S (Xo u))])/\Below w.heap.size w w':=by
 have hT1:∀ o,(w.alloc o).cell? ⟨5,15,none⟩=some (.int .u8 4):=λo=>(((Below.refl _ _).alloc (Nat.le_refl _) o).cell (p:=⟨5,15,none⟩) (World.block_lt_of_cell? w _ hT)).trans hT
 go_enter Tryz.func201,Tryz.ntmps201
 go_wp2_with (first|(go_at_call 210;refine (pow2_c _).mono ?_;rintro e w' ⟨rfl,rfl⟩)|(go_at_call 211;refine (tz16_c _ (hT1 _)).mono ?_;rintro e w' ⟨rfl,rfl⟩))
 clear hT hT1;have h0:Tryz.zeroCells259=hxA u 0:=by rfl
 rw [h0]
 go_loopw [1,13] (λq i wr=>∃ k m:Nat,k+m=64/\k<=15/\q=.int .u64 ((u / 16 ^ k:Nat):Int)/\i=.int .i64 ((m+1:Nat):Int)/\Xo u=Xo (u / 16 ^ k)++Jo k u/\wr=w.alloc (.cells (hxA u k) 259)) (λq _ _=>(intOf q).toNat)
 case atStart=>exact ⟨0,64,rfl,by omega,by simp,rfl,by simp [Jo],rfl⟩
 case round =>
  obtain ⟨k,m,hkm,hk,rfl,rfl,hD,rfl⟩:=hrel;obtain ⟨v,hv⟩:∃ v,v=u / 16 ^ k:=⟨_,rfl⟩;have hvl:v<18446744073709551616:=by rw [hv];exact Nat.lt_of_le_of_lt (Nat.div_le_self _ _) hu
  have hm:64-k=m:=by omega
  have hset:=hxA_set u k (by omega);have hat:=hxA_at u k (by omega);rw [hm] at hset hat;have HD:=Hm hD;have HV:=Hm hv;have HS:=Hm hset;rw [<- hv];have hc0:(w.alloc (.cells (hxA u k) 259)).cell? ⟨w.heap.size,m,none⟩=some (.int .u8 0):=by simp [hat]
  have hw1:IntKind.i64.wrap (((m+1:Nat):Int)-1)=(m:Int):=by rw [IntKind.wrap_i64];omega
  have hand:bits .and .u64 (v:Int) 15=((v%16:Nat):Int):=by
   have:=u64_and_nat v 15 hvl (by omega)
   rw [show ((15:Nat):Int)=15 from rfl] at this;rw [this];have h15:v &&& 15=v%16:=Nat.and_two_pow_sub_one_eq_mod v 4;rw [h15]
  clear hD hv hset hat
  by_cases hlt:16<=v
  . have hlt':(16:Int)<=(v:Int):=by omega
    have hb:v%16<16:=by omega
    have hb2:((v%16:Nat):Int)<36:=by omega
    have hx:=hx36_at (v%16) hb;have HX:=Hm hx;clear hx
    go_wp2
    go_roundw
    case rel =>
     refine ⟨k+1,m-1,by have:=k14 u k hu (by rw [<- HV.o];exact hlt);omega,by have:=k14 u k hu (by rw [<- HV.o];exact hlt);omega,?_,?_,?_,?_⟩
     . rw [Nat.pow_succ,<- Nat.div_div_eq_div_mul,<- HV.o];simp
     . rw [show m-1+1=m by have:=k14 u k hu (by rw [<- HV.o];exact hlt);omega]
     . rw [HD.o,<- HV.o,Nat.pow_succ,<- Nat.div_div_eq_div_mul,<- HV.o,Xz,<- HV.o]
       conv=>lhs;rw [Xo,dif_neg (by omega)]
       simp
     . rw [HX.o,HV.o,HS.o]
    case measure=>simp [intOf];omega
  . have hlt':¬ (16:Int)<=(v:Int):=by omega
    have hb:v<16:=by omega
    have hb2:(v:Int)<36:=by omega
    have HX:=Hm (hx36_at v hb)
    have hse:(hxA u k).setIfInBounds m (Value.int .u8 ((hx v).toNat:Int))=hxA u (k+1):=by
     rw [<- HS.o,<- HV.o,Nat.mod_eq_of_lt hb]
    have HSE:=Hm hse;have hsl:=λW=>sl_c w.heap.size m k hkm W;have hcv:=conv_c (Jo (k+1) u) w.heap.size m (k+1) (w.alloc (.cells (hxA u (k+1)) 259)) (λj hj=>hxA_cell u k m j hkm hj w);rw [Jw] at hcv;have HCV:=Hm hcv
    have hfin:Xo u=Jo (k+1) u:=by
     rw [HD.o,Xz,<- HV.o,Nat.mod_eq_of_lt hb,Xo,dif_pos hb];rfl
    have HF:=Hm hfin;clear hse hcv hfin hand
    go_wp2
    rw [HX.o,HSE.o,HCV.o]
    go_wp2
    go_ret2
    exact ⟨by rw [HF.o];rfl,(Below.refl _ _).alloc (Nat.le_refl _) _⟩
theorem ifu_c (u:Nat)(w:World)(hu:u<18446744073709551616)(hT:w.cell? ⟨5,15,none⟩=some (.int .u8 4)) :
    Calls Tryz.prog 185 #[.int .u64 (u:Int),.int .i64 16] w λe w'=>e=.returned (.string (S (Xo u)))/\Below w.heap.size w w':=by
 have H:=Hm (fmt16_c u w hu hT);clear hT
 go_enter Tryz.func185,Tryz.ntmps185
 go_wp2_with fail
 refine H.o.mono ?_
 rintro e w1 ⟨rfl,hb⟩
 go_wp2
 go_ret
 exact ⟨rfl,hb⟩
theorem fu_c (u:Nat)(w:World)(hu:u<18446744073709551616)(hT:w.cell? ⟨5,15,none⟩=some (.int .u8 4)) :
    Calls Tryz.prog 154 #[.int .u64 (u:Int),.int .i64 16] w λe w'=>e=.returned (.string (S (Xo u)))/\Below w.heap.size w w':=by
 have H:=Hm (ifu_c u w hu hT);clear hT
 go_enter Tryz.func154,Tryz.ntmps154
 go_wp2_with fail
 refine H.o.mono ?_
 rintro e w1 ⟨rfl,hb⟩
 go_wp2
 go_ret
 exact ⟨rfl,hb⟩
end Go.Proofs.YtipfjdogokanbaaGreatDoor.Yz
set_option linter.all false
namespace Go.Proofs.YtipfjdogokanbaaGreatDoor.Yz
open Go.RowKit Go.Sort
abbrev Wd:=List UInt8
structure Tw (w:World)(q:Nat)(ws:List Wd)(bad:Bool):Prop where
 c0:∃ a c,w.cell? ⟨q,0,none⟩=some (.slice a ws.length c)/\(ws=[]\/∃ b o,a=some ⟨b,o,none⟩/\b<q/\ws.length<=c/\∀ i,i<ws.length->w.cell? ⟨b,o+i,none⟩=some (.string (S (ws.getD i []))))
 c1:w.cell? ⟨q,1,none⟩=some (.bool bad)
 fz:∀ i,w.frozen? ⟨q,i,none⟩=false
 le:ws.length<=1099511627776
theorem Tw.lt {w:World}{q:Nat}{ws:List Wd}{bad:Bool}(h:Tw w q ws bad):q<w.heap.size:=World.block_lt_of_cell? w _ h.c1
theorem Tw.keep {w w1:World}{q:Nat}{ws:List Wd}{bad:Bool}(h:Tw w q ws bad)(hb:Below w.heap.size w w1):Tw w1 q ws bad:=by
 have hl:=h.lt;obtain ⟨a,c,h0,h1⟩:=h.c0
 refine ⟨⟨a,c,(hb.cell (p:=⟨q,0,none⟩) hl).trans h0,?_⟩,(hb.cell (p:=⟨q,1,none⟩) hl).trans h.c1,λi=>(hb.frozen (p:=⟨q,i,none⟩) hl).trans (h.fz i),h.le⟩
 rcases h1 with h1|⟨b,o,e,hne,hc,hw⟩
 . exact .inl h1
 . exact .inr ⟨b,o,e,hne,hc,λi hi=>(hb.cell (p:=⟨b,o+i,none⟩) (World.block_lt_of_cell? w _ (hw i hi))).trans (hw i hi)⟩
theorem Tw.flag {w:World}{q:Nat}{ws:List Wd}{bad:Bool}(h:Tw w q ws bad)(z:Bool):Tw (w.setCell ⟨q,1,none⟩ (.bool z)) q ws z:=by
 obtain ⟨a,c,h0,h1⟩:=h.c0
 refine ⟨⟨a,c,Qc h0 (by decide),?_⟩,Qh h.c1,λi=>by rw [World.frozen?_setCell];exact h.fz i,h.le⟩
 rcases h1 with h1|⟨b,o,e,hne,hc,hw⟩
 . exact .inl h1
 . refine .inr ⟨b,o,e,hne,hc,λi hi=>?_⟩
   rw [World.cell?_setCell_other _ _ _ _ (λe'=>by have e2:q=b:=congrArg Addr.block e';omega)];exact hw i hi
theorem Tw.drop {w:World}{q b o c:Nat}{x:Wd}{ws:List Wd}{bad:Bool}(h:Tw w q (x::ws) bad)(h0:w.cell? ⟨q,0,none⟩=some (.slice (some ⟨b,o,none⟩) (x::ws).length c))(hne:b<q)(hc:ws.length+1<=c)(hw:∀ i,i<(x::ws).length->w.cell? ⟨b,o+i,none⟩=some (.string (S ((x::ws).getD i []))))(a':Option Addr)(c':Nat)(ha:ws=[]\/(a'=some ⟨b,o+1,none⟩/\ws.length<=c')):Tw (w.setCell ⟨q,0,none⟩ (.slice a' ws.length c')) q ws bad:=by
 refine ⟨⟨a',c',Qh h0,?_⟩,Qc h.c1 (by decide),λi=>by rw [World.frozen?_setCell];exact h.fz i,by have:=h.le;simp at this;omega⟩
 rcases ha with ha|⟨rfl,hc'⟩
 . exact .inl ha
 . refine .inr ⟨b,o+1,rfl,hne,hc',λi hi=>?_⟩
   rw [World.cell?_setCell_other _ _ _ _ (λe'=>by have e2:q=b:=congrArg Addr.block e';omega)]
   have:=hw (i+1) (by simp;omega)
   rw [show o+1+i=o+(i+1) by omega,this]
   simp
theorem more_c (q:Nat)(ws:List Wd)(bad:Bool)(w:World)(h:Tw w q ws bad) :
    Calls Tryz.prog 81 #[.pointer (some ⟨q,0,none⟩)] w λe w'=>e=.returned (.bool (!ws.isEmpty))/\w=w':=by
 obtain ⟨a,c,h0,-⟩:=h.c0;clear h
 cases ws with
|nil =>
  simp only [List.length_nil] at h0
  go_enter Tryz.func81,Tryz.ntmps81
  go_wp2
  go_ret
  exact ⟨rfl,rfl⟩
|cons x ws =>
  simp only [List.length_cons] at h0
  have hp:(0:Int)<(ws.length:Int)+1:=by omega
  go_enter Tryz.func81,Tryz.ntmps81
  go_wp2
  go_ret
  exact ⟨rfl,rfl⟩
theorem Xc (w:World)(q o:Nat)(v:Value):w.grownBy (w.setCell ⟨q,o,none⟩ v) (some q) :=
 ⟨rfl,rfl,rfl,by simp [World.setCell],λk hk hne=>Below.heap_setCell w ⟨q,o,none⟩ v k (by simpa using hne)⟩
theorem QU {w w':World}{q:Nat}(h:w.grownBy w' (some q))(hq:q<w.heap.size):Below q w w':=⟨h.os,h.tape,h.output,h.size,λk hk=>h.block k (by omega) (by simp;omega)⟩
theorem QD {w w1:World}{r:Option Nat}(h:Below w.heap.size w w1):w.grownBy w1 r:=⟨h.os,h.tape,h.output,h.size,λk hk _=>h.block k hk⟩
theorem ask_c (q:Nat)(ws:List Wd)(bad z:Bool)(w:World)(h:Tw w q ws bad) :
    Calls Tryz.prog 125 #[.pointer (some ⟨q,0,none⟩),.bool z] w λe w'=>e=.returned (.tuple #[])/\Tw w' q ws (bad || !z)/\w.grownBy w' (some q):=by
 cases z with
|true =>
  have H:=Hm h;clear h
  go_enter Tryz.func125,Tryz.ntmps125
  go_wp2
  go_end0
  exact ⟨rfl,by simpa using H.o,World.grownBy.refl _ _⟩
|false =>
  have c1:=h.c1;have f1:=h.fz 1;have H:=Hm (h.flag true);clear h
  go_enter Tryz.func125,Tryz.ntmps125
  go_wp2
  go_end0
  exact ⟨rfl,by simpa using H.o,Xc _ _ _ _⟩
theorem next_g (q:Nat)(ws:List Wd)(bad:Bool)(w:World)(h:Tw w q ws bad) :
    Calls Tryz.prog 29 #[.pointer (some ⟨q,0,none⟩)] w λe w'=>e=.returned (.string (S (ws.headD [])))/\Tw w' q ws.tail (bad || ws.isEmpty)/\w.grownBy w' (some q):=by
 have KM:=Hm (more_c q ws bad w h)
 cases ws with
|nil =>
  have c1:=h.c1;have f1:=h.fz 1;have H:=Hm (h.flag true);clear h
  go_enter Tryz.func29,Tryz.ntmps29
  go_wp2_with fail
  refine KM.o.mono ?_
  rintro e w1 ⟨rfl,rfl⟩
  go_wp2
  go_ret
  exact ⟨rfl,by simpa using H.o,Xc _ _ _ _⟩
|cons x ws =>
  obtain ⟨a,c,h0,h1⟩:=h.c0
  rcases h1 with h1|⟨b,o,rfl,hne,hc,hw⟩
  . cases h1
  have cx:=hw 0 (by simp)
  simp only [Nat.add_zero,List.getD_cons_zero] at cx
  have f0:=h.fz 0;have HD:=Hm (λa' c' ha=>h.drop h0 hne (by simpa using hc) hw a' c' ha);have hc2:ws.length+1<=c:=by simpa using hc
  simp only [List.length_cons] at h0
  have hp:(0:Int)<(ws.length:Int)+1:=by omega
  clear h hw hc hne
  go_enter Tryz.func29,Tryz.ntmps29
  go_wp2_with fail
  refine KM.o.mono ?_
  rintro e w1 ⟨rfl,rfl⟩
  go_wp2
  all_goals
   go_ret
   refine ⟨rfl,?_,Xc _ _ _ _⟩
   first
   |exact HD.o _ _ (.inr ⟨rfl,by omega⟩)
   |exact HD.o _ _ (.inl (List.eq_nil_of_length_eq_zero (by omega)))
end Go.Proofs.YtipfjdogokanbaaGreatDoor.Yz
