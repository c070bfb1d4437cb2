import Derived.Test.YtipfjdogokanbaaGreatDoorGaa
import Derived.Test.YtipfjdogokanbaaGreatDoorGae
set_option linter.all false
set_option maxHeartbeats 400000000
set_option maxRecDepth 100000
set_option linter.all false
namespace Go.Proofs.YtipfjdogokanbaaGreatDoor
open Go.RowKit
theorem strNew (w:World)(L:List ByteArray)(t:TypeId):Below w.heap.size w (w.alloc (.cells (L.map Value.string).toArray t))/\∀ i s,L[i]?=some s->(w.alloc (.cells (L.map Value.string).toArray t)).cell? ⟨w.heap.size,i,none⟩=some (.string s) :=
 ⟨(Below.refl _ _).alloc (Nat.le_refl _) _,λi s h=>Qi rfl (by simp [h])⟩
def LNames:List ByteArray:=[⟨#[117,110,114,101,97,99,104,97,98,108,101]⟩,⟨#[110,111,112]⟩,⟨#[98,108,111,99,107]⟩,⟨#[108,111,111,112]⟩,⟨#[105,102]⟩,⟨#[101,108,115,101]⟩,⟨#[]⟩,⟨#[]⟩,⟨#[]⟩,⟨#[]⟩,⟨#[]⟩,⟨#[101,110,100]⟩,⟨#[98,114]⟩,⟨#[98,114,95,105,102]⟩,⟨#[98,114,95,116,97,98,108,101]⟩,⟨#[114,101,116,117,114,110]⟩,⟨#[99,97,108,108]⟩,⟨#[99,97,108,108,95,105,110,100,105,114,101,99,116]⟩,⟨#[]⟩,⟨#[]⟩,⟨#[]⟩,⟨#[]⟩,⟨#[]⟩,⟨#[]⟩,⟨#[]⟩,⟨#[]⟩,⟨#[100,114,111,112]⟩,⟨#[115,101,108,101,99,116]⟩,⟨#[]⟩,⟨#[]⟩,⟨#[]⟩,⟨#[]⟩,⟨#[108,111,99,97,108,46,103,101,116]⟩,⟨#[108,111,99,97,108,46,115,101,116]⟩,⟨#[108,111,99,97,108,46,116,101,101]⟩,⟨#[103,108,111,98,97,108,46,103,101,116]⟩,⟨#[103,108,111,98,97,108,46,115,101,116]⟩,⟨#[]⟩,⟨#[]⟩,⟨#[]⟩,⟨#[105,51,50,46,108,111,97,100]⟩,⟨#[105,54,52,46,108,111,97,100]⟩,⟨#[102,51,50,46,108,111,97,100]⟩,⟨#[102,54,52,46,108,111,97,100]⟩,⟨#[105,51,50,46,108,111,97,100,56,95,115]⟩,⟨#[105,51,50,46,108,111,97,100,56,95,117]⟩,⟨#[105,51,50,46,108,111,97,100,49,54,95,115]⟩,⟨#[105,51,50,46,108,111,97,100,49,54,95,117]⟩,⟨#[105,54,52,46,108,111,97,100,56,95,115]⟩,⟨#[105,54,52,46,108,111,97,100,56,95,117]⟩,⟨#[105,54,52,46,108,111,97,100,49,54,95,115]⟩,⟨#[105,54,52,46,108,111,97,100,49,54,95,117]⟩,⟨#[105,54,52,46,108,111,97,100,51,50,95,115]⟩,⟨#[105,54,52,46,108,111,97,100,51,50,95,117]⟩,⟨#[105,51,50,46,115,116,111,114,101]⟩,⟨#[105,54,52,46,115,116,111,114,101]⟩,⟨#[102,51,50,46,115,116,111,114,101]⟩,⟨#[102,54,52,46,115,116,111,114,101]⟩,⟨#[105,51,50,46,115,116,111,114,101,56]⟩,⟨#[105,51,50,46,115,116,111,114,101,49,54]⟩,⟨#[105,54,52,46,115,116,111,114,101,56]⟩,⟨#[105,54,52,46,115,116,111,114,101,49,54]⟩,⟨#[105,54,52,46,115,116,111,114,101,51,50]⟩,⟨#[109,101,109,111,114,121,46,115,105,122,101]⟩,⟨#[109,101,109,111,114,121,46,103,114,111,119]⟩,⟨#[105,51,50,46,99,111,110,115,116]⟩,⟨#[105,54,52,46,99,111,110,115,116]⟩,⟨#[102,51,50,46,99,111,110,115,116]⟩,⟨#[102,54,52,46,99,111,110,115,116]⟩]
theorem lNames_c (w:World):Calls Tryz.prog 165 #[] w λe w'=>∃ g,e=.returned (.slice (some ⟨g,0,none⟩) 69 69)/\Below w.heap.size w w'/\∀ i s,LNames[i]?=some s->w'.cell? ⟨g,i,none⟩=some (.string s):=by
 go_enter Tryz.func165,Tryz.ntmps165
 go_wp2
 go_ret
 exact ⟨_,rfl,strNew w LNames 9⟩
def X3:List ByteArray:=[⟨#[101,113]⟩,⟨#[110,101]⟩,⟨#[108,116,95,115]⟩,⟨#[108,116,95,117]⟩,⟨#[103,116,95,115]⟩,⟨#[103,116,95,117]⟩,⟨#[108,101,95,115]⟩,⟨#[108,101,95,117]⟩,⟨#[103,101,95,115]⟩,⟨#[103,101,95,117]⟩]
theorem lTests_c (w:World):Calls Tryz.prog 166 #[] w λe w'=>∃ g,e=.returned (.slice (some ⟨g,0,none⟩) 10 10)/\Below w.heap.size w w'/\∀ i s,X3[i]?=some s->w'.cell? ⟨g,i,none⟩=some (.string s):=by
 go_enter Tryz.func166,Tryz.ntmps166
 go_wp2
 go_ret
 exact ⟨_,rfl,strNew w X3 9⟩
def LInts:List ByteArray:=[⟨#[99,108,122]⟩,⟨#[99,116,122]⟩,⟨#[112,111,112,99,110,116]⟩,⟨#[97,100,100]⟩,⟨#[115,117,98]⟩,⟨#[109,117,108]⟩,⟨#[100,105,118,95,115]⟩,⟨#[100,105,118,95,117]⟩,⟨#[114,101,109,95,115]⟩,⟨#[114,101,109,95,117]⟩,⟨#[97,110,100]⟩,⟨#[111,114]⟩,⟨#[120,111,114]⟩,⟨#[115,104,108]⟩,⟨#[115,104,114,95,115]⟩,⟨#[115,104,114,95,117]⟩,⟨#[114,111,116,108]⟩,⟨#[114,111,116,114]⟩]
theorem lInts_c (w:World):Calls Tryz.prog 167 #[] w λe w'=>∃ g,e=.returned (.slice (some ⟨g,0,none⟩) 18 18)/\Below w.heap.size w w'/\∀ i s,LInts[i]?=some s->w'.cell? ⟨g,i,none⟩=some (.string s):=by
 go_enter Tryz.func167,Tryz.ntmps167
 go_wp2
 go_ret
 exact ⟨_,rfl,strNew w LInts 9⟩
def Xf:List ByteArray:=[⟨#[97,98,115]⟩,⟨#[110,101,103]⟩,⟨#[99,101,105,108]⟩,⟨#[102,108,111,111,114]⟩,⟨#[116,114,117,110,99]⟩,⟨#[110,101,97,114,101,115,116]⟩,⟨#[115,113,114,116]⟩,⟨#[97,100,100]⟩,⟨#[115,117,98]⟩,⟨#[109,117,108]⟩,⟨#[100,105,118]⟩,⟨#[109,105,110]⟩,⟨#[109,97,120]⟩,⟨#[99,111,112,121,115,105,103,110]⟩]
theorem lFloats_c (w:World):Calls Tryz.prog 168 #[] w λe w'=>∃ g,e=.returned (.slice (some ⟨g,0,none⟩) 14 14)/\Below w.heap.size w w'/\∀ i s,Xf[i]?=some s->w'.cell? ⟨g,i,none⟩=some (.string s):=by
 go_enter Tryz.func168,Tryz.ntmps168
 go_wp2
 go_ret
 exact ⟨_,rfl,strNew w Xf 9⟩
def LConv:List ByteArray:=[⟨#[105,51,50,46,119,114,97,112,95,105,54,52]⟩,⟨#[105,51,50,46,116,114,117,110,99,95,102,51,50,95,115]⟩,⟨#[105,51,50,46,116,114,117,110,99,95,102,51,50,95,117]⟩,⟨#[105,51,50,46,116,114,117,110,99,95,102,54,52,95,115]⟩,⟨#[105,51,50,46,116,114,117,110,99,95,102,54,52,95,117]⟩,⟨#[105,54,52,46,101,120,116,101,110,100,95,105,51,50,95,115]⟩,⟨#[105,54,52,46,101,120,116,101,110,100,95,105,51,50,95,117]⟩,⟨#[105,54,52,46,116,114,117,110,99,95,102,51,50,95,115]⟩,⟨#[105,54,52,46,116,114,117,110,99,95,102,51,50,95,117]⟩,⟨#[105,54,52,46,116,114,117,110,99,95,102,54,52,95,115]⟩,⟨#[105,54,52,46,116,114,117,110,99,95,102,54,52,95,117]⟩,⟨#[102,51,50,46,99,111,110,118,101,114,116,95,105,51,50,95,115]⟩,⟨#[102,51,50,46,99,111,110,118,101,114,116,95,105,51,50,95,117]⟩,⟨#[102,51,50,46,99,111,110,118,101,114,116,95,105,54,52,95,115]⟩,⟨#[102,51,50,46,99,111,110,118,101,114,116,95,105,54,52,95,117]⟩,⟨#[102,51,50,46,100,101,109,111,116,101,95,102,54,52]⟩,⟨#[102,54,52,46,99,111,110,118,101,114,116,95,105,51,50,95,115]⟩,⟨#[102,54,52,46,99,111,110,118,101,114,116,95,105,51,50,95,117]⟩,⟨#[102,54,52,46,99,111,110,118,101,114,116,95,105,54,52,95,115]⟩,⟨#[102,54,52,46,99,111,110,118,101,114,116,95,105,54,52,95,117]⟩,⟨#[102,54,52,46,112,114,111,109,111,116,101,95,102,51,50]⟩,⟨#[105,51,50,46,114,101,105,110,116,101,114,112,114,101,116,95,102,51,50]⟩,⟨#[105,54,52,46,114,101,105,110,116,101,114,112,114,101,116,95,102,54,52]⟩,⟨#[102,51,50,46,114,101,105,110,116,101,114,112,114,101,116,95,105,51,50]⟩,⟨#[102,54,52,46,114,101,105,110,116,101,114,112,114,101,116,95,105,54,52]⟩]
theorem lConv_c (w:World):Calls Tryz.prog 169 #[] w λe w'=>∃ g,e=.returned (.slice (some ⟨g,0,none⟩) 25 25)/\Below w.heap.size w w'/\∀ i s,LConv[i]?=some s->w'.cell? ⟨g,i,none⟩=some (.string s):=by
 go_enter Tryz.func169,Tryz.ntmps169
 go_wp2
 go_ret
 exact ⟨_,rfl,strNew w LConv 9⟩
def LT6:List ByteArray:=[⟨#[101,113]⟩,⟨#[110,101]⟩,⟨#[108,116]⟩,⟨#[103,116]⟩,⟨#[108,101]⟩,⟨#[103,101]⟩]
end Go.Proofs.YtipfjdogokanbaaGreatDoor
set_option linter.all false
namespace Go.Proofs.YtipfjdogokanbaaGreatDoor
open Go.RowKit
theorem sn_a (p:Int)(i:Nat)(s:ByteArray)(w:World)(h1:70<=p)(h2:p<=79)(hi:p-70=i)(hs:X3[i]?=some s)(hz:s.size<=100):Calls Tryz.prog 129 #[.int .i64 p] w λe w'=>e=.returned (.string (⟨#[105,51,50,46]⟩++s))/\Below w.heap.size w w':=by
 have f1:¬ p<0:=by omega
 have f3:¬ p<=68:=by omega
 have f4:(p==(69:Int))=false:=by simp;omega
 have hw:IntKind.i64.wrap (p-70)=i:=by rw [IntKind.wrap_i64];omega
 have hi2:(i:Int)<10:=by omega
 have hz1:¬ 9223372036854775807<4+s.size:=by omega
 go_enter Tryz.func129,Tryz.ntmps129
 go_wp2_with fail
 refine (lTests_c _).mono ?_
 rintro e w1 ⟨g,rfl,hb,hc⟩;have hb1:=up1 hb;have hc':=hc i s hs;clear hb hc
 go_wp2
 go_ret
 exact ⟨rfl,hb1⟩
theorem sn_b (p:Int)(i:Nat)(s:ByteArray)(w:World)(h1:81<=p)(h2:p<=90)(hi:p-81=i)(hs:X3[i]?=some s)(hz:s.size<=100):Calls Tryz.prog 129 #[.int .i64 p] w λe w'=>e=.returned (.string (⟨#[105,54,52,46]⟩++s))/\Below w.heap.size w w':=by
 have f1:¬ p<0:=by omega
 have f3:¬ p<=68:=by omega
 have f4:(p==(69:Int))=false:=by simp;omega
 have f5:¬ p<=79:=by omega
 have f6:(p==(80:Int))=false:=by simp;omega
 have hw:IntKind.i64.wrap (p-81)=i:=by rw [IntKind.wrap_i64];omega
 have hi2:(i:Int)<10:=by omega
 have hz1:¬ 9223372036854775807<4+s.size:=by omega
 go_enter Tryz.func129,Tryz.ntmps129
 go_wp2_with fail
 refine (lTests_c _).mono ?_
 rintro e w1 ⟨g,rfl,hb,hc⟩;have hb1:=up1 hb;have hc':=hc i s hs;clear hb hc
 go_wp2
 go_ret
 exact ⟨rfl,hb1⟩
theorem sn_c (p:Int)(i:Nat)(s:ByteArray)(w:World)(h1:91<=p)(h2:p<=96)(hi:p-91=i)(hs:LT6[i]?=some s)(hz:s.size<=100):Calls Tryz.prog 129 #[.int .i64 p] w λe w'=>e=.returned (.string (⟨#[102,51,50,46]⟩++s))/\Below w.heap.size w w':=by
 have f1:¬ p<0:=by omega
 have f3:¬ p<=68:=by omega
 have f4:(p==(69:Int))=false:=by simp;omega
 have f5:¬ p<=79:=by omega
 have f6:(p==(80:Int))=false:=by simp;omega
 have f7:¬ p<=90:=by omega
 have hw:IntKind.i64.wrap (p-91)=i:=by rw [IntKind.wrap_i64];omega
 have hi2:(i:Int)<6:=by omega
 have hz1:¬ 9223372036854775807<4+s.size:=by omega
 have hT:(w.alloc (.cells #[.string ⟨#[101,113]⟩,.string ⟨#[110,101]⟩,.string ⟨#[108,116]⟩,.string ⟨#[103,116]⟩,.string ⟨#[108,101]⟩,.string ⟨#[103,101]⟩] 9)).cell? ⟨w.heap.size,i,none⟩=some (.string s):=(strNew w LT6 9).2 i s hs
 go_enter Tryz.func129,Tryz.ntmps129
 go_wp2
 go_ret
 exact ⟨rfl,(Below.refl _ _).alloc (Nat.le_refl _) _⟩
theorem sn_d (p:Int)(i:Nat)(s:ByteArray)(w:World)(h1:97<=p)(h2:p<=102)(hi:p-97=i)(hs:LT6[i]?=some s)(hz:s.size<=100):Calls Tryz.prog 129 #[.int .i64 p] w λe w'=>e=.returned (.string (⟨#[102,54,52,46]⟩++s))/\Below w.heap.size w w':=by
 have f1:¬ p<0:=by omega
 have f3:¬ p<=68:=by omega
 have f4:(p==(69:Int))=false:=by simp;omega
 have f5:¬ p<=79:=by omega
 have f6:(p==(80:Int))=false:=by simp;omega
 have f7:¬ p<=90:=by omega
 have f8:¬ p<=96:=by omega
 have hw:IntKind.i64.wrap (p-97)=i:=by rw [IntKind.wrap_i64];omega
 have hi2:(i:Int)<6:=by omega
 have hz1:¬ 9223372036854775807<4+s.size:=by omega
 have hT:(w.alloc (.cells #[.string ⟨#[101,113]⟩,.string ⟨#[110,101]⟩,.string ⟨#[108,116]⟩,.string ⟨#[103,116]⟩,.string ⟨#[108,101]⟩,.string ⟨#[103,101]⟩] 9)).cell? ⟨w.heap.size,i,none⟩=some (.string s):=(strNew w LT6 9).2 i s hs
 go_enter Tryz.func129,Tryz.ntmps129
 go_wp2
 go_ret
 exact ⟨rfl,(Below.refl _ _).alloc (Nat.le_refl _) _⟩
theorem sn_z0 (p:Int)(w:World)(h2:p<=-1):Calls Tryz.prog 129 #[.int .i64 p] w λe w'=>e=.returned (.string ⟨#[]⟩)/\Below w.heap.size w w':=by
 have f1:p<0:=by omega
 go_enter Tryz.func129,Tryz.ntmps129
 go_wp2
 go_ret
 exact ⟨rfl,(Below.refl _ _).alloc (Nat.le_refl _) _⟩
theorem sn_z1 (p:Int)(w:World)(h1:192<=p):Calls Tryz.prog 129 #[.int .i64 p] w λe w'=>e=.returned (.string ⟨#[]⟩)/\Below w.heap.size w w':=by
 have f1:¬ p<0:=by omega
 have f2:¬ p<=191:=by omega
 go_enter Tryz.func129,Tryz.ntmps129
 go_wp2
 go_ret
 exact ⟨rfl,(Below.refl _ _).alloc (Nat.le_refl _) _⟩
theorem sn_x (p:Int)(w:World)(h1:69<=p)(h2:p<=69):Calls Tryz.prog 129 #[.int .i64 p] w λe w'=>e=.returned (.string ⟨#[105,51,50,46,101,113,122]⟩)/\Below w.heap.size w w':=by
 have f1:¬ p<0:=by omega
 have f3:¬ p<=68:=by omega
 have f4:(p==(69:Int))=true:=by simp;omega
 go_enter Tryz.func129,Tryz.ntmps129
 go_wp2
 go_ret
 exact ⟨rfl,(Below.refl _ _).alloc (Nat.le_refl _) _⟩
theorem sn_y (p:Int)(w:World)(h1:80<=p)(h2:p<=80):Calls Tryz.prog 129 #[.int .i64 p] w λe w'=>e=.returned (.string ⟨#[105,54,52,46,101,113,122]⟩)/\Below w.heap.size w w':=by
 have f1:¬ p<0:=by omega
 have f3:¬ p<=68:=by omega
 have f4:(p==(69:Int))=false:=by simp;omega
 have f5:¬ p<=79:=by omega
 have f6:(p==(80:Int))=true:=by simp;omega
 go_enter Tryz.func129,Tryz.ntmps129
 go_wp2
 go_ret
 exact ⟨rfl,(Below.refl _ _).alloc (Nat.le_refl _) _⟩
end Go.Proofs.YtipfjdogokanbaaGreatDoor
set_option linter.all false
namespace Go.Proofs.YtipfjdogokanbaaGreatDoor
open Go.RowKit
theorem sn_e (p:Int)(i:Nat)(s:ByteArray)(w:World)(h1:103<=p)(h2:p<=120)(hi:p-103=i)(hs:LInts[i]?=some s)(hz:s.size<=100):Calls Tryz.prog 129 #[.int .i64 p] w λe w'=>e=.returned (.string (⟨#[105,51,50,46]⟩++s))/\Below w.heap.size w w':=by
 have f1:¬ p<0:=by omega
 have f3:¬ p<=68:=by omega
 have f4:(p==(69:Int))=false:=by simp;omega
 have f5:¬ p<=79:=by omega
 have f6:(p==(80:Int))=false:=by simp;omega
 have f7:¬ p<=90:=by omega
 have f8:¬ p<=96:=by omega
 have f9:¬ p<=102:=by omega
 have hw:IntKind.i64.wrap (p-103)=i:=by rw [IntKind.wrap_i64];omega
 have hi2:(i:Int)<18:=by omega
 have hz1:¬ 9223372036854775807<4+s.size:=by omega
 go_enter Tryz.func129,Tryz.ntmps129
 go_wp2_with fail
 refine (lInts_c _).mono ?_
 rintro e w1 ⟨g,rfl,hb,hc⟩;have hb1:=up1 hb;have hc':=hc i s hs;clear hb hc
 go_wp2
 go_ret
 exact ⟨rfl,hb1⟩
theorem sn_f (p:Int)(i:Nat)(s:ByteArray)(w:World)(h1:121<=p)(h2:p<=138)(hi:p-121=i)(hs:LInts[i]?=some s)(hz:s.size<=100):Calls Tryz.prog 129 #[.int .i64 p] w λe w'=>e=.returned (.string (⟨#[105,54,52,46]⟩++s))/\Below w.heap.size w w':=by
 have f1:¬ p<0:=by omega
 have f3:¬ p<=68:=by omega
 have f4:(p==(69:Int))=false:=by simp;omega
 have f5:¬ p<=79:=by omega
 have f6:(p==(80:Int))=false:=by simp;omega
 have f7:¬ p<=90:=by omega
 have f8:¬ p<=96:=by omega
 have f9:¬ p<=102:=by omega
 have f10:¬ p<=120:=by omega
 have hw:IntKind.i64.wrap (p-121)=i:=by rw [IntKind.wrap_i64];omega
 have hi2:(i:Int)<18:=by omega
 have hz1:¬ 9223372036854775807<4+s.size:=by omega
 go_enter Tryz.func129,Tryz.ntmps129
 go_wp2_with fail
 refine (lInts_c _).mono ?_
 rintro e w1 ⟨g,rfl,hb,hc⟩;have hb1:=up1 hb;have hc':=hc i s hs;clear hb hc
 go_wp2
 go_ret
 exact ⟨rfl,hb1⟩
theorem sn_g (p:Int)(i:Nat)(s:ByteArray)(w:World)(h1:139<=p)(h2:p<=152)(hi:p-139=i)(hs:Xf[i]?=some s)(hz:s.size<=100):Calls Tryz.prog 129 #[.int .i64 p] w λe w'=>e=.returned (.string (⟨#[102,51,50,46]⟩++s))/\Below w.heap.size w w':=by
 have f1:¬ p<0:=by omega
 have f3:¬ p<=68:=by omega
 have f4:(p==(69:Int))=false:=by simp;omega
 have f5:¬ p<=79:=by omega
 have f6:(p==(80:Int))=false:=by simp;omega
 have f7:¬ p<=90:=by omega
 have f8:¬ p<=96:=by omega
 have f9:¬ p<=102:=by omega
 have f10:¬ p<=120:=by omega
 have f11:¬ p<=138:=by omega
 have hw:IntKind.i64.wrap (p-139)=i:=by rw [IntKind.wrap_i64];omega
 have hi2:(i:Int)<14:=by omega
 have hz1:¬ 9223372036854775807<4+s.size:=by omega
 go_enter Tryz.func129,Tryz.ntmps129
 go_wp2_with fail
 refine (lFloats_c _).mono ?_
 rintro e w1 ⟨g,rfl,hb,hc⟩;have hb1:=up1 hb;have hc':=hc i s hs;clear hb hc
 go_wp2
 go_ret
 exact ⟨rfl,hb1⟩
end Go.Proofs.YtipfjdogokanbaaGreatDoor
set_option linter.all false
namespace Go.Proofs.YtipfjdogokanbaaGreatDoor
open Go.RowKit
theorem sn_h (p:Int)(i:Nat)(s:ByteArray)(w:World)(h1:153<=p)(h2:p<=166)(hi:p-153=i)(hs:Xf[i]?=some s)(hz:s.size<=100):Calls Tryz.prog 129 #[.int .i64 p] w λe w'=>e=.returned (.string (⟨#[102,54,52,46]⟩++s))/\Below w.heap.size w w':=by
 have f1:¬ p<0:=by omega
 have f3:¬ p<=68:=by omega
 have f4:(p==(69:Int))=false:=by simp;omega
 have f5:¬ p<=79:=by omega
 have f6:(p==(80:Int))=false:=by simp;omega
 have f7:¬ p<=90:=by omega
 have f8:¬ p<=96:=by omega
 have f9:¬ p<=102:=by omega
 have f10:¬ p<=120:=by omega
 have f11:¬ p<=138:=by omega
 have f12:¬ p<=152:=by omega
 have hw:IntKind.i64.wrap (p-153)=i:=by rw [IntKind.wrap_i64];omega
 have hi2:(i:Int)<14:=by omega
 have hz1:¬ 9223372036854775807<4+s.size:=by omega
 go_enter Tryz.func129,Tryz.ntmps129
 go_wp2_with fail
 refine (lFloats_c _).mono ?_
 rintro e w1 ⟨g,rfl,hb,hc⟩;have hb1:=up1 hb;have hc':=hc i s hs;clear hb hc
 go_wp2
 go_ret
 exact ⟨rfl,hb1⟩
theorem sn_i (p:Int)(i:Nat)(s:ByteArray)(w:World)(h1:167<=p)(h2:p<=191)(hi:p-167=i)(hs:LConv[i]?=some s)(hz:s.size<=100):Calls Tryz.prog 129 #[.int .i64 p] w λe w'=>e=.returned (.string s)/\Below w.heap.size w w':=by
 have f1:¬ p<0:=by omega
 have f3:¬ p<=68:=by omega
 have f4:(p==(69:Int))=false:=by simp;omega
 have f5:¬ p<=79:=by omega
 have f6:(p==(80:Int))=false:=by simp;omega
 have f7:¬ p<=90:=by omega
 have f8:¬ p<=96:=by omega
 have f9:¬ p<=102:=by omega
 have f10:¬ p<=120:=by omega
 have f11:¬ p<=138:=by omega
 have f12:¬ p<=152:=by omega
 have f13:¬ p<=166:=by omega
 have hw:IntKind.i64.wrap (p-167)=i:=by rw [IntKind.wrap_i64];omega
 have hi2:(i:Int)<25:=by omega
 go_enter Tryz.func129,Tryz.ntmps129
 go_wp2_with fail
 refine (lConv_c _).mono ?_
 rintro e w1 ⟨g,rfl,hb,hc⟩;have hb1:=up1 hb;have hc':=hc i s hs;clear hb hc
 go_wp2
 go_ret
 exact ⟨rfl,hb1⟩
theorem sn_n (p:Int)(i:Nat)(s:ByteArray)(w:World)(h1:0<=p)(h2:p<=68)(hi:p-0=i)(hs:LNames[i]?=some s)(hz:s.size<=100):Calls Tryz.prog 129 #[.int .i64 p] w λe w'=>e=.returned (.string s)/\Below w.heap.size w w':=by
 have hi':p=i:=by omega
 clear hi;subst hi';have f1:¬ (i:Int)<0:=by omega
 have hi2:(i:Int)<69:=by omega
 go_enter Tryz.func129,Tryz.ntmps129
 go_wp2_with fail
 refine (lNames_c _).mono ?_
 rintro e w1 ⟨g,rfl,hb,hc⟩;have hb1:=up1 hb;have hc':=hc i s hs;clear hb hc
 go_wp2
 go_ret
 exact ⟨rfl,hb1⟩
end Go.Proofs.YtipfjdogokanbaaGreatDoor
set_option linter.all false
namespace Go.Proofs.YtipfjdogokanbaaGreatDoor
open Go.RowKit
theorem pick (L:List ByteArray)(i:Nat)(h:i<L.length):L[i]?=some (L.getD i ⟨#[]⟩):=by simp [List.getD,List.getElem?_eq_getElem h]
theorem JG (p:Int)(w:World):Calls Tryz.prog 129 #[.int .i64 p] w λe w'=>e=.returned (.string (Qb p).nm)/\Below w.heap.size w w':=by
 have hc:(p<=-1)\/(192<=p)\/(69<=p/\p<=69)\/(80<=p/\p<=80)\/(70<=p/\p<=79)\/(81<=p/\p<=90)\/(91<=p/\p<=96)\/(97<=p/\p<=102)\/(103<=p/\p<=120)\/(121<=p/\p<=138)\/(139<=p/\p<=152)\/(153<=p/\p<=166)\/(167<=p/\p<=191)\/(0<=p/\p<=68):=by omega
 rcases hc with h|h|h|h|h|h|h|h|h|h|h|h|h|h
 . have e:Qb p=Z0:=by simp only [Qb,show ¬ (0<=p/\p<192) by omega,if_false]
   rw [e];exact sn_z0 p w h
 . have e:Qb p=Z0:=by simp only [Qb,show ¬ (0<=p/\p<192) by omega,if_false]
   rw [e];exact sn_z1 p w h
 . obtain rfl:p=69:=by omega
   exact sn_x 69 w (by omega) (by omega)
 . obtain rfl:p=80:=by omega
   exact sn_y 80 w (by omega) (by omega)
 . have e:=of_decide_eq_true (rng 70 10 (λi=>decide ((tbl.getD i Z0).nm=(⟨#[105,51,50,46]⟩++X3.getD (i-70) ⟨#[]⟩:ByteArray)/\(X3.getD (i-70) ⟨#[]⟩).size<=100)) (by decide +kernel) p (by omega) (by omega))
   have e':(Qb p).nm=(tbl.getD p.toNat Z0).nm:=by
    simp only [Qb,show (0<=p/\p<192) by omega,and_self,if_true]
   rw [e',e.1]
   exact sn_a p (p.toNat-70) _ w h.1 h.2 (by omega) (pick X3 _ (by show _<10;omega)) e.2
 . have e:=of_decide_eq_true (rng 81 10 (λi=>decide ((tbl.getD i Z0).nm=(⟨#[105,54,52,46]⟩++X3.getD (i-81) ⟨#[]⟩:ByteArray)/\(X3.getD (i-81) ⟨#[]⟩).size<=100)) (by decide +kernel) p (by omega) (by omega))
   have e':(Qb p).nm=(tbl.getD p.toNat Z0).nm:=by
    simp only [Qb,show (0<=p/\p<192) by omega,and_self,if_true]
   rw [e',e.1]
   exact sn_b p (p.toNat-81) _ w h.1 h.2 (by omega) (pick X3 _ (by show _<10;omega)) e.2
 . have e:=of_decide_eq_true (rng 91 6 (λi=>decide ((tbl.getD i Z0).nm=(⟨#[102,51,50,46]⟩++LT6.getD (i-91) ⟨#[]⟩:ByteArray)/\(LT6.getD (i-91) ⟨#[]⟩).size<=100)) (by decide +kernel) p (by omega) (by omega))
   have e':(Qb p).nm=(tbl.getD p.toNat Z0).nm:=by
    simp only [Qb,show (0<=p/\p<192) by omega,and_self,if_true]
   rw [e',e.1]
   exact sn_c p (p.toNat-91) _ w h.1 h.2 (by omega) (pick LT6 _ (by show _<6;omega)) e.2
 . have e:=of_decide_eq_true (rng 97 6 (λi=>decide ((tbl.getD i Z0).nm=(⟨#[102,54,52,46]⟩++LT6.getD (i-97) ⟨#[]⟩:ByteArray)/\(LT6.getD (i-97) ⟨#[]⟩).size<=100)) (by decide +kernel) p (by omega) (by omega))
   have e':(Qb p).nm=(tbl.getD p.toNat Z0).nm:=by
    simp only [Qb,show (0<=p/\p<192) by omega,and_self,if_true]
   rw [e',e.1]
   exact sn_d p (p.toNat-97) _ w h.1 h.2 (by omega) (pick LT6 _ (by show _<6;omega)) e.2
 . have e:=of_decide_eq_true (rng 103 18 (λi=>decide ((tbl.getD i Z0).nm=(⟨#[105,51,50,46]⟩++LInts.getD (i-103) ⟨#[]⟩:ByteArray)/\(LInts.getD (i-103) ⟨#[]⟩).size<=100)) (by decide +kernel) p (by omega) (by omega))
   have e':(Qb p).nm=(tbl.getD p.toNat Z0).nm:=by
    simp only [Qb,show (0<=p/\p<192) by omega,and_self,if_true]
   rw [e',e.1]
   exact sn_e p (p.toNat-103) _ w h.1 h.2 (by omega) (pick LInts _ (by show _<18;omega)) e.2
 . have e:=of_decide_eq_true (rng 121 18 (λi=>decide ((tbl.getD i Z0).nm=(⟨#[105,54,52,46]⟩++LInts.getD (i-121) ⟨#[]⟩:ByteArray)/\(LInts.getD (i-121) ⟨#[]⟩).size<=100)) (by decide +kernel) p (by omega) (by omega))
   have e':(Qb p).nm=(tbl.getD p.toNat Z0).nm:=by
    simp only [Qb,show (0<=p/\p<192) by omega,and_self,if_true]
   rw [e',e.1]
   exact sn_f p (p.toNat-121) _ w h.1 h.2 (by omega) (pick LInts _ (by show _<18;omega)) e.2
 . have e:=of_decide_eq_true (rng 139 14 (λi=>decide ((tbl.getD i Z0).nm=(⟨#[102,51,50,46]⟩++Xf.getD (i-139) ⟨#[]⟩:ByteArray)/\(Xf.getD (i-139) ⟨#[]⟩).size<=100)) (by decide +kernel) p (by omega) (by omega))
   have e':(Qb p).nm=(tbl.getD p.toNat Z0).nm:=by
    simp only [Qb,show (0<=p/\p<192) by omega,and_self,if_true]
   rw [e',e.1]
   exact sn_g p (p.toNat-139) _ w h.1 h.2 (by omega) (pick Xf _ (by show _<14;omega)) e.2
 . have e:=of_decide_eq_true (rng 153 14 (λi=>decide ((tbl.getD i Z0).nm=(⟨#[102,54,52,46]⟩++Xf.getD (i-153) ⟨#[]⟩:ByteArray)/\(Xf.getD (i-153) ⟨#[]⟩).size<=100)) (by decide +kernel) p (by omega) (by omega))
   have e':(Qb p).nm=(tbl.getD p.toNat Z0).nm:=by
    simp only [Qb,show (0<=p/\p<192) by omega,and_self,if_true]
   rw [e',e.1]
   exact sn_h p (p.toNat-153) _ w h.1 h.2 (by omega) (pick Xf _ (by show _<14;omega)) e.2
 . have e:=of_decide_eq_true (rng 167 25 (λi=>decide ((tbl.getD i Z0).nm=(LConv.getD (i-167) ⟨#[]⟩:ByteArray)/\(LConv.getD (i-167) ⟨#[]⟩).size<=100)) (by decide +kernel) p (by omega) (by omega))
   have e':(Qb p).nm=(tbl.getD p.toNat Z0).nm:=by
    simp only [Qb,show (0<=p/\p<192) by omega,and_self,if_true]
   rw [e',e.1]
   exact sn_i p (p.toNat-167) _ w h.1 h.2 (by omega) (pick LConv _ (by show _<25;omega)) e.2
 . have e:=of_decide_eq_true (rng 0 69 (λi=>decide ((tbl.getD i Z0).nm=(LNames.getD (i-0) ⟨#[]⟩:ByteArray)/\(LNames.getD (i-0) ⟨#[]⟩).size<=100)) (by decide +kernel) p (by omega) (by omega))
   have e':(Qb p).nm=(tbl.getD p.toNat Z0).nm:=by
    simp only [Qb,show (0<=p/\p<192) by omega,and_self,if_true]
   rw [e',e.1]
   exact sn_n p (p.toNat-0) _ w h.1 h.2 (by omega) (pick LNames _ (by show _<69;omega)) e.2
end Go.Proofs.YtipfjdogokanbaaGreatDoor
