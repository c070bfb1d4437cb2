import Derived.Test.YtipfjdogokanbaaGreatDoorGaa
import Derived.Test.YtipfjdogokanbaaGreatDoorGax
import Derived.Lib.AppendStr
import Derived.Laws.AppendOwnNone
set_option linter.all false
set_option maxHeartbeats 400000000
set_option maxRecDepth 100000
set_option linter.all false
namespace Go.Proofs.YtipfjdogokanbaaGreatDoor.Pr
open Go.RowKit Go.Sort
theorem XR (w:World)(op a b v:Int)(u:Value):C5 (w.alloc (.cells #[.int .i64 op,.int .i64 a,.int .i64 b,.int .u64 v,u] 26)) w.heap.size 0 (.int .i64 op) (.int .i64 a) (.int .i64 b) (.int .u64 v) u:=C5.new
theorem XU (w:World)(op a b v:Int)(u:Value):Below w.heap.size w (w.alloc (.cells #[.int .i64 op,.int .i64 a,.int .i64 b,.int .u64 v,u] 26)):=(Below.refl _ _).alloc (Nat.le_refl _) _
def Wd (w:World)(B:Nat)(v:Value)(r:List (List UInt8)):Prop:=w.ownsRow B 9 1 v r.length (Sv r)
theorem wd_one {w w1:World}(hb:Below w.heap.size w w1)(L:List UInt8):Wd (w1.alloc (.cells #[.string (S L)] 9)) w.heap.size (.slice (some ⟨w1.heap.size,0,none⟩) 1 1) [L] :=
 World.ownsRow_lit w1 #[.string (S L)] 1 hb.size (by unfold maxLen;omega) rfl
theorem wd_two {w w1:World}(hb:Below w.heap.size w w1)(L M:List UInt8):Wd (w1.alloc (.cells #[.string (S L),.string (S M)] 9)) w.heap.size (.slice (some ⟨w1.heap.size,0,none⟩) 2 2) [L,M] :=
 World.ownsRow_lit w1 #[.string (S L),.string (S M)] 2 hb.size (by unfold maxLen;omega) rfl
theorem f8_0 (op a b v:Int)(l:List Int)(la:Option Addr)(lc:Nat)(w:World)(hf:Qd (Qb op)=0)(hV:Vs w) :
    Calls Tryz.prog 60 #[inV ⟨op,a,b,v,l⟩ la lc] w λe w'=>∃ u,e=.returned u/\Wd w' w.heap.size u (fld 0 ⟨op,a,b,v,l⟩)/\Below w.heap.size w w':=by
 have HF:=Hm (λw=>Qu op w);rw [hf] at HF;have HL:Hid (fld 0 ⟨op,a,b,v,l⟩=[]):=by show _=_;simp [fld]
 have hC:=XR w op a b v (.slice la l.length lc);have HC:=Hm hC;have HB:=Hm (XU w op a b v (.slice la l.length lc));obtain ⟨⟨c0,c1,c2,c3,c4⟩,cf⟩:=id hC;clear hf hC cf hV
 go_enter Tryz.func60,Tryz.ntmps60
 go_wp2_with fail
 refine (HF.o _).mono ?_
 rintro e w1 ⟨rfl,hb1⟩;have C1:=Hm (HC.o.keep hb1);have B1:=Hm (HB.o.trans (hb1.mono (by simp)));obtain ⟨⟨d0,d1,d2,d3,d4⟩,df⟩:=C1.o;clear hb1 HC HB c0 c1 c2 c3 c4 df HF
 go_wp2
 go_ret
 exact ⟨_,rfl,by rw [HL.o];exact World.ownsRow_nil _ _ _ _,B1.o⟩
theorem f8_6 (op a b v:Int)(l:List Int)(la:Option Addr)(lc:Nat)(w:World)(hf:Qd (Qb op)=6)(hV:Vs w) :
    Calls Tryz.prog 60 #[inV ⟨op,a,b,v,l⟩ la lc] w λe w'=>∃ u,e=.returned u/\Wd w' w.heap.size u (fld 6 ⟨op,a,b,v,l⟩)/\Below w.heap.size w w':=by
 have HF:=Hm (λw=>Qu op w);rw [hf] at HF;have HL:Hid (fld 6 ⟨op,a,b,v,l⟩=[]):=by show _=_;simp [fld]
 have hC:=XR w op a b v (.slice la l.length lc);have HC:=Hm hC;have HB:=Hm (XU w op a b v (.slice la l.length lc));obtain ⟨⟨c0,c1,c2,c3,c4⟩,cf⟩:=id hC;clear hf hC cf hV
 go_enter Tryz.func60,Tryz.ntmps60
 go_wp2_with fail
 refine (HF.o _).mono ?_
 rintro e w1 ⟨rfl,hb1⟩;have C1:=Hm (HC.o.keep hb1);have B1:=Hm (HB.o.trans (hb1.mono (by simp)));obtain ⟨⟨d0,d1,d2,d3,d4⟩,df⟩:=C1.o;clear hb1 HC HB c0 c1 c2 c3 c4 df HF
 go_wp2
 go_ret
 exact ⟨_,rfl,by rw [HL.o];exact World.ownsRow_nil _ _ _ _,B1.o⟩
theorem f8_1 (op b v:Int)(l:List Int)(la:Option Addr)(lc:Nat)(w:World)(hf:Qd (Qb op)=1)(hV:Vs w) :
    Calls Tryz.prog 60 #[inV ⟨op,64,b,v,l⟩ la lc] w λe w'=>∃ u,e=.returned u/\Wd w' w.heap.size u (fld 1 ⟨op,64,b,v,l⟩)/\Below w.heap.size w w':=by
 have HF:=Hm (λw=>Qu op w);rw [hf] at HF;have HL:Hid (fld 1 ⟨op,64,b,v,l⟩=[]):=by show _=_;simp [fld]
 have hC:C5 (w.alloc (.cells #[.int .i64 op,.int .i64 64,.int .i64 b,.int .u64 v,.slice la l.length lc] 26)) w.heap.size 0 (.int .i64 op) (.int .i64 64) (.int .i64 b) (.int .u64 v) (.slice la l.length lc):=C5.new;have HC:=Hm hC;have HB:=Hm (show Below w.heap.size w (w.alloc (.cells #[.int .i64 op,.int .i64 64,.int .i64 b,.int .u64 v,.slice la l.length lc] 26)) from (Below.refl _ _).alloc (Nat.le_refl _) _);obtain ⟨⟨c0,c1,c2,c3,c4⟩,cf⟩:=id hC;clear hf hC cf hV
 go_enter Tryz.func60,Tryz.ntmps60
 go_wp2_with fail
 refine (HF.o _).mono ?_
 rintro e w1 ⟨rfl,hb1⟩;have C1:=Hm (HC.o.keep hb1);have B1:=Hm (HB.o.trans (hb1.mono (by simp)));obtain ⟨⟨d0,d1,d2,d3,d4⟩,df⟩:=C1.o;clear hb1 HC HB c0 c1 c2 c3 c4 df HF
 go_wp2
 go_ret
 exact ⟨_,rfl,by rw [HL.o];exact World.ownsRow_nil _ _ _ _,B1.o⟩
theorem f8_1n (op a b v:Int)(l:List Int)(la:Option Addr)(lc:Nat)(w:World)(hf:Qd (Qb op)=1)(hV:Vs w)(ha:¬ a=64)(hb:a=127\/a=126\/a=125\/a=124) :
    Calls Tryz.prog 60 #[inV ⟨op,a,b,v,l⟩ la lc] w λe w'=>∃ u,e=.returned u/\Wd w' w.heap.size u (fld 1 ⟨op,a,b,v,l⟩)/\Below w.heap.size w w':=by
 have HF:=Hm (λw=>Qu op w);rw [hf] at HF;have HL:Hid (fld 1 ⟨op,a,b,v,l⟩=[typT a]):=by show _=_;simp [fld,ha]
 have KT:=Hm (λw (_:True)=>typ_c a w hb);generalize typT a=L at *;have hne:(a != (64:Int))=true:=by simp [ha]
 clear hb ha;have hC:=XR w op a b v (.slice la l.length lc);have HC:=Hm hC;have HB:=Hm (XU w op a b v (.slice la l.length lc));obtain ⟨⟨c0,c1,c2,c3,c4⟩,cf⟩:=id hC;clear hf hC cf hV
 go_enter Tryz.func60,Tryz.ntmps60
 go_wp2_with fail
 refine (HF.o _).mono ?_
 rintro e w1 ⟨rfl,hb1⟩;have C1:=Hm (HC.o.keep hb1);have B1:=Hm (HB.o.trans (hb1.mono (by simp)));obtain ⟨⟨d0,d1,d2,d3,d4⟩,df⟩:=C1.o;clear hb1 HC HB c0 c1 c2 c3 c4 df HF
 go_wp2_with (go_at_call 112;refine (KT.o _ trivial).mono ?_;rintro e w3 ⟨rfl,hb3⟩;have B2:=Hm (B1.o.trans (hb3.mono B1.o.size));clear hb3)
 go_ret
 exact ⟨_,rfl,by rw [HL.o];exact wd_one B2.o _,B2.o.alloc B2.o.size _⟩
theorem f8_2 (op a b v:Int)(l:List Int)(la:Option Addr)(lc:Nat)(w:World)(hf:Qd (Qb op)=2)(hV:Vs w)(h0:0<=a)(h1:a<=4294967295) :
    Calls Tryz.prog 60 #[inV ⟨op,a,b,v,l⟩ la lc] w λe w'=>∃ u,e=.returned u/\Wd w' w.heap.size u (fld 2 ⟨op,a,b,v,l⟩)/\Below w.heap.size w w':=by
 have HF:=Hm (λw=>Qu op w);rw [hf] at HF;have HL:Hid (fld 2 ⟨op,a,b,v,l⟩=[Lib.itoa a]):=by show _=_;simp [fld]
 have KT:=Hm (λw h=>num_c a w (by omega) (by omega) h);generalize Lib.itoa a=L at *;have hC:=XR w op a b v (.slice la l.length lc);have HC:=Hm hC;have HB:=Hm (XU w op a b v (.slice la l.length lc));have HV:=Hm hV;obtain ⟨⟨c0,c1,c2,c3,c4⟩,cf⟩:=id hC;clear hf hC cf hV
 go_enter Tryz.func60,Tryz.ntmps60
 go_wp2_with fail
 refine (HF.o _).mono ?_
 rintro e w1 ⟨rfl,hb1⟩;have C1:=Hm (HC.o.keep hb1);have B1:=Hm (HB.o.trans (hb1.mono (by simp)));obtain ⟨⟨d0,d1,d2,d3,d4⟩,df⟩:=C1.o;clear hb1 HC HB c0 c1 c2 c3 c4 df HF
 go_wp2_with (go_at_call 113;refine (KT.o _ (HV.o.keep B1.o)).mono ?_;rintro e w3 ⟨rfl,hb3⟩;have B2:=Hm (B1.o.trans (hb3.mono B1.o.size));clear hb3)
 go_ret
 exact ⟨_,rfl,by rw [HL.o];exact wd_one B2.o _,B2.o.alloc B2.o.size _⟩
theorem f8_4 (op a b v:Int)(l:List Int)(la:Option Addr)(lc:Nat)(w:World)(hf:Qd (Qb op)=4)(hV:Vs w)(h0:0<=a)(h1:a<=4294967295) :
    Calls Tryz.prog 60 #[inV ⟨op,a,b,v,l⟩ la lc] w λe w'=>∃ u,e=.returned u/\Wd w' w.heap.size u (fld 4 ⟨op,a,b,v,l⟩)/\Below w.heap.size w w':=by
 have HF:=Hm (λw=>Qu op w);rw [hf] at HF;have HL:Hid (fld 4 ⟨op,a,b,v,l⟩=[Lib.itoa a]):=by show _=_;simp [fld]
 have KT:=Hm (λw h=>num_c a w (by omega) (by omega) h);generalize Lib.itoa a=L at *;have hC:=XR w op a b v (.slice la l.length lc);have HC:=Hm hC;have HB:=Hm (XU w op a b v (.slice la l.length lc));have HV:=Hm hV;obtain ⟨⟨c0,c1,c2,c3,c4⟩,cf⟩:=id hC;clear hf hC cf hV
 go_enter Tryz.func60,Tryz.ntmps60
 go_wp2_with fail
 refine (HF.o _).mono ?_
 rintro e w1 ⟨rfl,hb1⟩;have C1:=Hm (HC.o.keep hb1);have B1:=Hm (HB.o.trans (hb1.mono (by simp)));obtain ⟨⟨d0,d1,d2,d3,d4⟩,df⟩:=C1.o;clear hb1 HC HB c0 c1 c2 c3 c4 df HF
 go_wp2_with (go_at_call 113;refine (KT.o _ (HV.o.keep B1.o)).mono ?_;rintro e w3 ⟨rfl,hb3⟩;have B2:=Hm (B1.o.trans (hb3.mono B1.o.size));clear hb3)
 go_ret
 exact ⟨_,rfl,by rw [HL.o];exact wd_one B2.o _,B2.o.alloc B2.o.size _⟩
theorem f8_7 (op a b v:Int)(l:List Int)(la:Option Addr)(lc:Nat)(w:World)(hf:Qd (Qb op)=7)(hV:Vs w)(h0:0<=v)(h1:v<=4294967295) :
    Calls Tryz.prog 60 #[inV ⟨op,a,b,v,l⟩ la lc] w λe w'=>∃ u,e=.returned u/\Wd w' w.heap.size u (fld 7 ⟨op,a,b,v,l⟩)/\Below w.heap.size w w':=by
 have HF:=Hm (λw=>Qu op w);rw [hf] at HF;have HL:Hid (fld 7 ⟨op,a,b,v,l⟩=[Lib.itoa (wrap32 v)]):=by show _=_;simp [fld]
 have hr:-9223372036854775808<=wrap32 v/\wrap32 v<=9223372036854775807:=by unfold wrap32;omega
 have hw:IntKind.i32.wrap v=wrap32 v:=by rw [IntKind.wrap_i32,wrap32]
 have hw2:IntKind.i64.wrap (wrap32 v)=wrap32 v:=by rw [IntKind.wrap_i64];omega
 generalize wrap32 v=y at *;have KT:=Hm (λw h=>num_c y w hr.1 hr.2 h);generalize Lib.itoa y=L at *;clear hr;have hC:=XR w op a b v (.slice la l.length lc);have HC:=Hm hC;have HB:=Hm (XU w op a b v (.slice la l.length lc));have HV:=Hm hV;obtain ⟨⟨c0,c1,c2,c3,c4⟩,cf⟩:=id hC;clear hf hC cf hV
 go_enter Tryz.func60,Tryz.ntmps60
 go_wp2_with fail
 refine (HF.o _).mono ?_
 rintro e w1 ⟨rfl,hb1⟩;have C1:=Hm (HC.o.keep hb1);have B1:=Hm (HB.o.trans (hb1.mono (by simp)));obtain ⟨⟨d0,d1,d2,d3,d4⟩,df⟩:=C1.o;clear hb1 HC HB c0 c1 c2 c3 c4 df HF
 go_wp2_with (go_at_call 113;refine (KT.o _ (HV.o.keep B1.o)).mono ?_;rintro e w3 ⟨rfl,hb3⟩;have B2:=Hm (B1.o.trans (hb3.mono B1.o.size));clear hb3)
 go_ret
 exact ⟨_,rfl,by rw [HL.o];exact wd_one B2.o _,B2.o.alloc B2.o.size _⟩
theorem f8_8 (op a b v:Int)(l:List Int)(la:Option Addr)(lc:Nat)(w:World)(hf:Qd (Qb op)=8)(hV:Vs w)(h0:0<=v)(h1:v<=18446744073709551615) :
    Calls Tryz.prog 60 #[inV ⟨op,a,b,v,l⟩ la lc] w λe w'=>∃ u,e=.returned u/\Wd w' w.heap.size u (fld 8 ⟨op,a,b,v,l⟩)/\Below w.heap.size w w':=by
 have HF:=Hm (λw=>Qu op w);rw [hf] at HF;have HL:Hid (fld 8 ⟨op,a,b,v,l⟩=[Lib.itoa (wrap64 v)]):=by show _=_;simp [fld]
 have hr:-9223372036854775808<=wrap64 v/\wrap64 v<=9223372036854775807:=by unfold wrap64;omega
 have hw:IntKind.i64.wrap v=wrap64 v:=by rw [IntKind.wrap_i64,wrap64]
 generalize wrap64 v=y at *;have KT:=Hm (λw h=>num_c y w hr.1 hr.2 h);generalize Lib.itoa y=L at *;clear hr;have hC:=XR w op a b v (.slice la l.length lc);have HC:=Hm hC;have HB:=Hm (XU w op a b v (.slice la l.length lc));have HV:=Hm hV;obtain ⟨⟨c0,c1,c2,c3,c4⟩,cf⟩:=id hC;clear hf hC cf hV
 go_enter Tryz.func60,Tryz.ntmps60
 go_wp2_with fail
 refine (HF.o _).mono ?_
 rintro e w1 ⟨rfl,hb1⟩;have C1:=Hm (HC.o.keep hb1);have B1:=Hm (HB.o.trans (hb1.mono (by simp)));obtain ⟨⟨d0,d1,d2,d3,d4⟩,df⟩:=C1.o;clear hb1 HC HB c0 c1 c2 c3 c4 df HF
 go_wp2_with (go_at_call 113;refine (KT.o _ (HV.o.keep B1.o)).mono ?_;rintro e w3 ⟨rfl,hb3⟩;have B2:=Hm (B1.o.trans (hb3.mono B1.o.size));clear hb3)
 go_ret
 exact ⟨_,rfl,by rw [HL.o];exact wd_one B2.o _,B2.o.alloc B2.o.size _⟩
theorem f8_9 (op a b v:Int)(l:List Int)(la:Option Addr)(lc:Nat)(w:World)(hf:Qd (Qb op)=9)(hV:Vs w)(h0:0<=v)(h1:v<=4294967295) :
    Calls Tryz.prog 60 #[inV ⟨op,a,b,v,l⟩ la lc] w λe w'=>∃ u,e=.returned u/\Wd w' w.heap.size u (fld 9 ⟨op,a,b,v,l⟩)/\Below w.heap.size w w':=by
 have HF:=Hm (λw=>Qu op w);rw [hf] at HF;have HL:Hid (fld 9 ⟨op,a,b,v,l⟩=[QF 8 v.toNat]):=by show _=_;simp [fld]
 have e16:(16:Nat) ^ 8=4294967296:=by decide
 have KT:=Hm (λw h=>bits_c v.toNat 8 w (by omega) (by omega) (by rw [e16];omega) h);rw [Int.toNat_of_nonneg h0] at KT;generalize QF 8 v.toNat=L at *;clear e16;have hC:=XR w op a b v (.slice la l.length lc);have HC:=Hm hC;have HB:=Hm (XU w op a b v (.slice la l.length lc));have HV:=Hm hV;obtain ⟨⟨c0,c1,c2,c3,c4⟩,cf⟩:=id hC;clear hf hC cf hV
 go_enter Tryz.func60,Tryz.ntmps60
 go_wp2_with fail
 refine (HF.o _).mono ?_
 rintro e w1 ⟨rfl,hb1⟩;have C1:=Hm (HC.o.keep hb1);have B1:=Hm (HB.o.trans (hb1.mono (by simp)));obtain ⟨⟨d0,d1,d2,d3,d4⟩,df⟩:=C1.o;clear hb1 HC HB c0 c1 c2 c3 c4 df HF
 go_wp2_with (go_at_call 115;refine (KT.o _ (HV.o.keep B1.o)).mono ?_;rintro e w3 ⟨rfl,hb3⟩;have B2:=Hm (B1.o.trans (hb3.mono B1.o.size));clear hb3)
 go_ret
 exact ⟨_,rfl,by rw [HL.o];exact wd_one B2.o _,B2.o.alloc B2.o.size _⟩
theorem f8_10 (op a b v:Int)(l:List Int)(la:Option Addr)(lc:Nat)(w:World)(hf:Qd (Qb op)=10)(hV:Vs w)(h0:0<=v)(h1:v<=18446744073709551615) :
    Calls Tryz.prog 60 #[inV ⟨op,a,b,v,l⟩ la lc] w λe w'=>∃ u,e=.returned u/\Wd w' w.heap.size u (fld 10 ⟨op,a,b,v,l⟩)/\Below w.heap.size w w':=by
 have HF:=Hm (λw=>Qu op w);rw [hf] at HF;have HL:Hid (fld 10 ⟨op,a,b,v,l⟩=[QF 16 v.toNat]):=by show _=_;simp [fld]
 have e16:(16:Nat) ^ 16=18446744073709551616:=by decide
 have KT:=Hm (λw h=>bits_c v.toNat 16 w (by omega) (by omega) (by rw [e16];omega) h);rw [Int.toNat_of_nonneg h0] at KT;generalize QF 16 v.toNat=L at *;clear e16;have hC:=XR w op a b v (.slice la l.length lc);have HC:=Hm hC;have HB:=Hm (XU w op a b v (.slice la l.length lc));have HV:=Hm hV;obtain ⟨⟨c0,c1,c2,c3,c4⟩,cf⟩:=id hC;clear hf hC cf hV
 go_enter Tryz.func60,Tryz.ntmps60
 go_wp2_with fail
 refine (HF.o _).mono ?_
 rintro e w1 ⟨rfl,hb1⟩;have C1:=Hm (HC.o.keep hb1);have B1:=Hm (HB.o.trans (hb1.mono (by simp)));obtain ⟨⟨d0,d1,d2,d3,d4⟩,df⟩:=C1.o;clear hb1 HC HB c0 c1 c2 c3 c4 df HF
 go_wp2_with (go_at_call 115;refine (KT.o _ (HV.o.keep B1.o)).mono ?_;rintro e w3 ⟨rfl,hb3⟩;have B2:=Hm (B1.o.trans (hb3.mono B1.o.size));clear hb3)
 go_ret
 exact ⟨_,rfl,by rw [HL.o];exact wd_one B2.o _,B2.o.alloc B2.o.size _⟩
theorem f8_5 (op a b v:Int)(l:List Int)(la:Option Addr)(lc:Nat)(w:World)(hf:Qd (Qb op)=5)(hV:Vs w)(h0:0<=a)(h1:a<=4294967295)(h2:0<=b)(h3:b<=4294967295) :
    Calls Tryz.prog 60 #[inV ⟨op,a,b,v,l⟩ la lc] w λe w'=>∃ u,e=.returned u/\Wd w' w.heap.size u (fld 5 ⟨op,a,b,v,l⟩)/\Below w.heap.size w w':=by
 have HF:=Hm (λw=>Qu op w);rw [hf] at HF;have HL:Hid (fld 5 ⟨op,a,b,v,l⟩=[Lib.itoa a,Lib.itoa b]):=by show _=_;simp [fld]
 have KA:=Hm (λw h=>num_c a w (by omega) (by omega) h);have KB:=Hm (λw h=>num_c b w (by omega) (by omega) h);generalize Lib.itoa a=L at *;generalize Lib.itoa b=M at *;have hC:=XR w op a b v (.slice la l.length lc);have HC:=Hm hC;have HB:=Hm (XU w op a b v (.slice la l.length lc));have HV:=Hm hV;obtain ⟨⟨c0,c1,c2,c3,c4⟩,cf⟩:=id hC;clear hf hC cf hV
 go_enter Tryz.func60,Tryz.ntmps60
 go_wp2_with fail
 refine (HF.o _).mono ?_
 rintro e w1 ⟨rfl,hb1⟩;have C1:=Hm (HC.o.keep hb1);have B1:=Hm (HB.o.trans (hb1.mono (by simp)));obtain ⟨⟨d0,d1,d2,d3,d4⟩,df⟩:=C1.o;clear hb1 HC HB c0 c1 c2 c3 c4 df HF
 go_wp2_with fail
 go_region_law (first
  | (go_simp
     go_at_call 113
     first
      | (refine (KA.o _ (HV.o.keep B1.o.drew)).mono ?_
         rintro e w3 ⟨rfl,hb3⟩;have hb3':Below w1.heap.size w1 w3:=(Below.refl _ _).drew.trans hb3;have C3:=Hm (C1.o.keep hb3');have B3:=Hm (B1.o.trans (hb3'.mono B1.o.size));obtain ⟨⟨e0,e1,e2,e3,e4⟩,ef⟩:=C3.o;clear hb3 hb3' ef KA)
      | (refine (KB.o _ (HV.o.keep B3.o)).mono ?_
         rintro e w4 ⟨rfl,hb4⟩;have B4:=Hm (B3.o.trans (hb4.mono B3.o.size));obtain ⟨⟨i0,i1,i2,i3,i4⟩,jf⟩:=C3.o.keep hb4;clear hb4 jf)))
 all_goals
  go_wp2
  go_ret
  exact ⟨_,rfl,by rw [HL.o];exact wd_two B4.o _ _,B4.o.alloc B4.o.size _⟩
theorem f8_3 (op a b v:Int)(l:List Int)(la:Option Addr)(lc:Nat)(w:World)(hf:Qd (Qb op)=3)(hV:Vs w)(h0:0<=a)(h1:a<=4294967295)(hn:l.length<=1048576)(hu:∀ i,i<l.length->-9223372036854775808<=l.getD i 0/\l.getD i 0<=9223372036854775807)(hH:Has w la l) :
    Calls Tryz.prog 60 #[inV ⟨op,a,b,v,l⟩ la lc] w λe w'=>∃ u,e=.returned u/\Wd w' w.heap.size u (fld 3 ⟨op,a,b,v,l⟩)/\Below w.heap.size w w':=by
 have HF:=Hm (λw=>Qu op w);rw [hf] at HF;have HL:Hid (fld 3 ⟨op,a,b,v,l⟩=l.map Lib.itoa++[Lib.itoa a]):=by show _=_;simp [fld]
 have HH:=Hm hH;have KA:=Hm (λw h hv=>each_c l la lc w hn hu h hv);have KB:=Hm (λw h=>num_c a w (by omega) (by omega) h);have hml:(l.map Lib.itoa).length=l.length:=by simp
 generalize l.map Lib.itoa=Ls at *;generalize Lib.itoa a=M at *;obtain ⟨i0,hi,hz0,hz1,hz2⟩:=info_parts Tryz.info9;clear hu hH;have hC:=XR w op a b v (.slice la l.length lc);have HC:=Hm hC;have HB:=Hm (XU w op a b v (.slice la l.length lc));have HV:=Hm hV;obtain ⟨⟨c0,c1,c2,c3,c4⟩,cf⟩:=id hC;clear hf hC cf hV
 go_enter Tryz.func60,Tryz.ntmps60
 go_wp2_with fail
 refine (HF.o _).mono ?_
 rintro e w1 ⟨rfl,hb1⟩;have C1:=Hm (HC.o.keep hb1);have B1:=Hm (HB.o.trans (hb1.mono (by simp)));obtain ⟨⟨d0,d1,d2,d3,d4⟩,df⟩:=C1.o;clear hb1 HC HB c0 c1 c2 c3 c4 df HF
 go_wp2_with fail
 go_region_law (first
  | (refine QG rfl (.tmp 26) (.tmp 30) 71 rfl w1.heap.size 9 i0 (.string ⟨#[]⟩) 1 16 Tryz.underlying71 hi hz0 hz1 hz2 rfl (by decide) (.slice ga l.length gc) l.length (Sv Ls) (by simp [Act.eval,Act.put]) (O4.o.alloc _) ⟨w4.heap.size,0,none⟩ 1 1 [.string (S M)] (by simp [Act.eval,Act.put]) rfl (cell_one_new _ _ _) (oneS _) (by unfold maxLen;omega) (by omega) (by have:=Z4.o;simp;omega) ?_
     intro v5 w5 own5 gr5 hloc
     have O5:=Hm own5;have B5:=Hm ((B4.o.alloc B4.o.size _).grown gr5 (by have:=B4.o.size;simp;omega) (fun t ht=>by have h1:=(O4.o.lt t ht).1;have h2:=B1.o.size;omega));clear own5 gr5 hloc)
  | (go_simp
     go_at_call 114
     refine (KA.o _ (HH.o.keep B1.o.drew) (HV.o.keep B1.o.drew)).mono ?_
     rintro e w3 ⟨v3,rfl,o3,hb3⟩;obtain ⟨ga,gc,rfl⟩:=Qw o3;have hb3':Below w1.heap.size w1 w3:=(Below.refl _ _).drew.trans hb3;have C3:=Hm (C1.o.keep hb3');have B3:=Hm (B1.o.trans (hb3'.mono B1.o.size));have O3:Hid (w3.ownsRow w1.heap.size 9 1 (.slice ga l.length gc) l.length (Sv Ls)):=o3;have Z3:=Hm hb3'.size;obtain ⟨⟨e0,e1,e2,e3,e4⟩,ef⟩:=C3.o;clear hb3 hb3' ef KA o3)
  | (go_simp
     go_at_call 113
     refine (KB.o _ (HV.o.keep B3.o)).mono ?_
     rintro e w4 ⟨rfl,hb4⟩;have B4:=Hm (B3.o.trans (hb4.mono B3.o.size));have O4:=Hm (Qx O3.o hb4 (Nat.le_refl _));have Z4:=Hm (Nat.le_trans Z3.o hb4.size);obtain ⟨⟨f0,f1,f2,f3,f4⟩,jf⟩:=C3.o.keep hb4;clear hb4 jf))
 all_goals
  go_wp2
  go_ret
  refine ⟨_,rfl,?_,B5.o⟩
  rw [HL.o]
  have h:Wd w5 w.heap.size v5 (Ls++[M]):=by
   have h:=Q8 O5.o B1.o.size;unfold Wd;rw [List.length_append,hml]
   simpa [Sv] using h
  exact h
end Go.Proofs.YtipfjdogokanbaaGreatDoor.Pr
set_option linter.all false
namespace Go.Proofs.YtipfjdogokanbaaGreatDoor.Pr
open Go.RowKit Go.Sort
theorem fields_c (x:In)(la:Option Addr)(lc:Nat)(w:World)(hg:gd x=true)(hv0:0<=x.v)(hv1:x.v<=18446744073709551615)(hn:x.l.length<=1048576)(hH:Has w la x.l)(hV:Vs w) :
    Calls Tryz.prog 60 #[inV x la lc] w λe w'=>∃ u,e=.returned u/\Wd w' w.heap.size u (fld (Qd (Qb x.op)) x)/\Below w.heap.size w w':=by
 obtain ⟨op,a,b,v,l⟩:=x
 simp only [gd] at *
 rcases QA op with h|h|h|h|h|h|h|h|h|h|h|h
 . rw [h] at hg;simp [Qg] at hg
 . rw [h];exact f8_0 op a b v l la lc w h hV
 . rw [h] at hg⊢
   by_cases ha:a=64
   . subst ha;exact f8_1 op b v l la lc w h hV
   . refine f8_1n op a b v l la lc w h hV ha ?_
     simp [Qg,tyB,ha] at hg
     omega
 . rw [h] at hg⊢
   simp [Qg,QK] at hg
   exact f8_2 op a b v l la lc w h hV (by omega) (by omega)
 . rw [h] at hg⊢
   simp [Qg,QK] at hg
   refine f8_3 op a b v l la lc w h hV (by omega) (by omega) hn (λi hi=>?_) hH
   have:=hg.1.1.1 (l.getD i 0) (by simp [List.getD,hi])
   omega
 . rw [h] at hg⊢
   simp [Qg,QK] at hg
   exact f8_4 op a b v l la lc w h hV (by omega) (by omega)
 . rw [h] at hg⊢
   simp [Qg,QK] at hg
   exact f8_5 op a b v l la lc w h hV (by omega) (by omega) (by omega) (by omega)
 . rw [h];exact f8_6 op a b v l la lc w h hV
 . rw [h] at hg⊢
   simp [Qg,QK] at hg
   exact f8_7 op a b v l la lc w h hV hv0 (by omega)
 . rw [h];exact f8_8 op a b v l la lc w h hV hv0 hv1
 . rw [h] at hg⊢
   simp [Qg,QK] at hg
   exact f8_9 op a b v l la lc w h hV hv0 (by omega)
 . rw [h];exact f8_10 op a b v l la lc w h hV hv0 hv1
theorem strCells_S (l:List UInt8):Lib.strCells (S l)=U (bI l):=by simp [Lib.strCells,S,U,bI]
theorem join_eq (nm:List UInt8)(r:List (List UInt8)):Lib.join (((nm::r).map S).map (·.data.toList)) [32]=nm++tl r:=by
 rw [List.map_map,show ((λx:ByteArray=>x.data.toList) ∘ S)=id from funext λl=>QO l,List.map_id,Lib.join_cons]
 rfl
theorem alloc_size (w:World)(o:Obj):(w.alloc o).heap.size=w.heap.size+1:=by simp
theorem own_g (g n c:Nat):(Value.slice (some ⟨g,0,none⟩) n c).ownBlock=some g:=rfl
theorem join_c (nm:List UInt8)(r:List (List UInt8))(B:Nat)(v:Value)(w:World)(ho:w.ownsRow B 9 1 v (1+r.length) (Sv (nm::r)))(hr:r.length<=1048580)(hl:(nm++tl r).length<=1099511627776) :
    Calls Tryz.prog 111 #[v,.string ⟨#[32]⟩] w λe w'=>e=.returned (.string (S (nm++tl r)))/\Below w.heap.size w w':=by
 rcases ho.2 with ⟨_,h0⟩|⟨g,cap,cur,hv,hB,hh,hnc,_⟩
 . omega
 subst hv
 have hcell:∀ (j:Nat) x,((nm::r).map S)[j]?=some x->w.cell? ⟨g,0+j,none⟩=some (.string x):=by
  intro j x hx
  have hj:j<1+r.length:=by
   rcases Nat.lt_or_ge j (1+r.length) with h|h
   . exact h
   . rw [List.getElem?_eq_none (by simp;omega)] at hx;cases hx
  rw [Nat.zero_add,ho.cellAt j (by omega)]
  simp only [Sv,List.getElem?_map] at hx⊢
  cases h:(nm::r)[j]? with
 |none=>rw [h] at hx;cases hx
 |some y=>rw [h] at hx;simp at hx⊢;exact hx
 have hg:g<w.heap.size:=(ho.lt g rfl).2;have hlen:((nm::r).map S).length=1+r.length:=by simp;omega
 have:=Tryz.strings_Join g 0 cap ((nm::r).map S) ⟨#[32]⟩ w hcell hg (by rw [hlen];omega) (by rw [hlen];exact hnc) (by
  rw [show (⟨#[32]⟩:ByteArray).data.toList=[32] from rfl,join_eq]
  omega)
 rw [hlen,show (⟨#[32]⟩:ByteArray).data.toList=[32] from rfl,join_eq] at this
 exact this
theorem line_nil (p g B:Nat)(nm:List UInt8)(r:List (List UInt8))(w:World)(hp:w.cell? ⟨p,0,none⟩=some (.slice none 0 0))(hf:w.frozen? ⟨p,0,none⟩=false)(hBp:B<=p)(hBg:B<=g)(hgp:g≠p)(hw:w.ownsRow g 9 1 (.slice (some ⟨g,0,none⟩) 1 1) 1 (Sv [nm]))(hr0:r=[])(hr:r.length<=1048580)(hl:(nm++tl r).length<=1000000000) :
    Calls Tryz.prog 58 #[.pointer (some ⟨p,0,none⟩),.slice (some ⟨g,0,none⟩) 1 1,.slice none 0 0] w λe w'=>e=.returned (.tuple #[])/\(∃ v,w'.cell? ⟨p,0,none⟩=some v/\w'.ownsRow (p+1) 5 1 v ((nm++tl r).length+1) (U (bI (nm++tl r)++[10])))/\Below B w w':=by
 obtain ⟨i0,hi,hz0,hz1,hz2⟩:=info_parts Tryz.info9;obtain ⟨i5,hi5,hy0,hy1,hy2⟩:=info_parts Tryz.info5;have lp:p<w.heap.size:=World.block_lt_of_cell? w _ hp;have HP:=Hm hp;have HFz:=Hm hf;have O3:Hid (w.ownsRow g 9 1 (.slice (some ⟨g,0,none⟩) 1 1) (1+r.length) (Sv (nm::r))):=by show World.ownsRow _ _ _ _ _ _ _;rw [hr0];exact hw
 have E3:Hid (w.heap[p]?=w.heap[p]?):=rfl;have B3:=Hm (Below.refl B w);have KJ:=Hm (λ(B:Nat) (v:Value) (w:World) ho=>join_c nm r B v w ho hr (by omega));generalize hM:nm++tl r=M at *;have hSl:(S M).size=M.length:=Qn M;have hsc:=Hm (strCells_S M);clear hp hf hw hM hr0
 go_enter Tryz.func58,Tryz.ntmps58
 go_wp2_with (first
  | (go_at_call 111
     refine (KJ.o _ _ _ O3.o).mono ?_
     rintro e w2 ⟨rfl,hb2⟩;have z2:=hb2.size;have e2:w2.heap[p]?=w.heap[p]?:=(hb2.block p (by omega)).trans E3.o;have c2:w2.cell? ⟨p,0,none⟩=some (.slice none 0 0):=(World.cell?_of_block e2).trans HP.o;have f2:w2.frozen? ⟨p,0,none⟩=false:=(World.frozen?_of_block e2).trans HFz.o;have B2:=Hm (B3.o.trans (hb2.mono (by omega)));clear hb2 e2)
  | (at_builtin
     refine Lib.wpList_append_own_string _ rfl _ _ 22 9 rfl (p+1) 5 i5 Tryz.underlying22 Tryz.underlying9 hi5 hy0 hy1 hy2 (.slice none 0 0) 0 [] rfl (World.ownsRow_nil _ _ _ _) (S M) rfl (by unfold maxLen;omega) (by omega) (by omega) ?_
     intro v4 w4 own4 gr4 hnn4
     have e4:w4.heap[p]?=w2.heap[p]?:=gr4.block p (by omega) (by simp [Value.ownBlock]);have c4:w4.cell? ⟨p,0,none⟩=some (.slice none 0 0):=(World.cell?_of_block e4).trans c2;have f4:w4.frozen? ⟨p,0,none⟩=false:=(World.frozen?_of_block e4).trans f2;have B4:=Hm (B2.o.grown gr4 (by omega) (λk hk=>by simp [Value.ownBlock] at hk));have z4:=gr4.size;have O4:Hid (w4.ownsRow (p+1) 5 1 v4 M.length (U (bI M))):=by show World.ownsRow _ _ _ _ _ _ _;have h:=own4;rw [hsc.o,hSl,Nat.zero_add,List.nil_append] at h;exact h
     obtain ⟨va,vc,rfl⟩:=Qw O4.o;have c5:(w4.setCell ⟨p,0,none⟩ (.slice va M.length vc)).cell? ⟨p,0,none⟩=some (.slice va M.length vc):=Qh c4;have O5:Hid ((w4.setCell ⟨p,0,none⟩ (.slice va M.length vc)).ownsRow (p+1) 5 1 (.slice va M.length vc) M.length (U (bI M))):=Qs O4.o (λe=>by have:=(O4.o.lt p e).1;omega);have s5:Hid ((w4.setCell ⟨p,0,none⟩ (.slice va M.length vc)).heap.size=w4.heap.size):=by show _=_;simp [World.setCell]
     have f5:Hid ((w4.setCell ⟨p,0,none⟩ (.slice va M.length vc)).frozen? ⟨p,0,none⟩=false):=by show _=_;rw [World.frozen?_setCell];exact f4
     have C5:=Hm c5;have B5:Hid (Below B w (w4.setCell ⟨p,0,none⟩ (.slice va M.length vc))):=B4.o.setCell (by simpa using hBp) _;clear own4 gr4 hnn4 e4 c2 f2)
  | (at_builtin
     have hcn:∀ (o:Obj) j u,o=.cells #[.int .u8 10] 5->[Value.int .u8 10][j]?=some u->((w4.setCell ⟨p,0,none⟩ (.slice va M.length vc)).alloc o).cell? ((⟨w4.heap.size,0,none⟩:Addr).add j)=some u:=by
      intro o j u ho hu
      subst ho;have h:=cell_one_new (w4.setCell ⟨p,0,none⟩ (.slice va M.length vc)) (.int .u8 10) 5 j u hu;rw [s5.o] at h
      exact h
     have s6:=alloc_size (w4.setCell ⟨p,0,none⟩ (.slice va M.length vc)) (.cells #[.int .u8 10] 5);rw [s5.o] at s6
     refine wpList_append_own _ rfl _ _ 22 rfl (p+1) 5 i5 (.int .u8 0) 1 1 Tryz.underlying22 hi5 hy0 hy1 hy2 rfl (by decide) (.slice va M.length vc) M.length (U (bI M)) rfl (O5.o.alloc _) ⟨w4.heap.size,0,none⟩ 1 1 [.int .u8 10] rfl rfl (λj u hu=>hcn _ j u rfl hu) (oneB _) (by unfold maxLen;omega) (by omega) (by rw [s6];omega) ?_
     intro v6 w6 own6 gr6 hnn6
     have s7:=gr6.size;rw [s6] at s7;have e6:w6.heap[p]?=(w4.setCell ⟨p,0,none⟩ (.slice va M.length vc)).heap[p]?:=(gr6.block p (by rw [s6];omega) (λe=>by have:=(O5.o.lt p e.symm).1;omega)).trans (QC (w4.setCell ⟨p,0,none⟩ (.slice va M.length vc)) _ p (by rw [s5.o];omega));have c6:w6.cell? ⟨p,0,none⟩=some (.slice va M.length vc):=(World.cell?_of_block e6).trans C5.o;have f6:w6.frozen? ⟨p,0,none⟩=false:=(World.frozen?_of_block e6).trans f5.o;have B6:=Hm ((B5.o.alloc (by rw [s5.o];omega) _).grown gr6 (by rw [s6];omega) (λk hk=>by have:=(O5.o.lt k hk).1;omega));have O6:Hid (w6.ownsRow (p+1) 5 1 v6 (M.length+1) (U (bI M++[10]))):=by show World.ownsRow _ _ _ _ _ _ _;simpa [U] using own6
     obtain ⟨v6a,v6c,rfl⟩:=Qw O6.o;clear own6 gr6 hnn6 e6 c5 hcn))
 go_end0
 refine ⟨rfl,⟨_,Qh c6,?_⟩,B6.o.setCell (by simpa using hBp) _⟩
 exact Qs O6.o (λe=>by have:=(O6.o.lt p e).1;omega)
theorem line_some (p g B:Nat)(nm:List UInt8)(r:List (List UInt8))(g2 c2 Bm:Nat)(w:World)(hp:w.cell? ⟨p,0,none⟩=some (.slice none 0 0))(hf:w.frozen? ⟨p,0,none⟩=false)(hBp:B<=p)(hBg:B<=g)(hgp:g≠p)(hw:w.ownsRow g 9 1 (.slice (some ⟨g,0,none⟩) 1 1) 1 (Sv [nm]))(hm:w.ownsRow Bm 9 1 (.slice (some ⟨g2,0,none⟩) r.length c2) r.length (Sv r))(hr:r.length<=1048580)(hl:(nm++tl r).length<=1000000000) :
    Calls Tryz.prog 58 #[.pointer (some ⟨p,0,none⟩),.slice (some ⟨g,0,none⟩) 1 1,.slice (some ⟨g2,0,none⟩) r.length c2] w λe w'=>e=.returned (.tuple #[])/\(∃ v,w'.cell? ⟨p,0,none⟩=some v/\w'.ownsRow (p+1) 5 1 v ((nm++tl r).length+1) (U (bI (nm++tl r)++[10])))/\Below B w w':=by
 obtain ⟨i0,hi,hz0,hz1,hz2⟩:=info_parts Tryz.info9;obtain ⟨i5,hi5,hy0,hy1,hy2⟩:=info_parts Tryz.info5;have lp:p<w.heap.size:=World.block_lt_of_cell? w _ hp;have lg:g<w.heap.size:=(hw.lt g rfl).2;have HP:=Hm hp;have HFz:=Hm hf;have HW:=Hm hw
 have HS:Hid (∀ j u,(Sv r)[j]?=some u->w.cell? ((⟨g2,0,none⟩:Addr).add j)=some u):=by
  intro j u hu
  have hj:j<r.length:=by
   rcases Nat.lt_or_ge j r.length with h|h
   . exact h
   . rw [List.getElem?_eq_none (by simp [Sv];omega)] at hu;cases hu
  rw [show (⟨g2,0,none⟩:Addr).add j=⟨g2,j,none⟩ by unfold Addr.add;split<;>simp_all,hm.cellAt j (by omega)]
  exact hu
 have hsl:(Sv r).length=r.length*1:=by simp [Sv]
 have h1c:∀ u ∈ Sv r,u.oneCell'=true:=by
  intro u hu
  simp only [Sv,List.mem_map] at hu
  obtain ⟨y,_,rfl⟩:=hu
  rfl
 have KJ:=Hm (λ(B:Nat) (v:Value) (w:World) ho=>join_c nm r B v w ho hr (by omega));generalize hM:nm++tl r=M at *;have hSl:(S M).size=M.length:=Qn M;have hsc:=Hm (strCells_S M);clear hp hf hw hM hm
 go_enter Tryz.func58,Tryz.ntmps58
 go_wp2_with (first
  | (at_builtin
     refine wpList_append_own _ rfl _ _ 71 rfl g 9 i0 (.string ⟨#[]⟩) 1 16 Tryz.underlying71 hi hz0 hz1 hz2 rfl (by decide) (.slice (some ⟨g,0,none⟩) 1 1) 1 (Sv [nm]) rfl HW.o ⟨g2,0,none⟩ r.length c2 (Sv r) rfl hsl HS.o h1c (by unfold maxLen;omega) (by omega) (by omega) ?_
     intro v3 w3 own3 gr3 hnn3
     have O3:Hid (w3.ownsRow g 9 1 v3 (1+r.length) (Sv (nm::r))):=own3;have E3:Hid (w3.heap[p]?=w.heap[p]?):=gr3.block p lp (by rw [own_g];intro e;injection e with e;omega);have B3:=Hm ((Below.refl B w).grown gr3 (by omega) (fun k hk=>by rw [own_g] at hk;injection hk with hk;omega));have z3:w.heap.size<=w3.heap.size:=gr3.size;obtain ⟨v3a,v3c,rfl⟩:=Qw own3;clear own3 gr3 hnn3)
  | (go_at_call 111
     refine (KJ.o _ _ _ O3.o).mono ?_
     rintro e w2 ⟨rfl,hb2⟩;have z2:=hb2.size;have e2:w2.heap[p]?=w.heap[p]?:=(hb2.block p (by omega)).trans E3.o;have c2:w2.cell? ⟨p,0,none⟩=some (.slice none 0 0):=(World.cell?_of_block e2).trans HP.o;have f2:w2.frozen? ⟨p,0,none⟩=false:=(World.frozen?_of_block e2).trans HFz.o;have B2:=Hm (B3.o.trans (hb2.mono (by omega)));clear hb2 e2)
  | (at_builtin
     refine Lib.wpList_append_own_string _ rfl _ _ 22 9 rfl (p+1) 5 i5 Tryz.underlying22 Tryz.underlying9 hi5 hy0 hy1 hy2 (.slice none 0 0) 0 [] rfl (World.ownsRow_nil _ _ _ _) (S M) rfl (by unfold maxLen;omega) (by omega) (by omega) ?_
     intro v4 w4 own4 gr4 hnn4
     have e4:w4.heap[p]?=w2.heap[p]?:=gr4.block p (by omega) (by simp [Value.ownBlock]);have c4:w4.cell? ⟨p,0,none⟩=some (.slice none 0 0):=(World.cell?_of_block e4).trans c2;have f4:w4.frozen? ⟨p,0,none⟩=false:=(World.frozen?_of_block e4).trans f2;have B4:=Hm (B2.o.grown gr4 (by omega) (λk hk=>by simp [Value.ownBlock] at hk));have z4:=gr4.size;have O4:Hid (w4.ownsRow (p+1) 5 1 v4 M.length (U (bI M))):=by show World.ownsRow _ _ _ _ _ _ _;have h:=own4;rw [hsc.o,hSl,Nat.zero_add,List.nil_append] at h;exact h
     obtain ⟨va,vc,rfl⟩:=Qw O4.o;have c5:(w4.setCell ⟨p,0,none⟩ (.slice va M.length vc)).cell? ⟨p,0,none⟩=some (.slice va M.length vc):=Qh c4;have O5:Hid ((w4.setCell ⟨p,0,none⟩ (.slice va M.length vc)).ownsRow (p+1) 5 1 (.slice va M.length vc) M.length (U (bI M))):=Qs O4.o (λe=>by have:=(O4.o.lt p e).1;omega);have s5:Hid ((w4.setCell ⟨p,0,none⟩ (.slice va M.length vc)).heap.size=w4.heap.size):=by show _=_;simp [World.setCell]
     have f5:Hid ((w4.setCell ⟨p,0,none⟩ (.slice va M.length vc)).frozen? ⟨p,0,none⟩=false):=by show _=_;rw [World.frozen?_setCell];exact f4
     have C5:=Hm c5;have B5:Hid (Below B w (w4.setCell ⟨p,0,none⟩ (.slice va M.length vc))):=B4.o.setCell (by simpa using hBp) _;clear own4 gr4 hnn4 e4 c2 f2)
  | (at_builtin
     have hcn:∀ (o:Obj) j u,o=.cells #[.int .u8 10] 5->[Value.int .u8 10][j]?=some u->((w4.setCell ⟨p,0,none⟩ (.slice va M.length vc)).alloc o).cell? ((⟨w4.heap.size,0,none⟩:Addr).add j)=some u:=by
      intro o j u ho hu
      subst ho;have h:=cell_one_new (w4.setCell ⟨p,0,none⟩ (.slice va M.length vc)) (.int .u8 10) 5 j u hu;rw [s5.o] at h
      exact h
     have s6:=alloc_size (w4.setCell ⟨p,0,none⟩ (.slice va M.length vc)) (.cells #[.int .u8 10] 5);rw [s5.o] at s6
     refine wpList_append_own _ rfl _ _ 22 rfl (p+1) 5 i5 (.int .u8 0) 1 1 Tryz.underlying22 hi5 hy0 hy1 hy2 rfl (by decide) (.slice va M.length vc) M.length (U (bI M)) rfl (O5.o.alloc _) ⟨w4.heap.size,0,none⟩ 1 1 [.int .u8 10] rfl rfl (λj u hu=>hcn _ j u rfl hu) (oneB _) (by unfold maxLen;omega) (by omega) (by rw [s6];omega) ?_
     intro v6 w6 own6 gr6 hnn6
     have s7:=gr6.size;rw [s6] at s7;have e6:w6.heap[p]?=(w4.setCell ⟨p,0,none⟩ (.slice va M.length vc)).heap[p]?:=(gr6.block p (by rw [s6];omega) (λe=>by have:=(O5.o.lt p e.symm).1;omega)).trans (QC (w4.setCell ⟨p,0,none⟩ (.slice va M.length vc)) _ p (by rw [s5.o];omega));have c6:w6.cell? ⟨p,0,none⟩=some (.slice va M.length vc):=(World.cell?_of_block e6).trans C5.o;have f6:w6.frozen? ⟨p,0,none⟩=false:=(World.frozen?_of_block e6).trans f5.o;have B6:=Hm ((B5.o.alloc (by rw [s5.o];omega) _).grown gr6 (by rw [s6];omega) (λk hk=>by have:=(O5.o.lt k hk).1;omega));have O6:Hid (w6.ownsRow (p+1) 5 1 v6 (M.length+1) (U (bI M++[10]))):=by show World.ownsRow _ _ _ _ _ _ _;simpa [U] using own6
     obtain ⟨v6a,v6c,rfl⟩:=Qw O6.o;clear own6 gr6 hnn6 e6 c5 hcn))
 go_end0
 refine ⟨rfl,⟨_,Qh c6,?_⟩,B6.o.setCell (by simpa using hBp) _⟩
 exact Qs O6.o (λe=>by have:=(O6.o.lt p e).1;omega)
end Go.Proofs.YtipfjdogokanbaaGreatDoor.Pr
set_option linter.all false
namespace Go.Proofs.YtipfjdogokanbaaGreatDoor.Pr
open Go.RowKit Go.Sort
theorem line_c (p g B Bm:Nat)(nm:List UInt8)(r:List (List UInt8))(vm:Value)(w:World)(hp:w.cell? ⟨p,0,none⟩=some (.slice none 0 0))(hf:w.frozen? ⟨p,0,none⟩=false)(hBp:B<=p)(hBg:B<=g)(hgp:g≠p)(hw:w.ownsRow g 9 1 (.slice (some ⟨g,0,none⟩) 1 1) 1 (Sv [nm]))(hm:Wd w Bm vm r)(hr:r.length<=1048580)(hl:(nm++tl r).length<=1000000000) :
    Calls Tryz.prog 58 #[.pointer (some ⟨p,0,none⟩),.slice (some ⟨g,0,none⟩) 1 1,vm] w λe w'=>e=.returned (.tuple #[])/\(∃ v,w'.cell? ⟨p,0,none⟩=some v/\w'.ownsRow (p+1) 5 1 v ((nm++tl r).length+1) (U (bI (nm++tl r)++[10])))/\Below B w w':=by
 have hm':=hm
 rcases hm.2 with ⟨e,h0⟩|⟨g2,cap,cur,hv,hB,hh,hnc,_⟩
 . subst e
   exact line_nil p g B nm r w hp hf hBp hBg hgp hw (List.length_eq_zero_iff.1 h0) hr hl
 . subst hv
   exact line_some p g B nm r g2 cap Bm w hp hf hBp hBg hgp hw hm' hr hl
theorem fld_len (x:In)(hg:gd x=true)(hv0:0<=x.v)(hv1:x.v<=18446744073709551615)(hn:x.l.length<=1048576):(fld (Qd (Qb x.op)) x).length<=1048580/\(lnX x).length<=100000000:=by
 have h1:(fld (Qd (Qb x.op)) x).length<=1048577:=by
  unfold fld
  repeat' split
  all_goals simp
  all_goals omega
 have h2:∀ y ∈ fld (Qd (Qb x.op)) x,y.length<=21:=by
  intro y hy
  have hi:∀ n:Int,-9223372036854775808<=n->n<=9223372036854775807->(Lib.itoa n).length<=21:=λn a b=>JE n a b;have h3:-9223372036854775808<=wrap32 x.v/\wrap32 x.v<=9223372036854775807:=by unfold wrap32;omega
  have h4:-9223372036854775808<=wrap64 x.v/\wrap64 x.v<=9223372036854775807:=by unfold wrap64;omega
  obtain ⟨op,a,b,v,l⟩:=x
  simp only [gd] at *
  rcases QA op with h|h|h|h|h|h|h|h|h|h|h|h
  all_goals rw [h] at hg hy
  all_goals simp [Qg,QK,fld] at hg hy
  . obtain ⟨_,rfl⟩:=hy;rw [typT_len];omega
  . subst hy;exact hi a (by omega) (by omega)
  . rcases hy with ⟨z,hz,rfl⟩|rfl
    . have:=hg.1.1.1 z hz;exact hi z (by omega) (by omega)
    . exact hi a (by omega) (by omega)
  . subst hy;exact hi a (by omega) (by omega)
  . rcases hy with rfl|rfl
    . exact hi a (by omega) (by omega)
    . exact hi b (by omega) (by omega)
  . subst hy;exact hi _ h3.1 h3.2
  . subst hy;exact hi _ h4.1 h4.2
  . subst hy;rw [Gi];omega
  . subst hy;rw [Gi];omega
 refine ⟨by omega,?_⟩
 have:=tl_len 21 _ h2
 have h5:=J0 x.op
 simp only [lnX,lnT,List.length_append]
 omega
theorem cells5 {W:World}{b:Nat}{x:In}{la:Option Addr}{lc:Nat}(h:C5 W b 0 (.int .i64 x.op) (.int .i64 x.a) (.int .i64 x.b) (.int .u64 x.v) (.slice la x.l.length lc)):W.cell? ⟨b,0,none⟩=some (.int .i64 x.op)/\W.cell? ⟨b,1,none⟩=some (.int .i64 x.a)/\W.cell? ⟨b,2,none⟩=some (.int .i64 x.b)/\W.cell? ⟨b,3,none⟩=some (.int .u64 x.v)/\W.cell? ⟨b,4,none⟩=some (.slice la x.l.length lc):=⟨h.1.1,h.1.2.1,h.1.2.2.1,h.1.2.2.2.1,h.1.2.2.2.2⟩
theorem pins_c (p:Nat)(x:In)(la:Option Addr)(lc:Nat)(w:World)(hp:w.cell? ⟨p,0,none⟩=some (.slice none 0 0))(hf:w.frozen? ⟨p,0,none⟩=false)(hg:gd x=true)(hv0:0<=x.v)(hv1:x.v<=18446744073709551615)(hn:x.l.length<=1048576)(hH:Has w la x.l)(hV:Vs w) :
    Calls Tryz.prog 20 #[.pointer (some ⟨p,0,none⟩),inV x la lc] w λe w'=>e=.returned (.tuple #[])/\(∃ v,w'.cell? ⟨p,0,none⟩=some v/\w'.ownsRow (p+1) 5 1 v ((lnX x).length+1) (U (bI (lnX x)++[10])))/\Below p w w':=by
 have lp:p<w.heap.size:=World.block_lt_of_cell? w _ hp;obtain ⟨hfl,hll⟩:=fld_len x hg hv0 hv1 hn;have KN:=Hm (λw=>iname_c x.op w);rw [X7] at KN;have KF:=Hm (λ(W:World) (h:Below w.heap.size w W)=>fields_c x la lc W hg hv0 hv1 hn (hH.keep h) (hV.keep h));have KL:=Hm (λ(g Bm:Nat) (vm:Value) (W:World) (h:Below w.heap.size w W) (hgl:w.heap.size<=g) (hw:W.ownsRow g 9 1 (.slice (some ⟨g,0,none⟩) 1 1) 1 (Sv [nmL x.op])) (hm:Wd W Bm vm (fld (Qd (Qb x.op)) x))=>line_c p g p Bm (nmL x.op) (fld (Qd (Qb x.op)) x) vm W ((h.cell (p:=⟨p,0,none⟩) lp).trans hp) ((h.frozen (p:=⟨p,0,none⟩) lp).trans hf) (Nat.le_refl _) (by omega) (by omega) hw hm hfl (by have:=hll;simp only [lnX,lnT] at this;omega));rw [show nmL x.op++tl (fld (Qd (Qb x.op)) x)=lnX x from rfl] at KL;generalize lnX x=M at *;generalize fld (Qd (Qb x.op)) x=R at *;generalize nmL x.op=N at *;have hC:C5 (w.alloc (.cells #[.int .i64 x.op,.int .i64 x.a,.int .i64 x.b,.int .u64 x.v,.slice la x.l.length lc] 26)) w.heap.size 0 (.int .i64 x.op) (.int .i64 x.a) (.int .i64 x.b) (.int .u64 x.v) (.slice la x.l.length lc):=C5.new;have HC:=Hm hC;have B0:=Hm (show Below w.heap.size w (w.alloc (.cells #[.int .i64 x.op,.int .i64 x.a,.int .i64 x.b,.int .u64 x.v,.slice la x.l.length lc] 26)) from (Below.refl _ _).alloc (Nat.le_refl _) _);obtain ⟨c0,c1,c2,c3,c4⟩:=cells5 hC;clear hp hf hH hV hg hv0 hv1 hC hfl hll
 go_enter Tryz.func20,Tryz.ntmps20
 go_wp2_with fail
 go_region_law (first
  | (go_simp
     go_at_call 59
     refine (KN.o _).mono ?_
     rintro e w1 ⟨rfl,hb1⟩;have hb1':Below (w.alloc (.cells #[.int .i64 x.op,.int .i64 x.a,.int .i64 x.b,.int .u64 x.v,.slice la x.l.length lc] 26)).heap.size (w.alloc (.cells #[.int .i64 x.op,.int .i64 x.a,.int .i64 x.b,.int .u64 x.v,.slice la x.l.length lc] 26)) w1:=(Below.refl _ _).drew.trans hb1;have C1:=Hm (HC.o.keep hb1');have B1:=Hm (B0.o.trans (hb1'.mono (by simp)));obtain ⟨d0,d1,d2,d3,d4⟩:=cells5 C1.o;have D1:=Hm (fun (o:Obj)=>cells5 (C1.o.keep ((Below.refl _ _).alloc (Nat.le_refl _) o)));obtain ⟨g0,g1,g2,g3,g4⟩:=D1.o (.cells #[.string (S N)] 9);clear hb1 hb1' c0 c1 c2 c3 c4)
  | (go_simp
     go_at_call 60
     refine (KF.o _ (by first|exact B1.o|exact B1.o.alloc B1.o.size _)).mono ?_
     rintro e w2 ⟨u2,rfl,hu2,hb2⟩;have HK:=Hm (λ(B:Nat) (v:Value) (n:Nat) (xs:List Value) h=>Qx (B:=B) (e:=9) (n:=n) (v:=v) (xs:=xs) h hb2 (Nat.le_refl _));have B2:Hid (Below w.heap.size w w2):=by first|exact B1.o.trans (hb2.mono B1.o.size)|exact (B1.o.alloc B1.o.size _).trans (hb2.mono (by have:=B1.o.size;simp;omega))
     have U2:=Hm hu2;clear hb2 hu2)
  | (go_simp
     go_at_call 58
     first
      | (refine (KL.o w1.heap.size _ _ w2 B2.o B1.o.size (HK.o _ _ _ _ (World.ownsRow_lit w1 #[.string (S N)] 1 (Nat.le_refl _) (by unfold maxLen;omega) rfl)) U2.o).mono ?_
         rintro e w3 ⟨rfl,hv3,hb3⟩;have V3:=Hm hv3;have B3:=Hm ((B2.o.mono (Nat.le_of_lt lp)).trans hb3);clear hv3 hb3)
      | (refine (KL.o w2.heap.size _ _ (w2.alloc (.cells #[.string (S N)] 9)) (B2.o.alloc B2.o.size _) B2.o.size (World.ownsRow_lit w2 #[.string (S N)] 1 (Nat.le_refl _) (by unfold maxLen;omega) rfl) (Qx U2.o ((Below.refl _ _).alloc (Nat.le_refl _) _) (Nat.le_refl _))).mono ?_
         rintro e w3 ⟨rfl,hv3,hb3⟩;have V3:=Hm hv3;have B3:=Hm (((B2.o.alloc B2.o.size _).mono (Nat.le_of_lt lp)).trans hb3);clear hv3 hb3)))
 all_goals
  go_wp2
  go_end0
  exact ⟨rfl,V3.o,B3.o⟩
end Go.Proofs.YtipfjdogokanbaaGreatDoor.Pr
set_option linter.all false
namespace Go.Proofs.YtipfjdogokanbaaGreatDoor.Pr
open Go.RowKit Go.Sort
theorem own_cut {w:World}{B g n c:Nat}{L:List Int}{y:Int}(h:w.ownsRow B 5 1 (.slice (some ⟨g,0,none⟩) (n+1) c) (n+1) (U (L++[y])))(hn:L.length=n):w.ownsRow B 5 1 (.slice (some ⟨g,0,none⟩) n c) n (U L):=by
 refine ⟨by simp [hn],?_⟩
 rcases h.2 with ⟨e,_⟩|⟨g',cap,cur,hv,hB,hh,hnc,hm,hs,ht⟩
 . cases e
 . simp only [Value.slice.injEq,Option.some.injEq,Addr.mk.injEq,true_and,and_true] at hv
   obtain ⟨rfl,rfl⟩:=hv
   refine .inr ⟨g,c,cur,rfl,hB,hh,by omega,hm,hs,?_⟩
   have h2:=congrArg (List.take n) ht;rw [List.take_take,Nat.mul_one] at h2;rw [Nat.mul_one,show min n (n+1)=n by omega] at *;rw [h2]
   simp [U,hn]
theorem iprt_c (x:In)(la:Option Addr)(lc:Nat)(w:World)(hv0:0<=x.v)(hv1:x.v<=18446744073709551615)(hn:x.l.length<=1048576)(hH:Has w la x.l)(hV:Vs w) :
    Calls Tryz.prog 6 #[inV x la lc] w λe w'=>∃ v,e=.returned v/\w'.ownsRow w.heap.size 5 1 v (JH x).length (U (JH x))/\Below w.heap.size w w':=by
 have b0:∀ o,Below w.heap.size w (w.alloc o):=λo=>(Below.refl _ _).alloc (Nat.le_refl _) o;have KG:=Hm (λo=>isIns_c x la lc (w.alloc o) hv0 (by omega) (hH.keep (b0 o)));have HC:=Hm (C5.new (w:=w) (a:=.int .i64 x.op) (b:=.int .i64 x.a) (c:=.int .i64 x.b) (d:=.int .u64 x.v) (e:=.slice la x.l.length lc) (t:=26));have HHH:=Hm hH;have HVV:=Hm hV;have B0:=Hm b0
 cases hg:gd x
 . have HE:Hid (JH x=[]):=by show _=_;simp [JH,hg]
   rw [hg] at KG;clear hg hH b0 hV
   go_enter Tryz.func6,Tryz.ntmps6
   go_wp2_with fail
   refine (KG.o _).mono ?_
   rintro e w1 ⟨rfl,hb⟩;have HB:=Hm ((B0.o _).trans (hb.mono (by simp)));clear hb KG HC
   go_wp2
   go_ret
   refine ⟨_,rfl,?_,HB.o.alloc HB.o.size _⟩
   rw [HE.o]
   exact World.ownsRow_lit w1 #[] 0 HB.o.size (Nat.zero_le _) rfl
 . have HE:Hid (JH x=bI (lnX x)):=by show _=_;simp [JH,hg]
   have HG:=Hm hg;have hll:=(fld_len x hg hv0 hv1 hn).2;rw [hg] at KG;clear hg hH b0 hV
   go_enter Tryz.func6,Tryz.ntmps6
   go_wp2_with fail
   refine (KG.o _).mono ?_
   rintro e w1 ⟨rfl,hb⟩;have HB:=Hm ((B0.o _).trans (hb.mono (by simp)));have C1:=Hm (HC.o.keep hb);have z1:=HB.o.size;have KP:=Hm (λ(o:Obj) (hp:(w1.alloc o).cell? ⟨w1.heap.size,0,none⟩=some (.slice none 0 0)) (hf:(w1.alloc o).frozen? ⟨w1.heap.size,0,none⟩=false)=>pins_c w1.heap.size x la lc (w1.alloc o) hp hf HG.o hv0 hv1 hn (HHH.o.keep (HB.o.alloc HB.o.size o)) (HVV.o.keep (HB.o.alloc HB.o.size o)));obtain ⟨d0,d1,d2,d3,d4⟩:=cells5 C1.o;have D1:=Hm (λ(o:Obj)=>cells5 (C1.o.keep ((Below.refl _ _).alloc (Nat.le_refl _) o)));obtain ⟨g0,g1,g2,g3,g4⟩:=D1.o (.cells #[.slice none 0 0] 48);clear hb KG HC;generalize lnX x=M at *
   go_wp2_with fail
   refine (KP.o _ (by simp) (by simp)).mono ?_
   rintro e w2 ⟨rfl,⟨v,c2,o2⟩,hb2⟩;have hlen:(bI M).length=M.length:=bI_len M;obtain ⟨g,cap,rfl,hBg,_⟩:=By.Q1 o2 (by omega);have O2:=Hm o2;have B2:=Hm ((HB.o.alloc HB.o.size _).trans (hb2.mono z1))
   have hcap:M.length+1<=cap:=by
    rcases o2.2 with ⟨e,_⟩|⟨g',cap',cur,hv,_,_,hnc,_⟩
    . cases e
    . simp only [Value.slice.injEq,Option.some.injEq,Addr.mk.injEq,true_and,and_true] at hv
      obtain ⟨_,rfl⟩:=hv
      exact hnc
   have hsub:IntKind.i64.wrap (((M.length+1:Nat):Int)-1)=(M.length:Int):=by rw [IntKind.wrap_i64];omega
   clear o2 hb2 KP
   go_wp2
   go_ret
   refine ⟨_,rfl,?_,B2.o⟩
   rw [HE.o,hlen]
   exact Q8 (own_cut O2.o hlen) (by omega)
end Go.Proofs.YtipfjdogokanbaaGreatDoor.Pr
