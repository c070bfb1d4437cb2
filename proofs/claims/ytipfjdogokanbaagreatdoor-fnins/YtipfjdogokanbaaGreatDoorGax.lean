import Derived.Test.YtipfjdogokanbaaGreatDoorGaa
import Derived.Test.YtipfjdogokanbaaGreatDoorGav
import Derived.Test.YtipfjdogokanbaaGreatDoorGaw
import Derived.Test.YtipfjdogokanbaaGreatDoorGaf
import Derived.Laws.IdiomStrings
import Derived.Test.YtipfjdogokanbaaGreatDoorGag
import Derived.Lib.AppendIntMem
set_option linter.all false
set_option maxHeartbeats 400000000
set_option maxRecDepth 100000
set_option linter.all false
namespace Go.Proofs.YtipfjdogokanbaaGreatDoor.Pr
open Go.RowKit Go.Sort
def nmL (op:Int):List UInt8:=(Qb op).nm.data.toList
theorem XQ (w:World)(op a b v:Int)(u:Value):C5 (w.alloc (.cells #[.int .i64 op,.int .i64 a,.int .i64 b,.int .u64 v,u] 26)) w.heap.size 0 (.int .i64 op) (.int .i64 a) (.int .i64 b) (.int .u64 v) u:=C5.new
theorem XT (w:World)(op a b v:Int)(u:Value):Below w.heap.size w (w.alloc (.cells #[.int .i64 op,.int .i64 a,.int .i64 b,.int .u64 v,u] 26)):=(Below.refl _ _).alloc (Nat.le_refl _) _
theorem X7 (op:Int):(Qb op).nm=S (nmL op):=(S_data _).symm
theorem J0 (op:Int):(nmL op).length<=100:=by
 unfold nmL Qb
 split
 . rename_i h
   have:∀ k,k<192->(tbl.getD k Z0).nm.data.toList.length<=100:=by decide
   exact this op.toNat (by omega)
 . decide
def fld (f:Int)(x:In):List (List UInt8) :=
 if f=1 then (if x.a=64 then [] else [typT x.a]) else if f=2 then [Lib.itoa x.a] else if f=3 then x.l.map Lib.itoa++[Lib.itoa x.a] else if f=4 then [Lib.itoa x.a]
 else if f=5 then [Lib.itoa x.a,Lib.itoa x.b] else if f=7 then [Lib.itoa (wrap32 x.v)] else if f=8 then [Lib.itoa (wrap64 x.v)]
 else if f=9 then [QF 8 x.v.toNat] else if f=10 then [QF 16 x.v.toNat] else []
theorem sType_c (t:Int)(w:World):Calls Tryz.prog 130 #[.int .i64 t] w λe w'=>e=.returned (.string (S (typT t)))/\w=w':=by
 by_cases h1:t=127
 . subst h1
   go_enter Tryz.func130,Tryz.ntmps130
   go_wp2
   go_ret
   exact ⟨rfl,rfl⟩
 by_cases h2:t=126
 . subst h2
   go_enter Tryz.func130,Tryz.ntmps130
   go_wp2
   go_ret
   exact ⟨rfl,rfl⟩
 by_cases h3:t=125
 . subst h3
   go_enter Tryz.func130,Tryz.ntmps130
   go_wp2
   go_ret
   exact ⟨rfl,rfl⟩
 have e1:(t==(127:Int))=false:=by simp [h1]
 have e2:(t==(126:Int))=false:=by simp [h2]
 have e3:(t==(125:Int))=false:=by simp [h3]
 have ht:typT t=[102,54,52]:=by simp [typT,h1,h2,h3]
 rw [ht];clear ht h1 h2 h3
 go_enter Tryz.func130,Tryz.ntmps130
 go_wp2
 go_ret
 exact ⟨rfl,rfl⟩
def lnT (f:Int)(x:In):List UInt8:=nmL x.op++tl (fld f x)
theorem S1 (N L:List UInt8):S N++⟨#[32]⟩++S L=S (N++tl [L]):=by
 rw [show (⟨#[32]⟩:ByteArray)=S [32] from rfl,S_app,S_app,XW,Gq]
 simp
theorem Gi (n u:Nat):(QF n u).length=n+2:=by simp [QF,Jw]
theorem s8_0 (op a b v:Int)(l:List Int)(la:Option Addr)(lc:Nat)(w:World)(hf:Qd (Qb op)=0) :
    Calls Tryz.prog 94 #[inV ⟨op,a,b,v,l⟩ la lc] w λe w'=>e=.returned (.string (S (lnT 0 ⟨op,a,b,v,l⟩)))/\Below w.heap.size w w':=by
 have HN:=Hm (λw=>JG op w);rw [X7] at HN;have HF:=Hm (Qr op);rw [hf] at HF;have HL:Hid (lnT 0 ⟨op,a,b,v,l⟩=nmL op++tl ([])):=by show _=_;simp [lnT,fld]
 generalize nmL op=N at *;have hC:=XQ w op a b v (.slice la l.length lc);have HC:=Hm hC;have HB:=Hm (XT w op a b v (.slice la l.length lc));obtain ⟨⟨c0,c1,c2,c3,c4⟩,cf⟩:=id hC;clear hf hC cf
 go_enter Tryz.func94,Tryz.ntmps94
 go_wp2_with fail
 refine (HN.o _).mono ?_
 rintro e w1 ⟨rfl,hb1⟩;have C1:=Hm (HC.o.keep hb1);have B1:=Hm (HB.o.trans (hb1.mono (by simp)));obtain ⟨⟨d0,d1,d2,d3,d4⟩,df⟩:=C1.o;clear hb1 HC HB HN c0 c1 c2 c3 c4 df
 go_wp2_with fail
 refine (HF.o _).mono ?_
 rintro e w2 ⟨rfl,rfl⟩;clear HF
 go_wp2
 go_ret
 exact ⟨by rw [HL.o,Gq,List.append_nil];rfl,B1.o⟩
theorem s8_6 (op a b v:Int)(l:List Int)(la:Option Addr)(lc:Nat)(w:World)(hf:Qd (Qb op)=6) :
    Calls Tryz.prog 94 #[inV ⟨op,a,b,v,l⟩ la lc] w λe w'=>e=.returned (.string (S (lnT 6 ⟨op,a,b,v,l⟩)))/\Below w.heap.size w w':=by
 have HN:=Hm (λw=>JG op w);rw [X7] at HN;have HF:=Hm (Qr op);rw [hf] at HF;have HL:Hid (lnT 6 ⟨op,a,b,v,l⟩=nmL op++tl ([])):=by show _=_;simp [lnT,fld]
 generalize nmL op=N at *;have hC:=XQ w op a b v (.slice la l.length lc);have HC:=Hm hC;have HB:=Hm (XT w op a b v (.slice la l.length lc));obtain ⟨⟨c0,c1,c2,c3,c4⟩,cf⟩:=id hC;clear hf hC cf
 go_enter Tryz.func94,Tryz.ntmps94
 go_wp2_with fail
 refine (HN.o _).mono ?_
 rintro e w1 ⟨rfl,hb1⟩;have C1:=Hm (HC.o.keep hb1);have B1:=Hm (HB.o.trans (hb1.mono (by simp)));obtain ⟨⟨d0,d1,d2,d3,d4⟩,df⟩:=C1.o;clear hb1 HC HB HN c0 c1 c2 c3 c4 df
 go_wp2_with fail
 refine (HF.o _).mono ?_
 rintro e w2 ⟨rfl,rfl⟩;clear HF
 go_wp2
 go_ret
 exact ⟨by rw [HL.o,Gq,List.append_nil];rfl,B1.o⟩
theorem s8_1 (op b v:Int)(l:List Int)(la:Option Addr)(lc:Nat)(w:World)(hf:Qd (Qb op)=1) :
    Calls Tryz.prog 94 #[inV ⟨op,64,b,v,l⟩ la lc] w λe w'=>e=.returned (.string (S (lnT 1 ⟨op,64,b,v,l⟩)))/\Below w.heap.size w w':=by
 have HN:=Hm (λw=>JG op w);rw [X7] at HN;have HF:=Hm (Qr op);rw [hf] at HF;have HL:Hid (lnT 1 ⟨op,64,b,v,l⟩=nmL op++tl ([])):=by show _=_;simp [lnT,fld]
 generalize nmL op=N at *;have hC:C5 (w.alloc (.cells #[.int .i64 op,.int .i64 64,.int .i64 b,.int .u64 v,.slice la l.length lc] 26)) w.heap.size 0 (.int .i64 op) (.int .i64 64) (.int .i64 b) (.int .u64 v) (.slice la l.length lc):=C5.new;have HC:=Hm hC;have HB:=Hm (show Below w.heap.size w (w.alloc (.cells #[.int .i64 op,.int .i64 64,.int .i64 b,.int .u64 v,.slice la l.length lc] 26)) from (Below.refl _ _).alloc (Nat.le_refl _) _);obtain ⟨⟨c0,c1,c2,c3,c4⟩,cf⟩:=id hC;clear hf hC cf
 go_enter Tryz.func94,Tryz.ntmps94
 go_wp2_with fail
 refine (HN.o _).mono ?_
 rintro e w1 ⟨rfl,hb1⟩;have C1:=Hm (HC.o.keep hb1);have B1:=Hm (HB.o.trans (hb1.mono (by simp)));obtain ⟨⟨d0,d1,d2,d3,d4⟩,df⟩:=C1.o;clear hb1 HC HB HN c0 c1 c2 c3 c4 df
 go_wp2_with fail
 refine (HF.o _).mono ?_
 rintro e w2 ⟨rfl,rfl⟩;clear HF
 go_wp2
 go_ret
 exact ⟨by rw [HL.o,Gq,List.append_nil];rfl,B1.o⟩
theorem s8_1n (op a b v:Int)(l:List Int)(la:Option Addr)(lc:Nat)(w:World)(hf:Qd (Qb op)=1)(ha:¬ a=64) :
    Calls Tryz.prog 94 #[inV ⟨op,a,b,v,l⟩ la lc] w λe w'=>e=.returned (.string (S (lnT 1 ⟨op,a,b,v,l⟩)))/\Below w.heap.size w w':=by
 have HN:=Hm (λw=>JG op w);rw [X7] at HN;have HF:=Hm (Qr op);rw [hf] at HF;have hnl:=J0 op;have HL:Hid (lnT 1 ⟨op,a,b,v,l⟩=nmL op++tl ([typT a])):=by show _=_;simp [lnT,fld,ha]
 have KT:=Hm (λw=>sType_c a w);have hll:=typT_len a;generalize typT a=L at *;generalize nmL op=N at *;have hC:=XQ w op a b v (.slice la l.length lc);have HC:=Hm hC;have HB:=Hm (XT w op a b v (.slice la l.length lc));obtain ⟨⟨c0,c1,c2,c3,c4⟩,cf⟩:=id hC;clear hf hC cf
 go_enter Tryz.func94,Tryz.ntmps94
 go_wp2_with fail
 refine (HN.o _).mono ?_
 rintro e w1 ⟨rfl,hb1⟩;have C1:=Hm (HC.o.keep hb1);have B1:=Hm (HB.o.trans (hb1.mono (by simp)));obtain ⟨⟨d0,d1,d2,d3,d4⟩,df⟩:=C1.o;clear hb1 HC HB HN c0 c1 c2 c3 c4 df
 go_wp2_with fail
 refine (HF.o _).mono ?_
 rintro e w2 ⟨rfl,rfl⟩;clear HF;have hne:(a != (64:Int))=true:=by simp [ha]
 have q1:¬ 9223372036854775807<(S N).size+1:=by rw [Qn];omega
 have q2:¬ 9223372036854775807<(S N).size+1+(S L).size:=by rw [Qn,Qn];omega
 clear hnl hll
 go_wp2_with (go_at_call 130;refine (KT.o _).mono ?_;rintro e w3 ⟨rfl,rfl⟩)
 go_wp2
 go_ret
 exact ⟨by rw [HL.o,<- S1];rfl,B1.o⟩
theorem s8_2 (op a b v:Int)(l:List Int)(la:Option Addr)(lc:Nat)(w:World)(hf:Qd (Qb op)=2)(h0:0<=a)(h1:a<=4294967295) :
    Calls Tryz.prog 94 #[inV ⟨op,a,b,v,l⟩ la lc] w λe w'=>e=.returned (.string (S (lnT 2 ⟨op,a,b,v,l⟩)))/\Below w.heap.size w w':=by
 have HN:=Hm (λw=>JG op w);rw [X7] at HN;have HF:=Hm (Qr op);rw [hf] at HF;have hnl:=J0 op;have HL:Hid (lnT 2 ⟨op,a,b,v,l⟩=nmL op++tl ([Lib.itoa a])):=by show _=_;simp [lnT,fld]
 have KT:=Hm (λw=>sDec_c a w (by omega) (by omega));have hll:=JE a (by omega) (by omega);generalize Lib.itoa a=L at *;generalize nmL op=N at *;have hC:=XQ w op a b v (.slice la l.length lc);have HC:=Hm hC;have HB:=Hm (XT w op a b v (.slice la l.length lc));obtain ⟨⟨c0,c1,c2,c3,c4⟩,cf⟩:=id hC;clear hf hC cf
 go_enter Tryz.func94,Tryz.ntmps94
 go_wp2_with fail
 refine (HN.o _).mono ?_
 rintro e w1 ⟨rfl,hb1⟩;have C1:=Hm (HC.o.keep hb1);have B1:=Hm (HB.o.trans (hb1.mono (by simp)));obtain ⟨⟨d0,d1,d2,d3,d4⟩,df⟩:=C1.o;clear hb1 HC HB HN c0 c1 c2 c3 c4 df
 go_wp2_with fail
 refine (HF.o _).mono ?_
 rintro e w2 ⟨rfl,rfl⟩;clear HF;have q1:¬ 9223372036854775807<(S N).size+1:=by rw [Qn];omega
 have q2:¬ 9223372036854775807<(S N).size+1+(S L).size:=by rw [Qn,Qn];omega
 clear hnl hll
 go_wp2_with (go_at_call 131;refine (KT.o _).mono ?_;rintro e w3 ⟨rfl,hb3⟩;have B2:=Hm (B1.o.trans (hb3.mono B1.o.size));clear hb3)
 go_wp2
 go_ret
 exact ⟨by rw [HL.o,<- S1];rfl,B2.o⟩
theorem s8_4 (op a b v:Int)(l:List Int)(la:Option Addr)(lc:Nat)(w:World)(hf:Qd (Qb op)=4)(h0:0<=a)(h1:a<=4294967295) :
    Calls Tryz.prog 94 #[inV ⟨op,a,b,v,l⟩ la lc] w λe w'=>e=.returned (.string (S (lnT 4 ⟨op,a,b,v,l⟩)))/\Below w.heap.size w w':=by
 have HN:=Hm (λw=>JG op w);rw [X7] at HN;have HF:=Hm (Qr op);rw [hf] at HF;have hnl:=J0 op;have HL:Hid (lnT 4 ⟨op,a,b,v,l⟩=nmL op++tl ([Lib.itoa a])):=by show _=_;simp [lnT,fld]
 have KT:=Hm (λw=>sDec_c a w (by omega) (by omega));have hll:=JE a (by omega) (by omega);generalize Lib.itoa a=L at *;generalize nmL op=N at *;have hC:=XQ w op a b v (.slice la l.length lc);have HC:=Hm hC;have HB:=Hm (XT w op a b v (.slice la l.length lc));obtain ⟨⟨c0,c1,c2,c3,c4⟩,cf⟩:=id hC;clear hf hC cf
 go_enter Tryz.func94,Tryz.ntmps94
 go_wp2_with fail
 refine (HN.o _).mono ?_
 rintro e w1 ⟨rfl,hb1⟩;have C1:=Hm (HC.o.keep hb1);have B1:=Hm (HB.o.trans (hb1.mono (by simp)));obtain ⟨⟨d0,d1,d2,d3,d4⟩,df⟩:=C1.o;clear hb1 HC HB HN c0 c1 c2 c3 c4 df
 go_wp2_with fail
 refine (HF.o _).mono ?_
 rintro e w2 ⟨rfl,rfl⟩;clear HF;have q1:¬ 9223372036854775807<(S N).size+1:=by rw [Qn];omega
 have q2:¬ 9223372036854775807<(S N).size+1+(S L).size:=by rw [Qn,Qn];omega
 clear hnl hll
 go_wp2_with (go_at_call 131;refine (KT.o _).mono ?_;rintro e w3 ⟨rfl,hb3⟩;have B2:=Hm (B1.o.trans (hb3.mono B1.o.size));clear hb3)
 go_wp2
 go_ret
 exact ⟨by rw [HL.o,<- S1];rfl,B2.o⟩
theorem s8_7 (op a b v:Int)(l:List Int)(la:Option Addr)(lc:Nat)(w:World)(hf:Qd (Qb op)=7)(h0:0<=v)(h1:v<=4294967295) :
    Calls Tryz.prog 94 #[inV ⟨op,a,b,v,l⟩ la lc] w λe w'=>e=.returned (.string (S (lnT 7 ⟨op,a,b,v,l⟩)))/\Below w.heap.size w w':=by
 have HN:=Hm (λw=>JG op w);rw [X7] at HN;have HF:=Hm (Qr op);rw [hf] at HF;have hnl:=J0 op;have HL:Hid (lnT 7 ⟨op,a,b,v,l⟩=nmL op++tl ([Lib.itoa (wrap32 v)])):=by show _=_;simp [lnT,fld]
 have KS:=Hm (λw=>signed32 v w h0 h1);have hr:-9223372036854775808<=wrap32 v/\wrap32 v<=9223372036854775807:=by unfold wrap32;omega
 generalize wrap32 v=y at *;have KT:=Hm (λw=>sDec_c y w hr.1 hr.2);have hll:=JE y hr.1 hr.2;generalize Lib.itoa y=L at *;clear hr;generalize nmL op=N at *;have hC:=XQ w op a b v (.slice la l.length lc);have HC:=Hm hC;have HB:=Hm (XT w op a b v (.slice la l.length lc));obtain ⟨⟨c0,c1,c2,c3,c4⟩,cf⟩:=id hC;clear hf hC cf
 go_enter Tryz.func94,Tryz.ntmps94
 go_wp2_with fail
 refine (HN.o _).mono ?_
 rintro e w1 ⟨rfl,hb1⟩;have C1:=Hm (HC.o.keep hb1);have B1:=Hm (HB.o.trans (hb1.mono (by simp)));obtain ⟨⟨d0,d1,d2,d3,d4⟩,df⟩:=C1.o;clear hb1 HC HB HN c0 c1 c2 c3 c4 df
 go_wp2_with fail
 refine (HF.o _).mono ?_
 rintro e w2 ⟨rfl,rfl⟩;clear HF;have q1:¬ 9223372036854775807<(S N).size+1:=by rw [Qn];omega
 have q2:¬ 9223372036854775807<(S N).size+1+(S L).size:=by rw [Qn,Qn];omega
 clear hnl hll
 go_wp2_with (first|(go_at_call 66;refine (KS.o _).mono ?_;rintro e w4 ⟨rfl,rfl⟩)|(go_at_call 131;refine (KT.o _).mono ?_;rintro e w3 ⟨rfl,hb3⟩;have B2:=Hm (B1.o.trans (hb3.mono B1.o.size));clear hb3))
 go_wp2
 go_ret
 exact ⟨by rw [HL.o,<- S1];rfl,B2.o⟩
theorem s8_8 (op a b v:Int)(l:List Int)(la:Option Addr)(lc:Nat)(w:World)(hf:Qd (Qb op)=8)(h0:0<=v)(h1:v<=18446744073709551615) :
    Calls Tryz.prog 94 #[inV ⟨op,a,b,v,l⟩ la lc] w λe w'=>e=.returned (.string (S (lnT 8 ⟨op,a,b,v,l⟩)))/\Below w.heap.size w w':=by
 have HN:=Hm (λw=>JG op w);rw [X7] at HN;have HF:=Hm (Qr op);rw [hf] at HF;have hnl:=J0 op;have HL:Hid (lnT 8 ⟨op,a,b,v,l⟩=nmL op++tl ([Lib.itoa (wrap64 v)])):=by show _=_;simp [lnT,fld]
 have hr:-9223372036854775808<=wrap64 v/\wrap64 v<=9223372036854775807:=by unfold wrap64;omega
 have hw:IntKind.i64.wrap v=wrap64 v:=by rw [IntKind.wrap_i64,wrap64]
 generalize wrap64 v=y at *;have KT:=Hm (λw=>sDec_c y w hr.1 hr.2);have hll:=JE y hr.1 hr.2;generalize Lib.itoa y=L at *;clear hr;generalize nmL op=N at *;have hC:=XQ w op a b v (.slice la l.length lc);have HC:=Hm hC;have HB:=Hm (XT w op a b v (.slice la l.length lc));obtain ⟨⟨c0,c1,c2,c3,c4⟩,cf⟩:=id hC;clear hf hC cf
 go_enter Tryz.func94,Tryz.ntmps94
 go_wp2_with fail
 refine (HN.o _).mono ?_
 rintro e w1 ⟨rfl,hb1⟩;have C1:=Hm (HC.o.keep hb1);have B1:=Hm (HB.o.trans (hb1.mono (by simp)));obtain ⟨⟨d0,d1,d2,d3,d4⟩,df⟩:=C1.o;clear hb1 HC HB HN c0 c1 c2 c3 c4 df
 go_wp2_with fail
 refine (HF.o _).mono ?_
 rintro e w2 ⟨rfl,rfl⟩;clear HF;have q1:¬ 9223372036854775807<(S N).size+1:=by rw [Qn];omega
 have q2:¬ 9223372036854775807<(S N).size+1+(S L).size:=by rw [Qn,Qn];omega
 clear hnl hll
 go_wp2_with (go_at_call 131;refine (KT.o _).mono ?_;rintro e w3 ⟨rfl,hb3⟩;have B2:=Hm (B1.o.trans (hb3.mono B1.o.size));clear hb3)
 go_wp2
 go_ret
 exact ⟨by rw [HL.o,<- S1];rfl,B2.o⟩
theorem s8_9 (op a b v:Int)(l:List Int)(la:Option Addr)(lc:Nat)(w:World)(hf:Qd (Qb op)=9)(h0:0<=v)(h1:v<=18446744073709551615) :
    Calls Tryz.prog 94 #[inV ⟨op,a,b,v,l⟩ la lc] w λe w'=>e=.returned (.string (S (lnT 9 ⟨op,a,b,v,l⟩)))/\Below w.heap.size w w':=by
 have HN:=Hm (λw=>JG op w);rw [X7] at HN;have HF:=Hm (Qr op);rw [hf] at HF;have hnl:=J0 op;have HL:Hid (lnT 9 ⟨op,a,b,v,l⟩=nmL op++tl ([QF 8 v.toNat])):=by show _=_;simp [lnT,fld]
 have KT:=Hm (λw=>sHex_c v.toNat 8 w (by omega) (by omega) (by omega));rw [Int.toNat_of_nonneg h0] at KT;have hll:=Gi 8 v.toNat;generalize QF 8 v.toNat=L at *;generalize nmL op=N at *;have hC:=XQ w op a b v (.slice la l.length lc);have HC:=Hm hC;have HB:=Hm (XT w op a b v (.slice la l.length lc));obtain ⟨⟨c0,c1,c2,c3,c4⟩,cf⟩:=id hC;clear hf hC cf
 go_enter Tryz.func94,Tryz.ntmps94
 go_wp2_with fail
 refine (HN.o _).mono ?_
 rintro e w1 ⟨rfl,hb1⟩;have C1:=Hm (HC.o.keep hb1);have B1:=Hm (HB.o.trans (hb1.mono (by simp)));obtain ⟨⟨d0,d1,d2,d3,d4⟩,df⟩:=C1.o;clear hb1 HC HB HN c0 c1 c2 c3 c4 df
 go_wp2_with fail
 refine (HF.o _).mono ?_
 rintro e w2 ⟨rfl,rfl⟩;clear HF;have q1:¬ 9223372036854775807<(S N).size+1:=by rw [Qn];omega
 have q2:¬ 9223372036854775807<(S N).size+1+(S L).size:=by rw [Qn,Qn];omega
 clear hnl hll
 go_wp2_with (go_at_call 133;refine (KT.o _).mono ?_;rintro e w3 ⟨rfl,hb3⟩;have B2:=Hm (B1.o.trans (hb3.mono B1.o.size));clear hb3)
 go_wp2
 go_ret
 exact ⟨by rw [HL.o,<- S1];rfl,B2.o⟩
theorem s8_10 (op a b v:Int)(l:List Int)(la:Option Addr)(lc:Nat)(w:World)(hf:Qd (Qb op)=10)(h0:0<=v)(h1:v<=18446744073709551615) :
    Calls Tryz.prog 94 #[inV ⟨op,a,b,v,l⟩ la lc] w λe w'=>e=.returned (.string (S (lnT 10 ⟨op,a,b,v,l⟩)))/\Below w.heap.size w w':=by
 have HN:=Hm (λw=>JG op w);rw [X7] at HN;have HF:=Hm (Qr op);rw [hf] at HF;have hnl:=J0 op;have HL:Hid (lnT 10 ⟨op,a,b,v,l⟩=nmL op++tl ([QF 16 v.toNat])):=by show _=_;simp [lnT,fld]
 have KT:=Hm (λw=>sHex_c v.toNat 16 w (by omega) (by omega) (by omega));rw [Int.toNat_of_nonneg h0] at KT;have hll:=Gi 16 v.toNat;generalize QF 16 v.toNat=L at *;generalize nmL op=N at *;have hC:=XQ w op a b v (.slice la l.length lc);have HC:=Hm hC;have HB:=Hm (XT w op a b v (.slice la l.length lc));obtain ⟨⟨c0,c1,c2,c3,c4⟩,cf⟩:=id hC;clear hf hC cf
 go_enter Tryz.func94,Tryz.ntmps94
 go_wp2_with fail
 refine (HN.o _).mono ?_
 rintro e w1 ⟨rfl,hb1⟩;have C1:=Hm (HC.o.keep hb1);have B1:=Hm (HB.o.trans (hb1.mono (by simp)));obtain ⟨⟨d0,d1,d2,d3,d4⟩,df⟩:=C1.o;clear hb1 HC HB HN c0 c1 c2 c3 c4 df
 go_wp2_with fail
 refine (HF.o _).mono ?_
 rintro e w2 ⟨rfl,rfl⟩;clear HF;have q1:¬ 9223372036854775807<(S N).size+1:=by rw [Qn];omega
 have q2:¬ 9223372036854775807<(S N).size+1+(S L).size:=by rw [Qn,Qn];omega
 clear hnl hll
 go_wp2_with (go_at_call 133;refine (KT.o _).mono ?_;rintro e w3 ⟨rfl,hb3⟩;have B2:=Hm (B1.o.trans (hb3.mono B1.o.size));clear hb3)
 go_wp2
 go_ret
 exact ⟨by rw [HL.o,<- S1];rfl,B2.o⟩
theorem s8_5 (op a b v:Int)(l:List Int)(la:Option Addr)(lc:Nat)(w:World)(hf:Qd (Qb op)=5)(h0:0<=a)(h1:a<=4294967295)(h2:0<=b)(h3:b<=4294967295) :
    Calls Tryz.prog 94 #[inV ⟨op,a,b,v,l⟩ la lc] w λe w'=>e=.returned (.string (S (lnT 5 ⟨op,a,b,v,l⟩)))/\Below w.heap.size w w':=by
 have HN:=Hm (λw=>JG op w);rw [X7] at HN;have HF:=Hm (Qr op);rw [hf] at HF;have hnl:=J0 op;have HL:Hid (lnT 5 ⟨op,a,b,v,l⟩=nmL op++tl ([Lib.itoa a,Lib.itoa b])):=by show _=_;simp [lnT,fld]
 have KA:=Hm (λw=>sDec_c a w (by omega) (by omega));have KB:=Hm (λw=>sDec_c b w (by omega) (by omega));have hla:=JE a (by omega) (by omega);have hlb:=JE b (by omega) (by omega);generalize Lib.itoa a=L at *;generalize Lib.itoa b=M at *;generalize nmL op=N at *;have hC:=XQ w op a b v (.slice la l.length lc);have HC:=Hm hC;have HB:=Hm (XT w op a b v (.slice la l.length lc));obtain ⟨⟨c0,c1,c2,c3,c4⟩,cf⟩:=id hC;clear hf hC cf
 go_enter Tryz.func94,Tryz.ntmps94
 go_wp2_with fail
 refine (HN.o _).mono ?_
 rintro e w1 ⟨rfl,hb1⟩;have C1:=Hm (HC.o.keep hb1);have B1:=Hm (HB.o.trans (hb1.mono (by simp)));obtain ⟨⟨d0,d1,d2,d3,d4⟩,df⟩:=C1.o;clear hb1 HC HB HN c0 c1 c2 c3 c4 df
 go_wp2_with fail
 refine (HF.o _).mono ?_
 rintro e w2 ⟨rfl,rfl⟩;clear HF;have q1:¬ 9223372036854775807<(S N).size+1:=by rw [Qn];omega
 have q2:¬ 9223372036854775807<(S N).size+1+(S L).size:=by rw [Qn,Qn];omega
 have q3:¬ 9223372036854775807<(S N).size+1+(S L).size+1:=by rw [Qn,Qn];omega
 have q4:¬ 9223372036854775807<(S N).size+1+(S L).size+1+(S M).size:=by rw [Qn,Qn,Qn];omega
 clear hnl hla hlb
 go_wp2_with fail
 go_region_law (first
  | (go_simp
     go_at_call 131
     first
      | (refine (KA.o _).mono ?_
         rintro e w3 ⟨rfl,hb3⟩;have hb3':Below w1.heap.size w1 w3:=(Below.refl _ _).drew.trans hb3;have C3:=Hm (C1.o.keep hb3');have B3:=Hm (B1.o.trans (hb3'.mono B1.o.size));obtain ⟨⟨e0,e1,e2,e3,e4⟩,ef⟩:=C3.o;clear hb3 hb3' ef KA)
      | (refine (KB.o _).mono ?_
         rintro e w4 ⟨rfl,hb4⟩;have B4:=Hm (B3.o.trans (hb4.mono B3.o.size));obtain ⟨⟨i0,i1,i2,i3,i4⟩,jf⟩:=C3.o.keep hb4;clear hb4 jf)))
 all_goals
  go_wp2
  go_ret
  exact ⟨by rw [HL.o,show N++tl [L,M]=(N++tl [L])++tl [M] by simp [XW,Gq],<- S1,<- S1];rfl,B4.o⟩
theorem s8_3 (op a b v:Int)(l:List Int)(la:Option Addr)(lc:Nat)(w:World)(hf:Qd (Qb op)=3)(h0:0<=a)(h1:a<=4294967295)(hn:l.length<=1048576)(hu:∀ i,i<l.length->-9223372036854775808<=l.getD i 0/\l.getD i 0<=9223372036854775807)(hH:Has w la l) :
    Calls Tryz.prog 94 #[inV ⟨op,a,b,v,l⟩ la lc] w λe w'=>e=.returned (.string (S (lnT 3 ⟨op,a,b,v,l⟩)))/\Below w.heap.size w w':=by
 have HN:=Hm (λw=>JG op w);rw [X7] at HN;have HF:=Hm (Qr op);rw [hf] at HF;have hnl:=J0 op;have HL:Hid (lnT 3 ⟨op,a,b,v,l⟩=nmL op++tl (l.map Lib.itoa++[Lib.itoa a])):=by show _=_;simp [lnT,fld]
 have HH:=Hm hH;have KA:=Hm (λw h=>sNums_c l la lc w hn hu h);have KB:=Hm (λw=>sDec_c a w (by omega) (by omega));have hla:=nmT_len l hu l.length;rw [List.take_length] at hla;have hlb:=JE a (by omega) (by omega);rw [tl_app,show tl (l.map Lib.itoa)=nmT l from rfl] at HL;generalize nmT l=L at *;generalize Lib.itoa a=M at *;clear hu hH;generalize nmL op=N at *;have hC:=XQ w op a b v (.slice la l.length lc);have HC:=Hm hC;have HB:=Hm (XT w op a b v (.slice la l.length lc));obtain ⟨⟨c0,c1,c2,c3,c4⟩,cf⟩:=id hC;clear hf hC cf
 go_enter Tryz.func94,Tryz.ntmps94
 go_wp2_with fail
 refine (HN.o _).mono ?_
 rintro e w1 ⟨rfl,hb1⟩;have C1:=Hm (HC.o.keep hb1);have B1:=Hm (HB.o.trans (hb1.mono (by simp)));obtain ⟨⟨d0,d1,d2,d3,d4⟩,df⟩:=C1.o;clear hb1 HC HB HN c0 c1 c2 c3 c4 df
 go_wp2_with fail
 refine (HF.o _).mono ?_
 rintro e w2 ⟨rfl,rfl⟩;clear HF;have q1:¬ 9223372036854775807<(S N).size+(S L).size:=by rw [Qn,Qn];omega
 have q2:¬ 9223372036854775807<(S N).size+(S L).size+1:=by rw [Qn,Qn];omega
 have q4:¬ 9223372036854775807<(S N).size+(S L).size+1+(S M).size:=by rw [Qn,Qn,Qn];omega
 clear hnl hla hlb
 go_wp2_with fail
 go_region_law (first
  | (go_simp
     go_at_call 132
     refine (KA.o _ (HH.o.keep B1.o.drew)).mono ?_
     rintro e w3 ⟨rfl,hb3⟩;have hb3':Below w1.heap.size w1 w3:=(Below.refl _ _).drew.trans hb3;have C3:=Hm (C1.o.keep hb3');have B3:=Hm (B1.o.trans (hb3'.mono B1.o.size));obtain ⟨⟨e0,e1,e2,e3,e4⟩,ef⟩:=C3.o;clear hb3 hb3' ef KA)
  | (go_simp
     go_at_call 131
     refine (KB.o _).mono ?_
     rintro e w4 ⟨rfl,hb4⟩;have B4:=Hm (B3.o.trans (hb4.mono B3.o.size));obtain ⟨⟨i0,i1,i2,i3,i4⟩,jf⟩:=C3.o.keep hb4;clear hb4 jf))
 all_goals
  go_wp2
  go_ret
  exact ⟨by rw [HL.o,<- List.append_assoc,<- S1,<- S_app];rfl,B4.o⟩
end Go.Proofs.YtipfjdogokanbaaGreatDoor.Pr
set_option linter.all false
namespace Go.Proofs.YtipfjdogokanbaaGreatDoor.Pr
open Go.RowKit Go.Sort
def gd (x:In):Bool:=Qg (Qd (Qb x.op)) x
theorem QA (op:Int):Qd (Qb op)=-1\/Qd (Qb op)=0\/Qd (Qb op)=1\/Qd (Qb op)=2\/Qd (Qb op)=3\/Qd (Qb op)=4\/Qd (Qb op)=5\/Qd (Qb op)=6\/Qd (Qb op)=7\/Qd (Qb op)=8\/Qd (Qb op)=9\/Qd (Qb op)=10:=by
 by_cases h:0<=op/\op<192
 . have e:=of_decide_eq_true (rng 0 192 (λi=>decide (-1<=Qd (tbl.getD i Z0)/\Qd (tbl.getD i Z0)<=10)) (by decide +kernel) op (by omega) (by omega));have er:Qb op=tbl.getD op.toNat Z0:=by simp only [Qb,h,and_self,if_true]
   rw [<- er] at e
   omega
 . have er:Qb op=Z0:=by simp only [Qb,h,if_false]
   rw [er];left;decide
theorem isIns_c (x:In)(la:Option Addr)(lc:Nat)(w:World)(hv:0<=x.v)(hln:x.l.length<=1099511627776)(hH:Has w la x.l):Calls Tryz.prog 18 #[inV x la lc] w λe w'=>e=.returned (.bool (gd x))/\Below w.heap.size w w':=by
 obtain ⟨op,a,b,v,l⟩:=x
 rcases QA op with h|h|h|h|h|h|h|h|h|h|h|h
 . have:=igood_m1 op a b v l la lc w h hv;simp only [gd,h];exact this
 . have:=igood_0 op a b v l la lc w h hv;simp only [gd,h];exact this
 . have:=igood_1 op a b v l la lc w h hv;simp only [gd,h];exact this
 . have:=igood_2 op a b v l la lc w h hv;simp only [gd,h];exact this
 . have:=igood_3 op a b v l la lc w h hv hln hH;simp only [gd,h];exact this
 . have:=igood_4 op a b v l la lc w h hv;simp only [gd,h];exact this
 . have:=igood_5 op a b v l la lc w h hv;simp only [gd,h];exact this
 . have:=igood_6 op a b v l la lc w h hv;simp only [gd,h];exact this
 . have:=igood_7 op a b v l la lc w h hv;simp only [gd,h];exact this
 . have:=igood_8 op a b v l la lc w h hv;simp only [gd,h];exact this
 . have:=igood_9 op a b v l la lc w h hv;simp only [gd,h];exact this
 . have:=igood_10 op a b v l la lc w h hv;simp only [gd,h];exact this
end Go.Proofs.YtipfjdogokanbaaGreatDoor.Pr
namespace Go.Proofs.YtipfjdogokanbaaGreatDoor.Pr
open Go.RowKit Go.Sort
theorem good_c (x:In)(la:Option Addr)(lc:Nat)(w:World)(hv:0<=x.v)(hln:x.l.length<=1099511627776)(hH:Has w la x.l):Calls Tryz.prog 21 #[inV x la lc] w λe w'=>e=.returned (.bool (gd x))/\Below w.heap.size w w':=by
 rcases QA x.op with h|h|h|h|h|h|h|h|h|h|h|h
 . simp only [gd,h];exact sgood_m1 x la lc w h hv
 . simp only [gd,h];exact sgood_0 x la lc w h hv
 . simp only [gd,h];exact sgood_1 x la lc w h hv
 . simp only [gd,h];exact sgood_2 x la lc w h hv
 . simp only [gd,h];exact sgood_3 x la lc w h hv hln hH
 . simp only [gd,h];exact sgood_4 x la lc w h hv
 . simp only [gd,h];exact sgood_5 x la lc w h hv
 . simp only [gd,h];exact sgood_6 x la lc w h hv
 . simp only [gd,h];exact sgood_7 x la lc w h hv
 . simp only [gd,h];exact sgood_8 x la lc w h hv
 . simp only [gd,h];exact sgood_9 x la lc w h hv
 . simp only [gd,h];exact sgood_10 x la lc w h hv
end Go.Proofs.YtipfjdogokanbaaGreatDoor.Pr
namespace Go.Proofs.YtipfjdogokanbaaGreatDoor.Pr
open Go.RowKit Go.Sort
def Qv (s:ByteArray):List Int:=s.data.toList.map λb=>(b.toNat:Int)
theorem bytes_at (s:ByteArray)(c i:Nat)(hi:i<(Qv s).length):(bytesRow s c)[i]?=some (.int .u8 ((Qv s).getD i 0)):=by
 have hl:i<s.data.size:=by simpa [Qv] using hi
 unfold bytesRow;rw [Array.getElem?_append_left (by simpa using hl)];have e:s.data[i]?=some s.data[i]:=Array.getElem?_eq_getElem hl
 simp [Qv,List.getD,e]
theorem bytesRow_cells (s:ByteArray)(c:Nat)(w:World)(e:TypeId)(f:Nat × Nat):∀ i,i<(Qv s).length->(w.drew.alloc (.cells (bytesRow s c) e f)).cell? ⟨w.heap.size,0+i,none⟩=some (.int .u8 ((Qv s).getD i 0)):=by
 intro i hi
 have h:(w.drew.alloc (.cells (bytesRow s c) e f)).heap[w.heap.size]?=some (.cells (bytesRow s c) e f):=J1 w.drew _;rw [Nat.zero_add]
 simp only [World.cell?,h]
 exact bytes_at s c i hi
end Go.Proofs.YtipfjdogokanbaaGreatDoor.Pr
set_option linter.all false
namespace Go.Proofs.YtipfjdogokanbaaGreatDoor.Pr
open Go.RowKit Go.Sort
def lnX (x:In):List UInt8:=lnT (Qd (Qb x.op)) x
theorem QK (x:Int):Ji x=true ↔ 0<=x/\x<=4294967295:=by simp [Ji]
theorem s8_c (x:In)(la:Option Addr)(lc:Nat)(w:World)(hg:gd x=true)(hv0:0<=x.v)(hv1:x.v<=18446744073709551615)(hn:x.l.length<=1048576)(hH:Has w la x.l) :
    Calls Tryz.prog 94 #[inV x la lc] w λe w'=>e=.returned (.string (S (lnX x)))/\Below w.heap.size w w':=by
 obtain ⟨op,a,b,v,l⟩:=x
 simp only [gd,lnX] at *
 rcases QA op with h|h|h|h|h|h|h|h|h|h|h|h
 . rw [h] at hg;simp [Qg] at hg
 . rw [h];exact s8_0 op a b v l la lc w h
 . rw [h]
   by_cases ha:a=64
   . subst ha;exact s8_1 op b v l la lc w h
   . exact s8_1n op a b v l la lc w h ha
 . rw [h] at hg⊢
   simp [Qg,QK] at hg
   exact s8_2 op a b v l la lc w h (by omega) (by omega)
 . rw [h] at hg⊢
   simp [Qg,QK] at hg
   refine s8_3 op a b v l la lc w h (by omega) (by omega) hn (λi hi=>?_) hH
   have:=hg.1.1.1 (l.getD i 0) (by simp [List.getD,hi])
   omega
 . rw [h] at hg⊢
   simp [Qg,QK] at hg
   exact s8_4 op a b v l la lc w h (by omega) (by omega)
 . rw [h] at hg⊢
   simp [Qg,QK] at hg
   exact s8_5 op a b v l la lc w h (by omega) (by omega) (by omega) (by omega)
 . rw [h];exact s8_6 op a b v l la lc w h
 . rw [h] at hg⊢
   simp [Qg,QK] at hg
   exact s8_7 op a b v l la lc w h hv0 (by omega)
 . rw [h];exact s8_8 op a b v l la lc w h hv0 hv1
 . rw [h];exact s8_9 op a b v l la lc w h hv0 hv1
 . rw [h];exact s8_10 op a b v l la lc w h hv0 hv1
def JH (x:In):List Int:=if gd x then bI (lnX x) else []
theorem bytesOf_S (l:List UInt8):Qv (S l)=bI l:=by simp [Qv,bI,S]
end Go.Proofs.YtipfjdogokanbaaGreatDoor.Pr
set_option linter.all false
namespace Go.Proofs.YtipfjdogokanbaaGreatDoor.Pr
open Go.RowKit Go.Sort
def Vs (w:World):Prop:=w.cell? ⟨5,15,none⟩=some (.int .u8 4)/\Lib.TabBelow Tryz.prog w.heap.size w "internal/strconv.uint64pow10" .u64 Lib.pow10Tab
theorem Vs.keep {w w':World}(h:Vs w)(hb:Below w.heap.size w w'):Vs w' :=
 ⟨(hb.cell (p:=⟨5,15,none⟩) (World.block_lt_of_cell? w _ h.1)).trans h.1,λw2 h2=>h.2 w2 (hb.trans (h2.mono hb.size))⟩
theorem num_c (x:Int)(w:World)(h0:-9223372036854775808<=x)(h1:x<=9223372036854775807)(hV:Vs w) :
    Calls Tryz.prog 113 #[.int .i64 x] w λe w'=>e=.returned (.string (S (Lib.itoa x)))/\Below w.heap.size w w':=by
 have K:=Hm (Tryz.strconv_FormatInt_10 x h0 h1 w hV.2.here);clear hV
 go_enter Tryz.func113,Tryz.ntmps113
 go_wp2_with fail
 refine K.o.mono ?_
 rintro e w1 ⟨rfl,k,os,hw⟩;have HB:Hid (Below w.heap.size w w1):=by show Below _ _ _;rw [hw];exact Lib.below_grow _ _ (Nat.le_refl _) k os
 clear hw K
 go_wp2
 go_ret
 exact ⟨rfl,HB.o⟩
theorem types_c (w:World):Calls Tryz.prog 123 #[] w λe w'=>e=.returned (.slice (some ⟨w.heap.size,0,none⟩) 4 4)/\w'=w.alloc (.cells #[.string ⟨#[105,51,50]⟩,.int .i64 127,.string ⟨#[105,54,52]⟩,.int .i64 126,.string ⟨#[102,51,50]⟩,.int .i64 125,.string ⟨#[102,54,52]⟩,.int .i64 124] 210):=by
 go_enter Tryz.func123,Tryz.ntmps123
 go_wp2
 go_ret
 exact ⟨rfl,rfl⟩
theorem of_127 (w:World):Calls Tryz.prog 152 #[.slice (some ⟨w.heap.size,0,none⟩) 4 4,.int .i64 127] (w.alloc (.cells #[.string ⟨#[105,51,50]⟩,.int .i64 127,.string ⟨#[105,54,52]⟩,.int .i64 126,.string ⟨#[102,51,50]⟩,.int .i64 125,.string ⟨#[102,54,52]⟩,.int .i64 124] 210)) λe w'=>e=.returned (.string (S [105,51,50]))/\Below w.heap.size w w':=by
 have B0:=Hm (show Below w.heap.size w (w.alloc (.cells #[.string ⟨#[105,51,50]⟩,.int .i64 127,.string ⟨#[105,54,52]⟩,.int .i64 126,.string ⟨#[102,51,50]⟩,.int .i64 125,.string ⟨#[102,54,52]⟩,.int .i64 124] 210)) from (Below.refl _ _).alloc (Nat.le_refl _) _)
 go_enter Tryz.func152,Tryz.ntmps152
 go_wp2
 refine wp_loop_rounds 1 ?_
 rw [rounds_succ]
 go_wp2
 go_ret
 exact ⟨rfl,by repeat' (first|exact B0.o|refine Below.alloc ?_ (by first|(simp;done)|(simp;omega)) _)⟩
theorem of_126 (w:World):Calls Tryz.prog 152 #[.slice (some ⟨w.heap.size,0,none⟩) 4 4,.int .i64 126] (w.alloc (.cells #[.string ⟨#[105,51,50]⟩,.int .i64 127,.string ⟨#[105,54,52]⟩,.int .i64 126,.string ⟨#[102,51,50]⟩,.int .i64 125,.string ⟨#[102,54,52]⟩,.int .i64 124] 210)) λe w'=>e=.returned (.string (S [105,54,52]))/\Below w.heap.size w w':=by
 have B0:=Hm (show Below w.heap.size w (w.alloc (.cells #[.string ⟨#[105,51,50]⟩,.int .i64 127,.string ⟨#[105,54,52]⟩,.int .i64 126,.string ⟨#[102,51,50]⟩,.int .i64 125,.string ⟨#[102,54,52]⟩,.int .i64 124] 210)) from (Below.refl _ _).alloc (Nat.le_refl _) _)
 go_enter Tryz.func152,Tryz.ntmps152
 go_wp2
 refine wp_loop_rounds 2 ?_
 rw [rounds_succ]
 go_wp2
 rw [rounds_succ]
 go_wp2
 go_ret
 exact ⟨rfl,by repeat' (first|exact B0.o|refine Below.alloc ?_ (by first|(simp;done)|(simp;omega)) _)⟩
theorem of_125 (w:World):Calls Tryz.prog 152 #[.slice (some ⟨w.heap.size,0,none⟩) 4 4,.int .i64 125] (w.alloc (.cells #[.string ⟨#[105,51,50]⟩,.int .i64 127,.string ⟨#[105,54,52]⟩,.int .i64 126,.string ⟨#[102,51,50]⟩,.int .i64 125,.string ⟨#[102,54,52]⟩,.int .i64 124] 210)) λe w'=>e=.returned (.string (S [102,51,50]))/\Below w.heap.size w w':=by
 have B0:=Hm (show Below w.heap.size w (w.alloc (.cells #[.string ⟨#[105,51,50]⟩,.int .i64 127,.string ⟨#[105,54,52]⟩,.int .i64 126,.string ⟨#[102,51,50]⟩,.int .i64 125,.string ⟨#[102,54,52]⟩,.int .i64 124] 210)) from (Below.refl _ _).alloc (Nat.le_refl _) _)
 go_enter Tryz.func152,Tryz.ntmps152
 go_wp2
 refine wp_loop_rounds 3 ?_
 rw [rounds_succ]
 go_wp2
 rw [rounds_succ]
 go_wp2
 rw [rounds_succ]
 go_wp2
 go_ret
 exact ⟨rfl,by repeat' (first|exact B0.o|refine Below.alloc ?_ (by first|(simp;done)|(simp;omega)) _)⟩
theorem of_124 (w:World):Calls Tryz.prog 152 #[.slice (some ⟨w.heap.size,0,none⟩) 4 4,.int .i64 124] (w.alloc (.cells #[.string ⟨#[105,51,50]⟩,.int .i64 127,.string ⟨#[105,54,52]⟩,.int .i64 126,.string ⟨#[102,51,50]⟩,.int .i64 125,.string ⟨#[102,54,52]⟩,.int .i64 124] 210)) λe w'=>e=.returned (.string (S [102,54,52]))/\Below w.heap.size w w':=by
 have B0:=Hm (show Below w.heap.size w (w.alloc (.cells #[.string ⟨#[105,51,50]⟩,.int .i64 127,.string ⟨#[105,54,52]⟩,.int .i64 126,.string ⟨#[102,51,50]⟩,.int .i64 125,.string ⟨#[102,54,52]⟩,.int .i64 124] 210)) from (Below.refl _ _).alloc (Nat.le_refl _) _)
 go_enter Tryz.func152,Tryz.ntmps152
 go_wp2
 refine wp_loop_rounds 4 ?_
 rw [rounds_succ]
 go_wp2
 rw [rounds_succ]
 go_wp2
 rw [rounds_succ]
 go_wp2
 rw [rounds_succ]
 go_wp2
 go_ret
 exact ⟨rfl,by repeat' (first|exact B0.o|refine Below.alloc ?_ (by first|(simp;done)|(simp;omega)) _)⟩
theorem typ_c (t:Int)(w:World)(h:t=127\/t=126\/t=125\/t=124):Calls Tryz.prog 112 #[.int .i64 t] w λe w'=>e=.returned (.string (S (typT t)))/\Below w.heap.size w w':=by
 have K:Hid (Calls Tryz.prog 152 #[.slice (some ⟨w.heap.size,0,none⟩) 4 4,.int .i64 t] (w.alloc (.cells #[.string ⟨#[105,51,50]⟩,.int .i64 127,.string ⟨#[105,54,52]⟩,.int .i64 126,.string ⟨#[102,51,50]⟩,.int .i64 125,.string ⟨#[102,54,52]⟩,.int .i64 124] 210)) λe w'=>e=.returned (.string (S (typT t)))/\Below w.heap.size w w'):=by
  show Calls _ _ _ _ _
  rcases h with rfl|rfl|rfl|rfl
  . exact of_127 w
  . exact of_126 w
  . exact of_125 w
  . exact of_124 w
 have K0:=Hm (types_c w);clear h
 go_enter Tryz.func112,Tryz.ntmps112
 go_wp2_with fail
 refine K0.o.mono ?_
 rintro e w1 ⟨rfl,rfl⟩
 go_wp2_with fail
 refine K.o.mono ?_
 rintro e w2 ⟨rfl,hb⟩
 go_wp2
 go_ret
 exact ⟨rfl,hb⟩
end Go.Proofs.YtipfjdogokanbaaGreatDoor.Pr
set_option linter.all false
namespace Go.Proofs.YtipfjdogokanbaaGreatDoor.Pr
open Go.Proofs.YtipfjdogokanbaaGreatDoor.Yz (tz16_c pow2_c hxA hxA_at hxA_set hx36_at k14 hxA_cell sl_c fmt16_c ifu_c fu_c)
open Go.RowKit Go.Sort
theorem bits_c (u n:Nat)(w:World)(hn1:1<=n)(hn:n<=16)(hu:u<16 ^ n)(hV:Vs w) :
    Calls Tryz.prog 115 #[.int .u64 (u:Int),.int .i64 (n:Int)] w λe w'=>e=.returned (.string (S (QF n u)))/\Below w.heap.size w w':=by
 have h64:u<18446744073709551616:=by
  have h1:16 ^ n<=16 ^ 16:=Nat.pow_le_pow_right (by omega) hn;have h2:(16:Nat) ^ 16=18446744073709551616:=by decide
  rw [h2] at h1
  omega
 have K:=Hm (fu_c u w h64 hV.1)
 have hl:(Xo u).length<=n:=by
  obtain ⟨m,rfl⟩:∃ m,n=m+1:=⟨n-1,by omega⟩
  exact (hexD_spec m u hu).1
 have HE:Hid ([48,120]++Lib.repeatL [48] (n-(Xo u).length)++Xo u=QF n u):=by
  show _=_
  obtain ⟨m,rfl⟩:∃ m,n=m+1:=⟨n-1,by omega⟩
  exact bits_eq m u hu
 generalize QF n u=M at *;generalize Xo u=L at *;obtain ⟨c,hc⟩:∃ c,c=n-L.length:=⟨_,rfl⟩;rw [<- hc] at HE;have KR:=Hm (λw=>Tryz.strings_Repeat ⟨#[48]⟩ c w (by omega) (by show 1*c<=_;omega));rw [show (⟨#[48]⟩:ByteArray).data.toList=[48] from rfl] at KR;have hrl:(Lib.repeatL [48] c).length=c:=by rw [repeat_eq];simp
 generalize Lib.repeatL [48] c=R at *;rw [show (⟨R.toArray⟩:ByteArray)=S R from rfl] at KR;have hw:IntKind.i64.wrap ((n:Int)-((S L).size:Int))=(c:Int):=by rw [IntKind.wrap_i64,Qn];omega
 have q1:¬ 9223372036854775807<2+(S R).size:=by rw [Qn];omega
 have q2:¬ 9223372036854775807<2+(S R).size+(S L).size:=by rw [Qn,Qn];omega
 clear hV hu hc
 go_enter Tryz.func115,Tryz.ntmps115
 go_wp2_with fail
 refine K.o.mono ?_
 rintro e w1 ⟨rfl,hb⟩;have HB:=Hm hb;clear K hb
 go_wp2_with fail
 refine (KR.o _).mono ?_
 rintro e w2 ⟨rfl,hb⟩;have HB2:=Hm (HB.o.trans (hb.mono HB.o.size));clear hb
 go_wp2
 go_ret
 exact ⟨by rw [<- HE.o,<- S_app,<- S_app];rfl,HB2.o⟩
def Sv (r:List (List UInt8)):List Value:=r.map (λx=>.string (S x))
theorem Tryz.info9:(Tryz.prog.info? 9).map (λi=>(i.zero,i.size,i.bytes))=some (some (.string ⟨#[]⟩),1,16):=by kernel_rfl
theorem oneS (s:ByteArray):∀ u ∈ [Value.string s],u.oneCell'=true:=by
 intro u hu;simp at hu;subst hu;rfl
theorem each_c (l:List Int)(la:Option Addr)(lc:Nat)(w:World)(hn:l.length<=1048576)(hu:∀ i,i<l.length->-9223372036854775808<=l.getD i 0/\l.getD i 0<=9223372036854775807)(hH:Has w la l)(hV:Vs w) :
    Calls Tryz.prog 114 #[.slice la l.length lc,.func (.func 113) #[] #[]] w λe w'=>∃ v,e=.returned v/\w'.ownsRow w.heap.size 9 1 v l.length (Sv (l.map Lib.itoa))/\Below w.heap.size w w':=by
 obtain ⟨i0,hi,hz0,hz1,hz2⟩:=info_parts Tryz.info9;have HU:=Hm hu;have HH:=Hm hH;have HV:=Hm hV;clear hu hH hV
 go_enter Tryz.func114,Tryz.ntmps114
 go_wp2_with fail
 go_loopw [5,10] (λv i wr=>∃ k:Nat,k<=l.length/\i=.int .i64 k/\wr.ownsRow w.heap.size 9 1 v k (Sv ((l.take k).map Lib.itoa))/\Below w.heap.size w wr) (λ_ i _=>l.length-(intOf i).toNat)
 case atStart=>exact ⟨0,Nat.zero_le _,rfl,by simpa [Sv] using World.ownsRow_nil _ _ _ _,Below.refl _ _⟩
 case round =>
  obtain ⟨k,hk,rfl,ho,hb⟩:=hrel
  by_cases hlt:k<l.length
  . have hki:(k:Int)<(l.length:Int):=by omega
    rcases HH.o.keep hb with hx|⟨b1,o1,ea,hc⟩
    . subst hx;simp at hlt
    have d:=hc k hlt;subst ea;obtain ⟨u0,u1⟩:=HU.o k hlt
    have HS:Hid (Sv ((l.take (k+1)).map Lib.itoa)=Sv ((l.take k).map Lib.itoa)++[.string (S (Lib.itoa (l.getD k 0)))]):=by
     show _=_
     rw [List.take_add_one,List.getElem?_eq_getElem hlt];rw [show l.getD k 0=l[k] by simp [List.getD,hlt]]
     simp only [Sv,Option.toList,List.map_append,List.map_cons,List.map_nil]
    generalize hy:l.getD k 0=y at *;have KO:=Hm (num_c y wr u0 u1 (HV.o.keep hb));generalize Lib.itoa y=L at *;generalize Sv ((l.take k).map Lib.itoa)=pre at *;have HB:=Hm hb;have HO:=Hm ho;clear hb hc hy HH HU ho HV
    go_wp2_with (first
     | (go_at_call 113
        refine (KO.o).mono ?_
        rintro e w2 ⟨rfl,hb2⟩;have O2:=Hm (Qx HO.o hb2 (Nat.le_refl _));have B2:=Hm (HB.o.trans (hb2.mono HB.o.size));clear hb2 KO)
     | (at_builtin
        refine wpList_append_own _ rfl _ _ 71 rfl w.heap.size 9 i0 (.string ⟨#[]⟩) 1 16 Tryz.underlying71 hi hz0 hz1 hz2 rfl (by decide) _ _ _ rfl (O2.o.alloc _) ⟨w2.heap.size,0,none⟩ 1 1 [.string (S L)] rfl rfl (cell_one_new _ _ _) (oneS _) (by unfold maxLen;omega) (by omega) (by have:=B2.o.size;simp;omega) ?_
        intro v3 w3 own3 gr3 hnn
        have HO3:=Hm own3;have HB3:=Hm ((B2.o.alloc B2.o.size _).grown gr3 (by have:=B2.o.size;simp;omega) (fun t ht=>(O2.o.lt t ht).1));clear own3 gr3 hnn))
    go_roundw
    case rel=>exact ⟨k+1,by omega,by go_num,by rw [HS.o];exact HO3.o,HB3.o⟩
    case measure=>simp [intOf];omega
  . have e:k=l.length:=by omega
    subst e;have HB:=Hm hb;have HO:=Hm ho;clear hb HH HU ho
    go_wp2
    go_ret
    refine ⟨_,rfl,?_,HB.o⟩
    have h:=HO.o;rw [List.take_length] at h
    exact h
end Go.Proofs.YtipfjdogokanbaaGreatDoor.Pr
