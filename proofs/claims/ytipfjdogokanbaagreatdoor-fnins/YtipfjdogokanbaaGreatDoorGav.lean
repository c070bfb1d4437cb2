import Derived.Test.YtipfjdogokanbaaGreatDoorGae
import Derived.Test.YtipfjdogokanbaaGreatDoorGaf
import Derived.Laws.AppendOwn
import Derived.Laws.OwnMore
import Derived.OwnWalk
import Derived.Deep.RegionLaw
import Derived.Test.YtipfjdogokanbaaGreatDoorGaa
import Derived.Test.YtipfjdogokanbaaGreatDoorGah
set_option linter.all false
set_option maxHeartbeats 400000000
set_option maxRecDepth 100000
set_option linter.all false
namespace Go.Proofs.YtipfjdogokanbaaGreatDoor.Pr
open Go.RowKit Go.Sort
theorem Qw {w:World}{B e:Nat}{v:Value}{n:Nat}{zs:List Value}(h:w.ownsRow B e 1 v n zs):∃ a c,v=.slice a n c:=by
 rcases h.2 with ⟨e,h0⟩|⟨g,cap,cur,hv,_⟩
 . rw [h0];exact ⟨_,_,e⟩
 . exact ⟨_,_,hv⟩
theorem Qs {w:World}{B e:Nat}{v u:Value}{n b o:Nat}{zs:List Value}(h:w.ownsRow B e 1 v n zs)(hb:v.ownBlock≠some b):(w.setCell ⟨b,o,none⟩ u).ownsRow B e 1 v n zs:=by
 refine ⟨h.1,?_⟩
 rcases h.2 with h0|⟨g',cap',cur,hv,hB,hh,r⟩
 . exact .inl h0
 . subst hv
   exact .inr ⟨g',cap',cur,rfl,hB,(Below.heap_setCell _ _ _ _ (λe=>hb (by simp [Value.ownBlock,e]))).trans hh,r⟩
theorem Qx {w w':World}{B C e n:Nat}{v:Value}{xs:List Value}(h:w.ownsRow B e 1 v n xs)(hb:Below C w w')(hg:w.heap.size<=C):w'.ownsRow B e 1 v n xs:=by
 refine ⟨h.1,?_⟩
 rcases h.2 with h0|⟨g,cap,cur,hv,hB,hh,r⟩
 . exact .inl h0
 . subst hv
   exact .inr ⟨g,cap,cur,rfl,hB,(hb.block g (by have:=(h.lt g rfl).2;omega)).trans hh,r⟩
theorem Q8 {w:World}{B B' e n:Nat}{v:Value}{zs:List Value}(h:w.ownsRow B e 1 v n zs)(hB:B'<=B):w.ownsRow B' e 1 v n zs:=by
 refine ⟨h.1,?_⟩
 rcases h.2 with h0|⟨g,cap,cur,hv,hB',r⟩
 . exact .inl h0
 . exact .inr ⟨g,cap,cur,hv,by omega,r⟩
theorem QG {P:Program}{w:World}{ops:Array Oper}{o:Oper}{a:Act}{K:Act->World->Prop}{Q:Exit->Act->World->Prop}{E:Prop}(hgd:o.guard=none)(s x:Operand)(t:TypeId)
    (ho:o.op=.call { callee:=.builtin .append,args:=#[s,x],argTypes:=#[t,t] })
    (base:Nat) (e:TypeId) (i:TypeInfo) (z:Value) (size bytes:Nat) (ht:P.underlying t=some (.slice e)) (hi:P.info? e=some i) (hz:i.zero=some z)
    (hsize:i.size=size) (hby:i.bytes=bytes) (hzs:z.cells.size=size) (hsz:0<size)
    (v:Value) (n:Nat) (xs:List Value) (hs:a.eval s=v) (hown:w.ownsRow base e size v n xs)
    (ad:Addr) (m c:Nat) (news:List Value) (hx:a.eval x=.slice (some ad) m c) (hl:news.length=m*size) (hn:∀ j u,news[j]?=some u->w.cell? (ad.add j)=some u) (h1:∀ u ∈ news,u.oneCell'=true)
    (h63:n+m<=maxLen) (hbytes:(n+m)*bytes<=140737488355328) (hbase:base<=w.heap.size)
    (h:∀ v' w',w'.ownsRow base e size v' (n+m) (xs++news)->w.grownBy w' v.ownBlock->(v'.ownBlock=v.ownBlock\/v'.ownBlock=some w.heap.size)->K (a.put o.dst v') w') :
    if Region.wanted o (yielded ops a.tmps)=true then Oper.wp P o a w K Q else E:=by
 have hw:Region.wanted o (yielded ops a.tmps)=true:=by simp [Region.wanted,hgd]
 rw [if_pos hw];obtain ⟨v',w',hr,h2,h3,h4,h5⟩:=run_append_own_at (P:=P) w base t o.type e i z size bytes ht hi hz hsize hby hzs hsz v n xs hown ad m c news hl hn h1 h63 hbytes hbase;unfold Oper.wp execOp
 simp only [ho,resolve,invoke,builtin,Sem.run_bind,Sem.run_pure,Result.andThen_ok,List.map_toArray,List.map_cons,List.map_nil,hs,hx,hr]
 exact h v' w' h2 h3 h5
end Go.Proofs.YtipfjdogokanbaaGreatDoor.Pr
namespace Go.Proofs.YtipfjdogokanbaaGreatDoor.Pr
open Go.RowKit Go.Sort
end Go.Proofs.YtipfjdogokanbaaGreatDoor.Pr
namespace Go.Proofs.YtipfjdogokanbaaGreatDoor.By
open Go.RowKit
end Go.Proofs.YtipfjdogokanbaaGreatDoor.By
namespace Go.Proofs.YtipfjdogokanbaaGreatDoor.Pr
open Go.RowKit Go.Sort
end Go.Proofs.YtipfjdogokanbaaGreatDoor.Pr
namespace Go.Proofs.YtipfjdogokanbaaGreatDoor.Pr
open Go.RowKit Go.Sort
end Go.Proofs.YtipfjdogokanbaaGreatDoor.Pr
set_option linter.all false
namespace Go.Proofs.YtipfjdogokanbaaGreatDoor.Pr
open Go.RowKit Go.Sort
def P2 (n:Int):Int:=2 ^ n.toNat
theorem Q7 (n:Int):1<=P2 n:=by unfold P2;have:=Int.pow_pos (n:=(2:Int)) (m:=n.toNat) (by omega);omega
theorem Xx (n:Int)(h:0<=n):P2 (n+1)=2*P2 n:=by
 unfold P2;rw [show (n+1).toNat=n.toNat+1 by omega,Int.pow_succ];omega
theorem J4 {m n:Int}(h0:m<=n):P2 m<=P2 n:=by
 unfold P2;have h:2 ^ m.toNat<=2 ^ n.toNat:=Nat.pow_le_pow_right (by omega) (by omega);have h':((2 ^ m.toNat:Nat):Int)<=((2 ^ n.toNat:Nat):Int):=by omega
 simpa using h'
theorem P2_62 {n:Int}(h:n<=62):P2 n<=4611686018427387904:=by
 have:=J4 h;rw [show P2 62=4611686018427387904 by decide] at this;exact this
theorem Qm (n:Int)(w:World)(h0:0<=n)(h1:n<=63) :
    Calls Tryz.prog 101 #[.int .i64 n] w λe w'=>e=.returned (.int .u64 (P2 n))/\w=w':=by
 go_enter Tryz.func101,Tryz.ntmps101
 go_wp2
 go_loop [3,4] (λx i=>∃ k:Int,0<=k/\k<=n/\i=.int .i64 k/\x=.int .u64 (P2 k)) (λ_ i=>(n-intOf i).toNat)
 case atStart=>exact ⟨0,by omega,h0,rfl,rfl⟩
 case round =>
  obtain ⟨k,hk0,hk,rfl,rfl⟩:=hrel;have hp:=Q7 k
  by_cases hlt:k<n
  . have hb:=P2_62 (n:=k) (by omega);have HS:Hid (P2 (k+1)=2*P2 k):=Xx k hk0
    go_wp2
    go_round
    case rel=>exact ⟨k+1,by omega,by omega,rfl,by rw [HS.o,Int.mul_comm]⟩
    case measure=>simp [intOf];omega
  . have e:k=n:=by omega
    subst e
    go_wp2
    go_ret
    exact ⟨rfl,rfl⟩
theorem Xh (x:Int)(w:World)(h0:0<=x)(h1:x<=18446744073709551615):Calls Tryz.prog 44 #[.int .u64 x,.int .i64 32] w λe w'=>e=.returned (.int .u64 (x%4294967296))/\w=w':=by
 have hp:P2 32=4294967296:=by decide
 go_enter Tryz.func44,Tryz.ntmps44
 go_wp2_with (go_at_call 101;refine (Qm _ _ (by omega) (by omega)).mono ?_;rintro e w' ⟨rfl,rfl⟩)
 go_ret
 exact ⟨rfl,rfl⟩
theorem signed32 (x:Int)(w:World)(h0:0<=x)(h1:x<=4294967295):Calls Tryz.prog 66 #[.int .u64 x,.int .i64 32] w λe w'=>e=.returned (.int .i64 (wrap32 x))/\w=w':=by
 have hx:x%4294967296=x:=by omega
 have hp:P2 32=4294967296:=by decide
 have hq:P2 31=2147483648:=by decide
 by_cases h:2147483648<=x
 . have e:wrap32 x=x-4294967296:=by simp only [wrap32];omega
   rw [e];clear e
   go_enter Tryz.func66,Tryz.ntmps66
   go_wp2_with (first|(go_at_call 44;refine (Xh _ _ (by omega) (by omega)).mono ?_;rintro e w' ⟨rfl,rfl⟩)|(go_at_call 101;refine (Qm _ _ (by omega) (by omega)).mono ?_;rintro e w' ⟨rfl,rfl⟩))
   go_ret
   exact ⟨rfl,rfl⟩
 . have e:wrap32 x=x:=by simp only [wrap32];omega
   rw [e];clear e
   go_enter Tryz.func66,Tryz.ntmps66
   go_wp2_with (first|(go_at_call 44;refine (Xh _ _ (by omega) (by omega)).mono ?_;rintro e w' ⟨rfl,rfl⟩)|(go_at_call 101;refine (Qm _ _ (by omega) (by omega)).mono ?_;rintro e w' ⟨rfl,rfl⟩))
   go_ret
   exact ⟨rfl,rfl⟩
end Go.Proofs.YtipfjdogokanbaaGreatDoor.Pr
set_option linter.all false
namespace Go.Proofs.YtipfjdogokanbaaGreatDoor.Pr
open Go.RowKit Go.Sort
theorem sDec_c (x:Int)(w:World)(h0:-9223372036854775808<=x)(h1:x<=9223372036854775807) :
    Calls Tryz.prog 131 #[.int .i64 x] w λe w'=>e=.returned (.string (S (Lib.itoa x)))/\Below w.heap.size w w':=by
 by_cases h:x<0
 . obtain ⟨n,rfl⟩:∃ n:Nat,x=-(n:Int):=⟨x.natAbs,by omega⟩;have hw1:IntKind.u64.wrap (-(n:Int))=18446744073709551616-(n:Int):=by rw [IntKind.wrap_u64];omega
   have hw2:IntKind.u64.wrap (-(18446744073709551616-(n:Int)))=(n:Int):=by rw [IntKind.wrap_u64];omega
   have K:=Hm (sUDec_c n n (Nat.le_refl _) (by omega) w)
   have HI:Hid (Lib.itoa (-(n:Int))=45::Lib.decDigits n):=by
    show _=_
    unfold Lib.itoa;rw [if_pos h]
    simp
   have hl:(Lib.decDigits n).length<=20:=dec_len n (by omega);have hz:¬ 9223372036854775807<1+(S (Lib.decDigits n)).size:=by rw [Qn];omega
   clear hl
   go_enter Tryz.func131,Tryz.ntmps131
   go_wp2_with fail
   refine K.o.mono ?_
   rintro e w1 ⟨rfl,hb⟩;have HB:=Hm hb;clear hb K
   go_wp2
   go_ret
   refine ⟨?_,HB.o⟩
   rw [HI.o,show (45::Lib.decDigits n)=[45]++Lib.decDigits n from rfl,<- S_app]
   rfl
 . obtain ⟨n,rfl⟩:∃ n:Nat,x=(n:Int):=⟨x.toNat,by omega⟩;have hw1:IntKind.u64.wrap (n:Int)=(n:Int):=by rw [IntKind.wrap_u64];omega
   have K:=Hm (sUDec_c n n (Nat.le_refl _) (by omega) w)
   have HI:Hid (Lib.itoa (n:Int)=Lib.decDigits n):=by
    show _=_
    unfold Lib.itoa;rw [if_neg h]
    simp
   go_enter Tryz.func131,Tryz.ntmps131
   go_wp2_with fail
   refine K.o.mono ?_
   rintro e w1 ⟨rfl,hb⟩;have HB:=Hm hb;clear hb K
   go_wp2
   go_ret
   exact ⟨by rw [HI.o];rfl,HB.o⟩
def nmT (l:List Int):List UInt8:=tl (l.map Lib.itoa)
theorem nmT_step (l:List Int)(k:Nat)(h:k<l.length):nmT (l.take (k+1))=nmT (l.take k)++32::Lib.itoa (l.getD k 0):=by
 rw [List.take_add_one,List.getElem?_eq_getElem h]
 simp only [nmT,Option.toList,List.map_append,tl_app,List.map_cons,List.map_nil,XW,Gq,List.append_nil]
 simp [List.getD,List.getElem?_eq_getElem h]
theorem nmT_len (l:List Int)(h:∀ i,i<l.length->-9223372036854775808<=l.getD i 0/\l.getD i 0<=9223372036854775807)(k:Nat):(nmT (l.take k)).length<=l.length*22:=by
 have:=tl_len 21 ((l.take k).map Lib.itoa) (fun x hx=>by
  simp only [List.mem_map] at hx
  obtain ⟨y,hy,rfl⟩:=hx;obtain ⟨i,hi,e⟩:=List.getElem_of_mem (List.mem_of_mem_take hy)
  have:=h i hi
  rw [show l.getD i 0=y by simp [List.getD,List.getElem?_eq_getElem hi,e]] at this
  exact JE y this.1 this.2)
 refine Nat.le_trans this ?_
 simp only [List.length_map,List.length_take]
 exact Nat.mul_le_mul_right _ (Nat.min_le_right _ _)
theorem sNums_c (l:List Int)(la:Option Addr)(lc:Nat)(w:World)(hn:l.length<=1048576)(hu:∀ i,i<l.length->-9223372036854775808<=l.getD i 0/\l.getD i 0<=9223372036854775807)(hH:Has w la l) :
    Calls Tryz.prog 132 #[.slice la l.length lc] w λe w'=>e=.returned (.string (S (nmT l)))/\Below w.heap.size w w':=by
 have HU:=Hm hu;have HH:=Hm hH;clear hu hH
 go_enter Tryz.func132,Tryz.ntmps132
 go_wp2_with fail
 go_loopw [3,4] (λv i wr=>∃ k:Nat,k<=l.length/\i=.int .i64 k/\v=.string (S (nmT (l.take k)))/\Below w.heap.size w wr) (λ_ i _=>l.length-(intOf i).toNat)
 case atStart=>exact ⟨0,Nat.zero_le _,rfl,rfl,Below.refl _ _⟩
 case round =>
  obtain ⟨k,hk,rfl,rfl,hb⟩:=hrel
  by_cases hlt:k<l.length
  . have hki:(k:Int)<(l.length:Int):=by omega
    rcases HH.o.keep hb with hx|⟨b1,o1,ea,hc⟩
    . subst hx;simp at hlt
    have d:=hc k hlt;subst ea;obtain ⟨u0,u1⟩:=HU.o k hlt;have HS:=Hm (nmT_step l k hlt);have hlk:=nmT_len l HU.o k;generalize hy:l.getD k 0=y at *;have KO:=Hm (sDec_c y wr u0 u1);have hyl:=JE y u0 u1;generalize Lib.itoa y=L at *;generalize hpre:nmT (l.take k)=pre at *;have q1:¬ 9223372036854775807<(S pre).size+1:=by rw [Qn];omega
    have q2:¬ 9223372036854775807<(S pre).size+1+(S L).size:=by rw [Qn,Qn];omega
    have HB:=Hm hb;clear hb hc hy hpre HH HU hlk hyl
    go_wp2_with fail
    refine (KO.o).mono ?_
    rintro e w2 ⟨rfl,hb2⟩;have B2:=Hm (HB.o.trans (hb2.mono HB.o.size));clear hb2 KO
    go_wp2_with fail
    go_roundw
    case rel=>exact ⟨k+1,by omega,by go_num,by rw [HS.o,show (pre++32::L)=(pre++[32])++L by simp,<- S_app,<- S_app];rfl,B2.o⟩
    case measure=>simp [intOf];omega
  . have e:k=l.length:=by omega
    subst e;have HB:=Hm hb;clear hb HH HU
    go_wp2
    go_ret
    exact ⟨by rw [List.take_length];rfl,HB.o⟩
end Go.Proofs.YtipfjdogokanbaaGreatDoor.Pr
set_option linter.all false
namespace Go.Proofs.YtipfjdogokanbaaGreatDoor.Pr
open Go.RowKit Go.Sort
def bI (l:List UInt8):List Int:=l.map (λb=>(b.toNat:Int))
theorem bI_len (l:List UInt8):(bI l).length=l.length:=by simp [bI]
theorem bI_app (l m:List UInt8):bI (l++m)=bI l++bI m:=by simp [bI]
theorem hexN_get:∀ (n u k:Nat),k<n->(Jo n u)[k]?=some (hx (u / 16 ^ (n-1-k)%16))
|0,_,_,h=>by omega
|n+1,u,0,_=>by rw [Xz];simp
|n+1,u,k+1,h=>by
  rw [Xz,List.getElem?_cons_succ,hexN_get n u k (by omega)];rw [show n+1-1-(k+1)=n-1-k by omega]
theorem hexN_take (n u k:Nat)(h:k<n):(Jo n u).take (k+1)=(Jo n u).take k++[hx (u / 16 ^ (n-1-k)%16)]:=by
 rw [List.take_add_one,hexN_get n u k h]
 rfl
theorem P2_16 (i:Nat):P2 (4*(i:Int))=((16 ^ i:Nat):Int):=by
 unfold P2;rw [show (4*(i:Int)).toNat=4*i by omega,Int.pow_mul]
 simp
theorem own_conv {w:World}{B:Nat}{v:Value}{l:List UInt8}(h:w.ownsRow B 5 1 v l.length (U (bI l)))(hl:1<=l.length):(convert 22 9 v).run Tryz.prog w=.ok (.string (S l)) w:=by
 obtain ⟨g,cap,rfl,_,_⟩:=By.Q1 h hl
 refine conv_c l g 0 cap w (λj hj=>?_)
 rw [Nat.zero_add,h.cellAt j (by omega)]
 simp [U,bI,hj]
theorem sHex_c (u n:Nat)(w:World)(hn1:1<=n)(hn:n<=16)(hu:u<18446744073709551616) :
    Calls Tryz.prog 133 #[.int .u64 (u:Int),.int .i64 (n:Int)] w λe w'=>e=.returned (.string (S (QF n u)))/\Below w.heap.size w w':=by
 obtain ⟨i0,hi,hz0,hz1,hz2⟩:=info_parts Tryz.info5;have hw0:IntKind.i64.wrap ((n:Int)-1)=(n:Int)-1:=by rw [IntKind.wrap_i64];omega
 go_enter Tryz.func133,Tryz.ntmps133
 go_wp2
 go_loopw [5,6] (λv i wr=>∃ k:Nat,k<=n/\i=.int .i64 ((n:Int)-1-k)/\wr.ownsRow w.heap.size 5 1 v ((Jo n u).take k).length (U (bI ((Jo n u).take k)))/\Below w.heap.size w wr) (λ_ i _=>(intOf i+1).toNat)
 case atStart=>exact ⟨0,Nat.zero_le _,by simp,World.ownsRow_lit w #[] 0 (Nat.le_refl _) (Nat.zero_le _) rfl,(Below.refl _ _).alloc (Nat.le_refl _) _⟩
 case round =>
  obtain ⟨k,hk,rfl,hown,hbel⟩:=hrel;have hsz:=hbel.size
  by_cases hlt:k<n
  . have HF:=Hm (hexN_take n u k hlt);obtain ⟨j,hj⟩:∃ j,j=n-1-k:=⟨_,rfl⟩;rw [<- hj] at HF;have hji:(n:Int)-1-k=(j:Int):=by omega
    rw [hji];have hge:(0:Int)<=(j:Int):=by omega
    have hwm:IntKind.i64.wrap (4*(j:Int))=4*(j:Int):=by rw [IntKind.wrap_i64];omega
    have KP:=Hm (λw=>Qm (4*(j:Int)) w (by omega) (by omega));rw [P2_16] at KP;have hp:0<16 ^ j:=Nat.pow_pos (by omega);have hpl:(16 ^ j:Nat)<=16 ^ 15:=Nat.pow_le_pow_right (by omega) (by omega);rw [show (16:Nat) ^ 15=1152921504606846976 by decide] at hpl;obtain ⟨p,hpe⟩:∃ p,p=16 ^ j:=⟨_,rfl⟩;rw [<- hpe] at HF KP hp hpl;have hd0:u / p<=u:=Nat.div_le_self _ _;obtain ⟨q,hq⟩:∃ q,q=u / p:=⟨_,rfl⟩;rw [<- hq] at HF hd0;have hquo:IntKind.u64.wrap ((u:Int) / (p:Int))=(q:Int):=by rw [IntKind.wrap_u64,hq,<- Int.natCast_ediv];omega
    have hquo':(u:Int) / (p:Int)=(q:Int):=by rw [hq,<- Int.natCast_ediv]
    have hq8:IntKind.u8.wrap (q:Int)=(q:Int)%256:=by rw [IntKind.wrap_u8]
    have KD:=Hm (λw=>sDigit_c (q%256) w (by omega));rw [show q%256%16=q%16 by omega,show ((q%256:Nat):Int)=(q:Int)%256 by omega] at KD;have hlf:((Jo n u).take k).length<=16:=by simp;omega
    generalize (Jo n u).take k=pre at *;have hbl:=bI_len pre;have HJ:=Hm hji;have hjl:j<=15:=by omega
    clear hq hpe hj hji
    go_wp2_with (first
    |(go_at_call 101;refine (KP.o _).mono ?_;rintro e w' ⟨rfl,rfl⟩)
    |(go_at_call 171;refine (KD.o _).mono ?_;rintro e w' ⟨rfl,rfl⟩)
     | (at_builtin;refine wpList_append_own _ rfl _ _ 22 rfl w.heap.size 5 i0 (.int .u8 0) 1 1 Tryz.underlying22 hi hz0 hz1 hz2 rfl (by decide) _ _ _ rfl (hown.alloc _) ⟨wr.heap.size,0,none⟩ 1 1 [.int .u8 ((hx (q%16)).toNat:Int)] rfl rfl (cell_one_new _ _ _) (oneB _) (by unfold maxLen;omega) (by omega) (by simp;omega) ?_;intro v' w1 hown' hgrow hnn;have HG:=Hm ((hbel.alloc hsz _).grown hgrow (by simp;omega) (fun t ht=>(hown.lt t ht).1));have HO:=Hm hown';clear hown' hgrow hown hbel hsz hnn))
    have HW:Hid (w1.ownsRow w.heap.size 5 1 v' (pre++[hx (q%16)]).length (U (bI (pre++[hx (q%16)])))):=by
     show World.ownsRow _ _ _ _ _ _ _
     have h:=HO.o;rw [show (pre++[hx (q%16)]).length=pre.length+1 by simp];rw [bI_app]
     simpa [U,bI] using h
    have hwj:IntKind.i64.wrap ((j:Int)-1)=(j:Int)-1:=by rw [IntKind.wrap_i64];omega
    go_wp2
    go_roundw
    case rel=>exact ⟨k+1,by omega,by have:=HJ.o;congr 1;push_cast;omega,by rw [HF.o];exact HW.o,HG.o⟩
    case measure=>have:=HJ.o;simp only [intOf];omega
  . have e:k=n:=by omega
    subst e;rw [List.take_of_length_le (by rw [Jw];exact Nat.le_refl _)] at hown;have hcv:=own_conv hown (by rw [Jw];exact hn1);have HB:=Hm hbel;have hz:¬ 9223372036854775807<2+(S (Jo k u)).size:=by rw [Qn,Jw];omega
    clear hown hbel
    go_wp2
    go_ret
    refine ⟨?_,HB.o⟩
    rw [QF,<- S_app]
    rfl
end Go.Proofs.YtipfjdogokanbaaGreatDoor.Pr

