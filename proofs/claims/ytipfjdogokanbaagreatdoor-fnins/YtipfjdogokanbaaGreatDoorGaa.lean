import Derived.Test.YtipfjdogokanbaaGreatDoorChecked
import Derived.WalkKit
import Derived.ProofKit
import Derived.WalkSpells
import Derived.WalkLawsBesides
import Derived.Below
import Derived.Deep.QuietTactic
import Derived.BigQuiet
import Derived.Lib.ItoaNum
import Derived.Lib.ItoaLen
import Derived.Lib.Join
import Derived.Lib.Repeat
import Derived.Deep.RegionWith
import Derived.Deep.RegionLaw
import Derived.Laws.IdiomStrings
import Derived.Laws.BitsAllLaws
set_option linter.all false
set_option maxHeartbeats 400000000
set_option maxRecDepth 100000
set_option linter.all false
namespace Go.Proofs.YtipfjdogokanbaaGreatDoor
open Go.RowKit
theorem Hid.mk' {p:Prop}(h:p):Hid p:=h
theorem _root_.Go.RowKit.Hid.o {p:Prop}(h:Hid p):p:=h
theorem Hm {p:Prop}(h:p):Hid p:=h
theorem eqI2 {P:Program}{t:TypeId}{ps rs:Array TypeId}{vd:Bool}(ht:P.underlying t=some (.func ps rs vd))(d:Nat)(w:World):(Op.equalIn (d+1) t .nilFunc .nilFunc).run P w=.ok true w:=by
 simp [Op.equalIn,run_underlying ht]
theorem eqF2 {P:Program}{t:TypeId}{ps rs:Array TypeId}{vd:Bool}(ht:P.underlying t=some (.func ps rs vd))(w:World):(binOp .eql t .nilFunc .nilFunc).run P w=.ok (.bool true) w:=by
 have e:(Op.equal t .nilFunc .nilFunc).run P w=.ok true w:=eqI2 ht 9999 w
 simp [binOp,e]
theorem Qi {w:World}{cs:Array Value}{e:TypeId}{g i:Nat}{u:Value}(hg:g=w.heap.size)(hu:cs[i]?=some u):(w.alloc (.cells cs e)).cell? ⟨g,i,none⟩=some u:=by
 subst hg
 simp [hu]
end Go.Proofs.YtipfjdogokanbaaGreatDoor
set_option linter.all false
namespace Go.Proofs.YtipfjdogokanbaaGreatDoor
def S (l:List UInt8):ByteArray:=⟨l.toArray⟩
theorem Qn (l:List UInt8):(S l).size=l.length:=by simp [S,ByteArray.size]
theorem S_app (l m:List UInt8):S l++S m=S (l++m):=by
 apply ByteArray.ext
 simp [S,ByteArray.data_append]
theorem S_data (b:ByteArray):S b.data.toList=b:=by apply ByteArray.ext;simp [S]
theorem QO (l:List UInt8):(S l).data.toList=l:=by simp [S]
def hx (k:Nat):UInt8:=if k<10 then UInt8.ofNat (48+k) else UInt8.ofNat (87+k)
def Xo (u:Nat):List UInt8:=if h:u<16 then [hx u] else Xo (u / 16)++[hx (u%16)]
termination_by u
decreasing_by omega
def Jo:Nat->Nat->List UInt8
|0,_=>[]
|n+1,u=>Jo n (u / 16)++[hx (u%16)]
theorem Jw:∀ n u,(Jo n u).length=n
|0,_=>rfl
|n+1,u=>by simp [Jo,Jw n]
theorem hexN_zero:∀ n,Jo n 0=List.replicate n 48
|0=>rfl
|n+1=>by
  rw [Jo,Nat.zero_div,hexN_zero n,List.replicate_succ']
  rfl
theorem hexD_spec:∀ (n u:Nat),u<16 ^ (n+1)->(Xo u).length<=n+1/\List.replicate (n+1-(Xo u).length) 48++Xo u=Jo (n+1) u
|0,u,h=>by
  have h:u<16:=by simpa using h
  rw [Xo,dif_pos h]
  simp [Jo,Nat.mod_eq_of_lt h]
|n+1,u,h=>by
  by_cases hu:u<16
  . rw [Xo,dif_pos hu]
    refine ⟨by simp,?_⟩
    rw [Jo,Nat.div_eq_of_lt hu,hexN_zero,Nat.mod_eq_of_lt hu]
    simp
  . obtain ⟨h1,h2⟩:=hexD_spec n (u / 16) (by rw [Nat.pow_succ] at h;omega);rw [Xo,dif_neg hu]
    refine ⟨by simp;omega,?_⟩
    rw [Jo,<- h2]
    simp
theorem Xz:∀ (n u:Nat),Jo (n+1) u=hx (u / 16 ^ n%16)::Jo n u
|0,u=>by simp [Jo]
|n+1,u=>by
  rw [Jo,Xz n (u / 16),Jo,Nat.div_div_eq_div_mul,Nat.pow_succ,Nat.mul_comm 16]
  rfl
theorem repeat_eq (n:Nat):Lib.repeatL [48] n=List.replicate n 48:=by
 induction n with
|zero=>rfl
|succ n ih=>rw [Lib.repeatL,ih,List.replicate_succ];rfl
def QF (n u:Nat):List UInt8:=[48,120]++Jo n u
theorem bits_eq (n u:Nat)(h:u<16 ^ (n+1)):[48,120]++Lib.repeatL [48] (n+1-(Xo u).length)++Xo u=QF (n+1) u:=by
 rw [repeat_eq,List.append_assoc,(hexD_spec n u h).2,QF]
def typT (t:Int):List UInt8:=if t=127 then [105,51,50] else if t=126 then [105,54,52] else if t=125 then [102,51,50] else [102,54,52]
theorem typT_len (t : Int) : (typT t).length = 3 := by unfold typT; repeat' split
                                                       all_goals rfl
def tl (r:List (List UInt8)):List UInt8:=Lib.joinTail [32] r
theorem Gq:tl []=[]:=rfl
theorem XW (x:List UInt8)(r:List (List UInt8)):tl (x::r)=32::x++tl r:=by simp [tl,Lib.joinTail]
theorem tl_app (r s:List (List UInt8)):tl (r++s)=tl r++tl s:=by simp [tl,Lib.joinTail]
theorem tl_len (k:Nat):∀ (r:List (List UInt8)),(∀ x ∈ r,x.length<=k)->(tl r).length<=r.length*(k+1)
|[],_=>by simp [Gq]
|x::r,h=>by
  have h1:=h x (by simp);have h2:=tl_len k r (λy hy=>h y (by simp [hy]));rw [XW]
  simp only [List.length_append,List.length_cons,Nat.succ_mul]
  omega
theorem dec_len (u:Nat)(h:u<=18446744073709551615):(Lib.decDigits u).length<=20:=by
 rw [Lib.decDigits_length]
 have hd:∀ k u,u<10 ^ k->1<=k->Lib.nDigits u<=k:=by
  intro k
  induction k with
 |zero=>intro u _ h;omega
 |succ k ih =>
   intro u h1 _
   rw [Lib.nDigits]
   split
   . omega
   . rename_i hu
     have hk:1<=k:=by
      rcases Nat.eq_zero_or_pos k with e|e
      . subst e;simp at h1;omega
      . exact e
     have:=ih (u / 10) (by rw [Nat.pow_succ] at h1;omega) hk
     omega
 exact hd 20 u (by omega) (by omega)
theorem JE (n:Int)(h0:-9223372036854775808<=n)(h1:n<=9223372036854775807):(Lib.itoa n).length<=21:=Lib.itoa_length_le n h0 h1
end Go.Proofs.YtipfjdogokanbaaGreatDoor
set_option linter.all false
namespace Go.Proofs.YtipfjdogokanbaaGreatDoor
open Go.RowKit
theorem conv_c (l:List UInt8)(b o c:Nat)(w:World)(hc:∀ j (hj:j<l.length),w.cell? ⟨b,o+j,none⟩=some (.int .u8 (l[j].toNat:Int))) :
    (convert 22 9 (.slice (some ⟨b,o,none⟩) l.length c)).run Tryz.prog w=.ok (.string (S l)) w :=
 run_convert_bytes_back w 22 9 5 ⟨b,o,none⟩ c l Tryz.underlying22 Tryz.underlying5 Tryz.underlying9 (fun j hj=>by
  rw [show (⟨b,o,none⟩:Addr).add j=⟨b,o+j,none⟩ by unfold Addr.add;split<;>simp_all]
  exact hc j hj)
def d8 (k:Nat):UInt8:=UInt8.ofNat k
theorem conv1 (k:Nat)(b c:Nat)(w:World)(hk:k<256)(hc:w.cell? ⟨b,0,none⟩=some (.int .u8 (k:Int))) :
    (convert 22 9 (.slice (some ⟨b,0,none⟩) 1 c)).run Tryz.prog w=.ok (.string (S [d8 k])) w :=
 conv_c [d8 k] b 0 c w (fun j hj=>by
  have:j=0:=by simpa using hj
  subst this;rw [hc]
  simp [d8,Nat.mod_eq_of_lt hk])
theorem hx_at:∀ k (h:k<16),((⟨#[48,49,50,51,52,53,54,55,56,57,97,98,99,100,101,102]⟩:ByteArray)[k]'(by exact h))=hx k:=by decide
theorem sDigit_c (x:Nat)(w:World)(h:x<256):Calls Tryz.prog 171 #[.int .u8 (x:Int)] w λe w'=>e=.returned (.int .u8 ((hx (x%16)).toNat:Int))/\w=w':=by
 have hh:=Hm (hx_at (x%16) (by omega))
 go_enter Tryz.func171,Tryz.ntmps171
 go_wp2
 go_ret
 refine ⟨?_,rfl⟩
 rw [<- hh.o]
 rfl
theorem sUDec_c:∀ (n u:Nat),u<=n->u<=18446744073709551615->∀ w,Calls Tryz.prog 170 #[.int .u64 (u:Int)] w λe w'=>e=.returned (.string (S (Lib.decDigits u)))/\Below w.heap.size w w'
|n,u,hn,hu,w=>by
  by_cases h:u<10
  . have hD:Hid (Lib.decDigits u=[d8 (48+u)]):=Lib.decDigits_one h;have h':(u:Int)<10:=by omega
    have hc:=conv1 (48+u) w.heap.size 1 (w.alloc (.cells #[.int .u8 (48+(u:Int))] 5)) (by omega) (by simp)
    go_enter Tryz.func170,Tryz.ntmps170
    go_wp2
    go_ret
    exact ⟨by rw [hD.o];rfl,(Below.refl _ _).alloc (Nat.le_refl _) _⟩
  . match n with
   |0=>omega
   |n+1 =>
     have IH:=Hm (sUDec_c n (u / 10) (by omega) (by omega));rw [show ((u / 10:Nat):Int)=(u:Int) / 10 by simp] at IH;have h':¬ (u:Int)<10:=by omega
     have hD:Hid (Lib.decDigits u=Lib.decDigits (u / 10)++[d8 (48+u%10)]):=by
      show _=_
      rw [Lib.decDigits,dif_neg h];rfl
     have hz1:¬ 9223372036854775807<(S (Lib.decDigits (u / 10))).size+(S [d8 (48+u%10)]).size:=by
      have:=dec_len (u / 10) (by omega)
      rw [Qn,Qn,List.length_singleton];omega
     have CV:=Hm (λ(b:Nat) (W:World) (h:W.cell? ⟨b,0,none⟩=some (.int .u8 (48+(u:Int)%10)))=>conv1 (48+u%10) b 1 W (by omega) (by rw [h];simp));have hm:(u:Int).tmod 10=(u:Int)%10:=by rw [Int.tmod_eq_emod_of_nonneg (by omega)]
     have hw1:IntKind.u64.wrap ((u:Int) / 10)=(u:Int) / 10:=by rw [IntKind.wrap_u64];omega
     have hw2:IntKind.u64.wrap (48+(u:Int)%10)=48+(u:Int)%10:=by rw [IntKind.wrap_u64];omega
     have hw3:IntKind.u8.wrap (48+(u:Int)%10)=48+(u:Int)%10:=by rw [IntKind.wrap_u8];omega
     go_enter Tryz.func170,Tryz.ntmps170
     go_wp2_with fail
     have QV:=CV.o
     go_region_law (first
      | (go_simp
         go_at_call 170
         refine (IH.o _).mono ?_
         rintro e w1 ⟨rfl,hb⟩;have hb2:Below w.heap.size w w1:=by first|exact (Below.refl _ _).drew.trans hb|exact ((Below.refl _ _).alloc (Nat.le_refl _) _).trans (hb.mono (by simp))|exact ((Below.refl _ _).alloc (Nat.le_refl _) _).drew.trans (hb.mono (by simp))
         have HBc:=λ(p:Addr) hp=>hb.cell (p:=p) hp
         simp only [World.cell?_drew] at HBc
         have B1:=Hm hb2;clear hb hb2))
     all_goals
      go_wp2_with fail
      go_ret
      refine ⟨by rw [hD.o,<- S_app];rfl,?_⟩
      first|exact B1.o|exact B1.o.alloc B1.o.size _|exact (B1.o.drew).alloc B1.o.size _
end Go.Proofs.YtipfjdogokanbaaGreatDoor
set_option linter.all false
namespace Go.Proofs.YtipfjdogokanbaaGreatDoor
open Go.RowKit
abbrev U (xs:List Int):List Value:=xs.map (Value.int .u8)
def QH:Nat->Int->List Int
|0,x=>[x]
|f+1,x=>if x<128 then [x] else (x%128+128)::QH f (x / 128)
def Jn:Nat->Int->List Int
|0,x=>[x%128]
|f+1,x=>if -64<=x/\x<=63 then [x%128] else (x%128+128)::Jn f (x / 128)
theorem J9 (f:Nat)(y:Int)(h:y<128):QH f y=[y]:=by cases f<;>simp [QH,h]
theorem lebU_step (f:Nat)(y:Int)(h:128<=y):QH (f+1) y=(y%128+128)::QH f (y / 128):=by
 simp [QH];omega
theorem Xa (f:Nat)(y:Int)(h:-64<=y)(h':y<=63):Jn f y=[y%128]:=by cases f<;>simp [Jn,h,h']
theorem X8 (f:Nat)(y:Int)(h:y < -64\/63<y):Jn (f+1) y=(y%128+128)::Jn f (y / 128):=by
 simp [Jn];omega
def fitU (f:Nat)(y:Int):Prop:=y<128 ^ (f+1)
theorem Ge {y:Int}(h:fitU 0 y):y<128:=by unfold fitU at h;simpa using h
theorem Gf {f:Nat}{y:Int}(h:fitU (f+1) y):fitU f (y / 128):=by
 unfold fitU at *;rw [Int.pow_succ] at h
 exact Int.ediv_lt_of_lt_mul (by omega) h
theorem fitU_start {y:Int}(h:y<=18446744073709551615):fitU 9 y:=by
 unfold fitU;have e:(128:Int) ^ (9+1)=1180591620717411303424:=by decide
 rw [e];omega
def fitS (f:Nat)(y:Int):Prop:=-(128 ^ f*64)<=y/\y<128 ^ f*64
theorem XA {y:Int}(h:fitS 0 y):-64<=y/\y<=63:=by unfold fitS at h;simp at h;omega
theorem Gg {f:Nat}{y:Int}(h:fitS (f+1) y):fitS f (y / 128):=by
 unfold fitS at *;rw [Int.pow_succ] at h;generalize (128:Int) ^ f=p at *
 omega
theorem fitS_start {y:Int}(h:-9223372036854775808<=y)(h':y<=9223372036854775807):fitS 9 y:=by
 unfold fitS;have e:(128:Int) ^ 9=9223372036854775808:=by decide
 rw [e];omega
theorem Jc (f:Nat)(y:Int):1<=(QH f y).length/\(QH f y).length<=f+1:=by
 induction f generalizing y with
|zero=>simp [QH]
|succ f ih=>simp only [QH];split<;>simp;exact (ih _).2
theorem lebS_len (f:Nat)(y:Int):1<=(Jn f y).length/\(Jn f y).length<=f+1:=by
 induction f generalizing y with
|zero=>simp [Jn]
|succ f ih=>simp only [Jn];split<;>simp;exact (ih _).2
theorem lebU_bytes (f:Nat)(y:Int)(h0:0<=y)(h:fitU f y):∀ b ∈ QH f y,0<=b/\b<=255:=by
 induction f generalizing y with
|zero=>have:=Ge h;simp [QH];omega
|succ f ih =>
  intro b hb
  simp only [QH] at hb
  split at hb
  . simp at hb;omega
  . simp at hb
    rcases hb with rfl|hb
    . omega
    . exact ih (y / 128) (by omega) (Gf h) b hb
theorem lebS_bytes (f:Nat)(y:Int):∀ b ∈ Jn f y,0<=b/\b<=255:=by
 induction f generalizing y with
|zero=>simp [Jn];omega
|succ f ih =>
  intro b hb
  simp only [Jn] at hb
  split at hb
  . simp at hb;omega
  . simp at hb
    rcases hb with rfl|hb
    . omega
    . exact ih (y / 128) b hb
def XP (x wd:Int):Int:=if 64<=wd then x else IntKind.u64.wrap (x*2 ^ (64-wd).toNat) / 2 ^ (64-wd).toNat
def Xv (x wd:Int):Int:=if 64<=wd then x else wrap64 (x*2 ^ (64-wd).toNat) / 2 ^ (64-wd).toNat
theorem cutU_7 (x:Int):XP x 7=x%128:=by
 unfold XP;rw [if_neg (by omega),IntKind.wrap_u64];have e:(2:Int) ^ (64-(7:Int)).toNat=144115188075855872:=by decide
 rw [e];omega
theorem cutS_7 (x:Int):Xv x 7=(x+64)%128-64:=by
 unfold Xv wrap64;rw [if_neg (by omega)];have e:(2:Int) ^ (64-(7:Int)).toNat=144115188075855872:=by decide
 rw [e];omega
theorem or128 (y:Int):bits .or .u8 (y%256) 128=y%128+128:=by
 rw [u8_or _ _ (by omega) (by omega) (by omega) (by omega)];have h:∀ n:Nat,n<256->n ||| 128=n%128+128:=by decide +kernel
 have:=h (y%256).toNat (by omega)
 show (((y%256).toNat ||| 128:Nat):Int)=_
 omega
theorem andNot128 (y:Int):bits .andNot .u8 (y%256) 128=y%128:=by
 rw [u8_andNot _ _ (by omega) (by omega) (by omega) (by omega)];have h:∀ n:Nat,n<256->n &&& (255-128)=n%128:=by decide +kernel
 have:=h (y%256).toNat (by omega)
 show (((y%256).toNat &&& (255-128):Nat):Int)=_
 omega
theorem QQ (y:Int):0<=IntKind.u64.wrap y/\IntKind.u64.wrap y<=18446744073709551615/\IntKind.u64.wrap y%128=y%128:=by
 rw [IntKind.wrap_u64];omega
theorem andNot128' (y:Int)(h0:0<=y)(h:y<128):bits .andNot .u8 y 128=y:=by
 have:=andNot128 y
 rw [show y%256=y by omega] at this
 omega
end Go.Proofs.YtipfjdogokanbaaGreatDoor
set_option linter.all false
namespace Go.Proofs.YtipfjdogokanbaaGreatDoor
open Go.RowKit
structure Row where
 nm:ByteArray
 f:Int
 a:Int
 b:Int
 g:Int
def Z0:Row:=⟨⟨#[]⟩,0,0,0,0⟩
abbrev rowL (r:Row):List Value:=[.string r.nm,.int .i64 r.f,.int .i64 r.a,.int .i64 r.b,.int .i64 r.g]
abbrev JR (r:Row):Value:=.agg #[.string r.nm,.int .i64 r.f,.int .i64 r.a,.int .i64 r.b,.int .i64 r.g]
def flat:List Row->List Value
|[]=>[]
|r::l=>rowL r++flat l
def R52t:List Row:=[
 ⟨⟨#[117,110,114,101,97,99,104,97,98,108,101]⟩,0,0,0,0⟩,
 ⟨⟨#[110,111,112]⟩,0,0,0,0⟩,
 ⟨⟨#[98,108,111,99,107]⟩,1,0,0,0⟩,
 ⟨⟨#[108,111,111,112]⟩,1,0,0,0⟩,
 ⟨⟨#[105,102]⟩,1,0,0,0⟩,
 ⟨⟨#[101,108,115,101]⟩,0,0,0,0⟩,
 ⟨⟨#[]⟩,0,0,0,0⟩,
 ⟨⟨#[]⟩,0,0,0,0⟩,
 ⟨⟨#[]⟩,0,0,0,0⟩,
 ⟨⟨#[]⟩,0,0,0,0⟩,
 ⟨⟨#[]⟩,0,0,0,0⟩,
 ⟨⟨#[101,110,100]⟩,0,0,0,0⟩,
 ⟨⟨#[98,114]⟩,2,0,0,0⟩,
 ⟨⟨#[98,114,95,105,102]⟩,2,0,0,0⟩,
 ⟨⟨#[98,114,95,116,97,98,108,101]⟩,3,0,0,0⟩,
 ⟨⟨#[114,101,116,117,114,110]⟩,0,0,0,0⟩,
 ⟨⟨#[99,97,108,108]⟩,2,0,0,0⟩,
 ⟨⟨#[99,97,108,108,95,105,110,100,105,114,101,99,116]⟩,4,0,0,0⟩,
 ⟨⟨#[]⟩,0,0,0,0⟩,
 ⟨⟨#[]⟩,0,0,0,0⟩,
 ⟨⟨#[]⟩,0,0,0,0⟩,
 ⟨⟨#[]⟩,0,0,0,0⟩,
 ⟨⟨#[]⟩,0,0,0,0⟩,
 ⟨⟨#[]⟩,0,0,0,0⟩,
 ⟨⟨#[]⟩,0,0,0,0⟩,
 ⟨⟨#[]⟩,0,0,0,0⟩,
 ⟨⟨#[100,114,111,112]⟩,0,0,0,0⟩,
 ⟨⟨#[115,101,108,101,99,116]⟩,0,0,0,0⟩,
 ⟨⟨#[]⟩,0,0,0,0⟩,
 ⟨⟨#[]⟩,0,0,0,0⟩,
 ⟨⟨#[]⟩,0,0,0,0⟩,
 ⟨⟨#[]⟩,0,0,0,0⟩,
 ⟨⟨#[108,111,99,97,108,46,103,101,116]⟩,2,0,0,0⟩,
 ⟨⟨#[108,111,99,97,108,46,115,101,116]⟩,2,0,0,0⟩,
 ⟨⟨#[108,111,99,97,108,46,116,101,101]⟩,2,0,0,0⟩,
 ⟨⟨#[103,108,111,98,97,108,46,103,101,116]⟩,2,0,0,0⟩,
 ⟨⟨#[103,108,111,98,97,108,46,115,101,116]⟩,2,0,0,0⟩,
 ⟨⟨#[]⟩,0,0,0,0⟩,
 ⟨⟨#[]⟩,0,0,0,0⟩,
 ⟨⟨#[]⟩,0,0,0,0⟩]
def R53t:List Row:=[
 ⟨⟨#[105,51,50,46,108,111,97,100]⟩,5,127,0,127⟩,
 ⟨⟨#[105,54,52,46,108,111,97,100]⟩,5,127,0,126⟩,
 ⟨⟨#[102,51,50,46,108,111,97,100]⟩,5,127,0,125⟩,
 ⟨⟨#[102,54,52,46,108,111,97,100]⟩,5,127,0,124⟩,
 ⟨⟨#[105,51,50,46,108,111,97,100,56,95,115]⟩,5,127,0,127⟩,
 ⟨⟨#[105,51,50,46,108,111,97,100,56,95,117]⟩,5,127,0,127⟩,
 ⟨⟨#[105,51,50,46,108,111,97,100,49,54,95,115]⟩,5,127,0,127⟩,
 ⟨⟨#[105,51,50,46,108,111,97,100,49,54,95,117]⟩,5,127,0,127⟩,
 ⟨⟨#[105,54,52,46,108,111,97,100,56,95,115]⟩,5,127,0,126⟩,
 ⟨⟨#[105,54,52,46,108,111,97,100,56,95,117]⟩,5,127,0,126⟩,
 ⟨⟨#[105,54,52,46,108,111,97,100,49,54,95,115]⟩,5,127,0,126⟩,
 ⟨⟨#[105,54,52,46,108,111,97,100,49,54,95,117]⟩,5,127,0,126⟩,
 ⟨⟨#[105,54,52,46,108,111,97,100,51,50,95,115]⟩,5,127,0,126⟩,
 ⟨⟨#[105,54,52,46,108,111,97,100,51,50,95,117]⟩,5,127,0,126⟩,
 ⟨⟨#[105,51,50,46,115,116,111,114,101]⟩,5,127,127,0⟩,
 ⟨⟨#[105,54,52,46,115,116,111,114,101]⟩,5,127,126,0⟩,
 ⟨⟨#[102,51,50,46,115,116,111,114,101]⟩,5,127,125,0⟩,
 ⟨⟨#[102,54,52,46,115,116,111,114,101]⟩,5,127,124,0⟩,
 ⟨⟨#[105,51,50,46,115,116,111,114,101,56]⟩,5,127,127,0⟩,
 ⟨⟨#[105,51,50,46,115,116,111,114,101,49,54]⟩,5,127,127,0⟩,
 ⟨⟨#[105,54,52,46,115,116,111,114,101,56]⟩,5,127,126,0⟩,
 ⟨⟨#[105,54,52,46,115,116,111,114,101,49,54]⟩,5,127,126,0⟩,
 ⟨⟨#[105,54,52,46,115,116,111,114,101,51,50]⟩,5,127,126,0⟩,
 ⟨⟨#[109,101,109,111,114,121,46,115,105,122,101]⟩,6,0,0,127⟩,
 ⟨⟨#[109,101,109,111,114,121,46,103,114,111,119]⟩,6,127,0,127⟩,
 ⟨⟨#[105,51,50,46,99,111,110,115,116]⟩,7,0,0,127⟩,
 ⟨⟨#[105,54,52,46,99,111,110,115,116]⟩,8,0,0,126⟩,
 ⟨⟨#[102,51,50,46,99,111,110,115,116]⟩,9,0,0,125⟩,
 ⟨⟨#[102,54,52,46,99,111,110,115,116]⟩,10,0,0,124⟩]
def R54t:List Row:=[
 ⟨⟨#[105,51,50,46,101,113,122]⟩,0,127,0,127⟩,
 ⟨⟨#[105,51,50,46,101,113]⟩,0,127,127,127⟩,
 ⟨⟨#[105,51,50,46,110,101]⟩,0,127,127,127⟩,
 ⟨⟨#[105,51,50,46,108,116,95,115]⟩,0,127,127,127⟩,
 ⟨⟨#[105,51,50,46,108,116,95,117]⟩,0,127,127,127⟩,
 ⟨⟨#[105,51,50,46,103,116,95,115]⟩,0,127,127,127⟩,
 ⟨⟨#[105,51,50,46,103,116,95,117]⟩,0,127,127,127⟩,
 ⟨⟨#[105,51,50,46,108,101,95,115]⟩,0,127,127,127⟩,
 ⟨⟨#[105,51,50,46,108,101,95,117]⟩,0,127,127,127⟩,
 ⟨⟨#[105,51,50,46,103,101,95,115]⟩,0,127,127,127⟩,
 ⟨⟨#[105,51,50,46,103,101,95,117]⟩,0,127,127,127⟩,
 ⟨⟨#[105,54,52,46,101,113,122]⟩,0,126,0,127⟩,
 ⟨⟨#[105,54,52,46,101,113]⟩,0,126,126,127⟩,
 ⟨⟨#[105,54,52,46,110,101]⟩,0,126,126,127⟩,
 ⟨⟨#[105,54,52,46,108,116,95,115]⟩,0,126,126,127⟩,
 ⟨⟨#[105,54,52,46,108,116,95,117]⟩,0,126,126,127⟩,
 ⟨⟨#[105,54,52,46,103,116,95,115]⟩,0,126,126,127⟩,
 ⟨⟨#[105,54,52,46,103,116,95,117]⟩,0,126,126,127⟩,
 ⟨⟨#[105,54,52,46,108,101,95,115]⟩,0,126,126,127⟩,
 ⟨⟨#[105,54,52,46,108,101,95,117]⟩,0,126,126,127⟩,
 ⟨⟨#[105,54,52,46,103,101,95,115]⟩,0,126,126,127⟩,
 ⟨⟨#[105,54,52,46,103,101,95,117]⟩,0,126,126,127⟩,
 ⟨⟨#[102,51,50,46,101,113]⟩,0,125,125,127⟩,
 ⟨⟨#[102,51,50,46,110,101]⟩,0,125,125,127⟩,
 ⟨⟨#[102,51,50,46,108,116]⟩,0,125,125,127⟩,
 ⟨⟨#[102,51,50,46,103,116]⟩,0,125,125,127⟩,
 ⟨⟨#[102,51,50,46,108,101]⟩,0,125,125,127⟩,
 ⟨⟨#[102,51,50,46,103,101]⟩,0,125,125,127⟩,
 ⟨⟨#[102,54,52,46,101,113]⟩,0,124,124,127⟩,
 ⟨⟨#[102,54,52,46,110,101]⟩,0,124,124,127⟩,
 ⟨⟨#[102,54,52,46,108,116]⟩,0,124,124,127⟩,
 ⟨⟨#[102,54,52,46,103,116]⟩,0,124,124,127⟩,
 ⟨⟨#[102,54,52,46,108,101]⟩,0,124,124,127⟩,
 ⟨⟨#[102,54,52,46,103,101]⟩,0,124,124,127⟩]
def R55t:List Row:=[
 ⟨⟨#[105,51,50,46,99,108,122]⟩,0,127,0,127⟩,
 ⟨⟨#[105,51,50,46,99,116,122]⟩,0,127,0,127⟩,
 ⟨⟨#[105,51,50,46,112,111,112,99,110,116]⟩,0,127,0,127⟩,
 ⟨⟨#[105,51,50,46,97,100,100]⟩,0,127,127,127⟩,
 ⟨⟨#[105,51,50,46,115,117,98]⟩,0,127,127,127⟩,
 ⟨⟨#[105,51,50,46,109,117,108]⟩,0,127,127,127⟩,
 ⟨⟨#[105,51,50,46,100,105,118,95,115]⟩,0,127,127,127⟩,
 ⟨⟨#[105,51,50,46,100,105,118,95,117]⟩,0,127,127,127⟩,
 ⟨⟨#[105,51,50,46,114,101,109,95,115]⟩,0,127,127,127⟩,
 ⟨⟨#[105,51,50,46,114,101,109,95,117]⟩,0,127,127,127⟩,
 ⟨⟨#[105,51,50,46,97,110,100]⟩,0,127,127,127⟩,
 ⟨⟨#[105,51,50,46,111,114]⟩,0,127,127,127⟩,
 ⟨⟨#[105,51,50,46,120,111,114]⟩,0,127,127,127⟩,
 ⟨⟨#[105,51,50,46,115,104,108]⟩,0,127,127,127⟩,
 ⟨⟨#[105,51,50,46,115,104,114,95,115]⟩,0,127,127,127⟩,
 ⟨⟨#[105,51,50,46,115,104,114,95,117]⟩,0,127,127,127⟩,
 ⟨⟨#[105,51,50,46,114,111,116,108]⟩,0,127,127,127⟩,
 ⟨⟨#[105,51,50,46,114,111,116,114]⟩,0,127,127,127⟩,
 ⟨⟨#[105,54,52,46,99,108,122]⟩,0,126,0,126⟩,
 ⟨⟨#[105,54,52,46,99,116,122]⟩,0,126,0,126⟩,
 ⟨⟨#[105,54,52,46,112,111,112,99,110,116]⟩,0,126,0,126⟩,
 ⟨⟨#[105,54,52,46,97,100,100]⟩,0,126,126,126⟩,
 ⟨⟨#[105,54,52,46,115,117,98]⟩,0,126,126,126⟩,
 ⟨⟨#[105,54,52,46,109,117,108]⟩,0,126,126,126⟩,
 ⟨⟨#[105,54,52,46,100,105,118,95,115]⟩,0,126,126,126⟩,
 ⟨⟨#[105,54,52,46,100,105,118,95,117]⟩,0,126,126,126⟩,
 ⟨⟨#[105,54,52,46,114,101,109,95,115]⟩,0,126,126,126⟩,
 ⟨⟨#[105,54,52,46,114,101,109,95,117]⟩,0,126,126,126⟩,
 ⟨⟨#[105,54,52,46,97,110,100]⟩,0,126,126,126⟩,
 ⟨⟨#[105,54,52,46,111,114]⟩,0,126,126,126⟩,
 ⟨⟨#[105,54,52,46,120,111,114]⟩,0,126,126,126⟩,
 ⟨⟨#[105,54,52,46,115,104,108]⟩,0,126,126,126⟩,
 ⟨⟨#[105,54,52,46,115,104,114,95,115]⟩,0,126,126,126⟩,
 ⟨⟨#[105,54,52,46,115,104,114,95,117]⟩,0,126,126,126⟩,
 ⟨⟨#[105,54,52,46,114,111,116,108]⟩,0,126,126,126⟩,
 ⟨⟨#[105,54,52,46,114,111,116,114]⟩,0,126,126,126⟩]
def R56t:List Row:=[
 ⟨⟨#[102,51,50,46,97,98,115]⟩,0,125,0,125⟩,
 ⟨⟨#[102,51,50,46,110,101,103]⟩,0,125,0,125⟩,
 ⟨⟨#[102,51,50,46,99,101,105,108]⟩,0,125,0,125⟩,
 ⟨⟨#[102,51,50,46,102,108,111,111,114]⟩,0,125,0,125⟩,
 ⟨⟨#[102,51,50,46,116,114,117,110,99]⟩,0,125,0,125⟩,
 ⟨⟨#[102,51,50,46,110,101,97,114,101,115,116]⟩,0,125,0,125⟩,
 ⟨⟨#[102,51,50,46,115,113,114,116]⟩,0,125,0,125⟩,
 ⟨⟨#[102,51,50,46,97,100,100]⟩,0,125,125,125⟩,
 ⟨⟨#[102,51,50,46,115,117,98]⟩,0,125,125,125⟩,
 ⟨⟨#[102,51,50,46,109,117,108]⟩,0,125,125,125⟩,
 ⟨⟨#[102,51,50,46,100,105,118]⟩,0,125,125,125⟩,
 ⟨⟨#[102,51,50,46,109,105,110]⟩,0,125,125,125⟩,
 ⟨⟨#[102,51,50,46,109,97,120]⟩,0,125,125,125⟩,
 ⟨⟨#[102,51,50,46,99,111,112,121,115,105,103,110]⟩,0,125,125,125⟩,
 ⟨⟨#[102,54,52,46,97,98,115]⟩,0,124,0,124⟩,
 ⟨⟨#[102,54,52,46,110,101,103]⟩,0,124,0,124⟩,
 ⟨⟨#[102,54,52,46,99,101,105,108]⟩,0,124,0,124⟩,
 ⟨⟨#[102,54,52,46,102,108,111,111,114]⟩,0,124,0,124⟩,
 ⟨⟨#[102,54,52,46,116,114,117,110,99]⟩,0,124,0,124⟩,
 ⟨⟨#[102,54,52,46,110,101,97,114,101,115,116]⟩,0,124,0,124⟩,
 ⟨⟨#[102,54,52,46,115,113,114,116]⟩,0,124,0,124⟩,
 ⟨⟨#[102,54,52,46,97,100,100]⟩,0,124,124,124⟩,
 ⟨⟨#[102,54,52,46,115,117,98]⟩,0,124,124,124⟩,
 ⟨⟨#[102,54,52,46,109,117,108]⟩,0,124,124,124⟩,
 ⟨⟨#[102,54,52,46,100,105,118]⟩,0,124,124,124⟩,
 ⟨⟨#[102,54,52,46,109,105,110]⟩,0,124,124,124⟩,
 ⟨⟨#[102,54,52,46,109,97,120]⟩,0,124,124,124⟩,
 ⟨⟨#[102,54,52,46,99,111,112,121,115,105,103,110]⟩,0,124,124,124⟩]
def R57t:List Row:=[
 ⟨⟨#[105,51,50,46,119,114,97,112,95,105,54,52]⟩,0,126,0,127⟩,
 ⟨⟨#[105,51,50,46,116,114,117,110,99,95,102,51,50,95,115]⟩,0,125,0,127⟩,
 ⟨⟨#[105,51,50,46,116,114,117,110,99,95,102,51,50,95,117]⟩,0,125,0,127⟩,
 ⟨⟨#[105,51,50,46,116,114,117,110,99,95,102,54,52,95,115]⟩,0,124,0,127⟩,
 ⟨⟨#[105,51,50,46,116,114,117,110,99,95,102,54,52,95,117]⟩,0,124,0,127⟩,
 ⟨⟨#[105,54,52,46,101,120,116,101,110,100,95,105,51,50,95,115]⟩,0,127,0,126⟩,
 ⟨⟨#[105,54,52,46,101,120,116,101,110,100,95,105,51,50,95,117]⟩,0,127,0,126⟩,
 ⟨⟨#[105,54,52,46,116,114,117,110,99,95,102,51,50,95,115]⟩,0,125,0,126⟩,
 ⟨⟨#[105,54,52,46,116,114,117,110,99,95,102,51,50,95,117]⟩,0,125,0,126⟩,
 ⟨⟨#[105,54,52,46,116,114,117,110,99,95,102,54,52,95,115]⟩,0,124,0,126⟩,
 ⟨⟨#[105,54,52,46,116,114,117,110,99,95,102,54,52,95,117]⟩,0,124,0,126⟩,
 ⟨⟨#[102,51,50,46,99,111,110,118,101,114,116,95,105,51,50,95,115]⟩,0,127,0,125⟩,
 ⟨⟨#[102,51,50,46,99,111,110,118,101,114,116,95,105,51,50,95,117]⟩,0,127,0,125⟩,
 ⟨⟨#[102,51,50,46,99,111,110,118,101,114,116,95,105,54,52,95,115]⟩,0,126,0,125⟩,
 ⟨⟨#[102,51,50,46,99,111,110,118,101,114,116,95,105,54,52,95,117]⟩,0,126,0,125⟩,
 ⟨⟨#[102,51,50,46,100,101,109,111,116,101,95,102,54,52]⟩,0,124,0,125⟩,
 ⟨⟨#[102,54,52,46,99,111,110,118,101,114,116,95,105,51,50,95,115]⟩,0,127,0,124⟩,
 ⟨⟨#[102,54,52,46,99,111,110,118,101,114,116,95,105,51,50,95,117]⟩,0,127,0,124⟩,
 ⟨⟨#[102,54,52,46,99,111,110,118,101,114,116,95,105,54,52,95,115]⟩,0,126,0,124⟩,
 ⟨⟨#[102,54,52,46,99,111,110,118,101,114,116,95,105,54,52,95,117]⟩,0,126,0,124⟩,
 ⟨⟨#[102,54,52,46,112,114,111,109,111,116,101,95,102,51,50]⟩,0,125,0,124⟩,
 ⟨⟨#[105,51,50,46,114,101,105,110,116,101,114,112,114,101,116,95,102,51,50]⟩,0,125,0,127⟩,
 ⟨⟨#[105,54,52,46,114,101,105,110,116,101,114,112,114,101,116,95,102,54,52]⟩,0,124,0,126⟩,
 ⟨⟨#[102,51,50,46,114,101,105,110,116,101,114,112,114,101,116,95,105,51,50]⟩,0,127,0,125⟩,
 ⟨⟨#[102,54,52,46,114,101,105,110,116,101,114,112,114,101,116,95,105,54,52]⟩,0,126,0,124⟩]
def tbl:List Row:=R52t++(R53t++(R54t++(R55t++(R56t++(R57t)))))
def R52:List Row:=List.replicate 0 Z0++R52t
def R53:List Row:=List.replicate 40 Z0++R53t
def R54:List Row:=List.replicate 69 Z0++R54t
def R55:List Row:=List.replicate 103 Z0++R55t
def R56:List Row:=List.replicate 139 Z0++R56t
def R57:List Row:=List.replicate 167 Z0++R57t
def Qb (op:Int):Row:=if 0<=op/\op<192 then tbl.getD op.toNat Z0 else Z0
theorem flat_at (R:List Row)(p:Nat)(r:Row)(h:R[p]?=some r):((flat R).drop (p*5)).take 5=rowL r:=by
 induction R generalizing p with
|nil=>simp at h
|cons x l ih =>
  cases p with
 |zero=>simp at h;subst h;simp [flat]
 |succ p =>
   have h':l[p]?=some r:=by simpa using h
   have e:(p+1)*5=5+p*5:=by omega
   rw [e,<- List.drop_drop]
   show (((rowL x++flat l).drop 5).drop (p*5)).take 5=_
   rw [List.drop_left' (by rfl)]
   exact ih p h'
theorem idxT {t n:Nat}(ht:Tryz.prog.underlying t=some (.array n 164))(R:List Row){cs:Array Value}(hv:cs=(flat R).toArray)(p:Nat)(r:Row)(hr:R[p]?=some r)(hp:p<n)(w:World) :
    (Instr.index t (.agg cs) (.int .i64 p)).run Tryz.prog w=.ok (JR r) w:=by
 subst hv;have hs:∀ w,(sizeOf 164).run Tryz.prog w=.ok 5 w:=λw=>by kernel_rfl
 have ha:∀ w,(isAgg 164).run Tryz.prog w=.ok true w:=λw=>by kernel_rfl
 simp [Instr.index,asIntOf,run_underlying ht,part,hs,ha,hp,flat_at R p r hr]
theorem X5 (p:Nat)(r:Row)(h:tbl[p]?=some r):Qb p=r:=by
 have hl:p<tbl.length:=by
  rcases Nat.lt_or_ge p tbl.length with h'|h'
  . exact h'
  . rw [List.getElem?_eq_none h'] at h;cases h
 have hl':p<192:=hl
 simp only [Qb,show (0:Int)<=p/\(p:Int)<192 by omega,and_self,if_true,Int.toNat_natCast,List.getD,h,Option.getD_some]
theorem piece (A B C:List Row)(p:Nat)(h1:A.length<=p)(h2:p<A.length+B.length):∃ r,(List.replicate A.length Z0++B)[p]?=some r/\(A++(B++C))[p]?=some r:=by
 have hb:p-A.length<B.length:=by omega
 refine ⟨B[p-A.length],?_,?_⟩
 . rw [List.getElem?_append_right (by simpa using h1),List.length_replicate,List.getElem?_eq_getElem hb]
 . rw [List.getElem?_append_right h1,List.getElem?_append_left hb,List.getElem?_eq_getElem hb]
theorem R52_at (p:Nat)(h1:0<=p)(h2:p<40):R52[p]?=some (Qb p):=by
 obtain ⟨r,e1,e2⟩:=piece (([]:List Row)) R52t (R53t++(R54t++(R55t++(R56t++(R57t))))) p h1 h2;have e:tbl=(([]:List Row))++(R52t++(R53t++(R54t++(R55t++(R56t++(R57t)))))):=by simp only [tbl,List.append_assoc,List.nil_append,List.append_nil]
 rw [X5 p r (by rw [e];exact e2)]
 exact e1
theorem R53_at (p:Nat)(h1:40<=p)(h2:p<69):R53[p]?=some (Qb p):=by
 obtain ⟨r,e1,e2⟩:=piece (R52t) R53t (R54t++(R55t++(R56t++(R57t)))) p h1 h2;have e:tbl=(R52t)++(R53t++(R54t++(R55t++(R56t++(R57t))))):=by simp only [tbl,List.append_assoc,List.nil_append,List.append_nil]
 rw [X5 p r (by rw [e];exact e2)]
 exact e1
theorem R54_at (p:Nat)(h1:69<=p)(h2:p<103):R54[p]?=some (Qb p):=by
 obtain ⟨r,e1,e2⟩:=piece (R52t++(R53t)) R54t (R55t++(R56t++(R57t))) p h1 h2;have e:tbl=(R52t++(R53t))++(R54t++(R55t++(R56t++(R57t)))):=by simp only [tbl,List.append_assoc,List.nil_append,List.append_nil]
 rw [X5 p r (by rw [e];exact e2)]
 exact e1
theorem R55_at (p:Nat)(h1:103<=p)(h2:p<139):R55[p]?=some (Qb p):=by
 obtain ⟨r,e1,e2⟩:=piece (R52t++(R53t++(R54t))) R55t (R56t++(R57t)) p h1 h2;have e:tbl=(R52t++(R53t++(R54t)))++(R55t++(R56t++(R57t))):=by simp only [tbl,List.append_assoc,List.nil_append,List.append_nil]
 rw [X5 p r (by rw [e];exact e2)]
 exact e1
theorem R56_at (p:Nat)(h1:139<=p)(h2:p<167):R56[p]?=some (Qb p):=by
 obtain ⟨r,e1,e2⟩:=piece (R52t++(R53t++(R54t++(R55t)))) R56t (R57t) p h1 h2;have e:tbl=(R52t++(R53t++(R54t++(R55t))))++(R56t++(R57t)):=by simp only [tbl,List.append_assoc,List.nil_append,List.append_nil]
 rw [X5 p r (by rw [e];exact e2)]
 exact e1
theorem R57_at (p:Nat)(h1:167<=p)(h2:p<192):R57[p]?=some (Qb p):=by
 obtain ⟨r,e1,e2⟩:=piece (R52t++(R53t++(R54t++(R55t++(R56t))))) R57t (([]:List Row)) p h1 h2;have e:tbl=(R52t++(R53t++(R54t++(R55t++(R56t)))))++(R57t++(([]:List Row))):=by simp only [tbl,List.append_assoc,List.nil_append,List.append_nil]
 rw [X5 p r (by rw [e];exact e2)]
 exact e1
end Go.Proofs.YtipfjdogokanbaaGreatDoor
set_option linter.all false
namespace Go.Proofs.YtipfjdogokanbaaGreatDoor
open Go.RowKit
theorem l1In_c (x lo hi:Int)(w:World):Calls Tryz.prog 35 #[.int .i64 x,.int .i64 lo,.int .i64 hi] w λe w'=>e=.returned (.bool (decide (lo<=x/\x<=hi)))/\w=w':=by
 by_cases h1:lo<=x
 . by_cases h2:x<=hi
   . go_enter Tryz.func35,Tryz.ntmps35
     go_wp2
     go_ret
     exact ⟨by simp [h1,h2],rfl⟩
   . go_enter Tryz.func35,Tryz.ntmps35
     go_wp2
     go_ret
     exact ⟨by simp [h1,h2],rfl⟩
 . go_enter Tryz.func35,Tryz.ntmps35
   go_wp2
   go_ret
   have hd:(decide (lo<=x)&&decide (x<=hi))=false:=by simp;omega
   rw [hd];exact ⟨rfl,rfl⟩
theorem JM (x lo hi:Int)(w:World)(h:lo<=x/\x<=hi):Calls Tryz.prog 35 #[.int .i64 x,.int .i64 lo,.int .i64 hi] w λe w'=>e=.returned (.bool true)/\w=w' :=
 (l1In_c x lo hi w).mono λe w' ⟨a,b⟩=>⟨by simpa [h.1,h.2] using a,b⟩
theorem Xb (x lo hi:Int)(w:World)(h:¬ (lo<=x/\x<=hi)):Calls Tryz.prog 35 #[.int .i64 x,.int .i64 lo,.int .i64 hi] w λe w'=>e=.returned (.bool false)/\w=w' :=
 (l1In_c x lo hi w).mono λe w' ⟨a,b⟩=>⟨by rw [a,decide_eq_false h],b⟩
theorem rng (lo n:Nat)(f:Nat->Bool)(h:(List.range n).all (λi=>f (lo+i))=true)(p:Int)(h1:(lo:Int)<=p)(h2:p<(lo+n:Nat)):f p.toNat=true:=by
 have:=List.all_eq_true.1 h (p.toNat-lo) (by simp;omega)
 rw [<- this];congr 1;omega
def Qd (r:Row):Int:=if r.nm.size=0 then -1 else r.f
theorem known_0 (p:Int)(w:World)(h2:p<=-1):Calls Tryz.prog 88 #[.int .i64 p] w λe w'=>e=.returned (.bool false)/\w=w':=by
 have f1:(p==(26:Int))=false:=by simp;omega
 have f2:(p==(27:Int))=false:=by simp;omega
 go_enter Tryz.func88,Tryz.ntmps88
 go_wp2_with (first|(go_at_call 35;refine (Xb _ _ _ _ (by omega)).mono ?_;rintro e w1 ⟨rfl,rfl⟩)|(go_at_call 35;refine (JM _ _ _ _ (by omega)).mono ?_;rintro e w1 ⟨rfl,rfl⟩))
 go_ret
 exact ⟨rfl,rfl⟩
theorem known_1 (p:Int)(w:World)(h1:0<=p)(h2:p<=5):Calls Tryz.prog 88 #[.int .i64 p] w λe w'=>e=.returned (.bool true)/\w=w':=by
 go_enter Tryz.func88,Tryz.ntmps88
 go_wp2_with (first|(go_at_call 35;refine (Xb _ _ _ _ (by omega)).mono ?_;rintro e w1 ⟨rfl,rfl⟩)|(go_at_call 35;refine (JM _ _ _ _ (by omega)).mono ?_;rintro e w1 ⟨rfl,rfl⟩))
 go_ret
 exact ⟨rfl,rfl⟩
theorem known_2 (p:Int)(w:World)(h1:6<=p)(h2:p<=10):Calls Tryz.prog 88 #[.int .i64 p] w λe w'=>e=.returned (.bool false)/\w=w':=by
 have f1:(p==(26:Int))=false:=by simp;omega
 have f2:(p==(27:Int))=false:=by simp;omega
 go_enter Tryz.func88,Tryz.ntmps88
 go_wp2_with (first|(go_at_call 35;refine (Xb _ _ _ _ (by omega)).mono ?_;rintro e w1 ⟨rfl,rfl⟩)|(go_at_call 35;refine (JM _ _ _ _ (by omega)).mono ?_;rintro e w1 ⟨rfl,rfl⟩))
 go_ret
 exact ⟨rfl,rfl⟩
theorem Gv (p:Int)(w:World)(h1:11<=p)(h2:p<=17):Calls Tryz.prog 88 #[.int .i64 p] w λe w'=>e=.returned (.bool true)/\w=w':=by
 go_enter Tryz.func88,Tryz.ntmps88
 go_wp2_with (first|(go_at_call 35;refine (Xb _ _ _ _ (by omega)).mono ?_;rintro e w1 ⟨rfl,rfl⟩)|(go_at_call 35;refine (JM _ _ _ _ (by omega)).mono ?_;rintro e w1 ⟨rfl,rfl⟩))
 go_ret
 exact ⟨rfl,rfl⟩
theorem known_4 (p:Int)(w:World)(h1:18<=p)(h2:p<=25):Calls Tryz.prog 88 #[.int .i64 p] w λe w'=>e=.returned (.bool false)/\w=w':=by
 have f1:(p==(26:Int))=false:=by simp;omega
 have f2:(p==(27:Int))=false:=by simp;omega
 go_enter Tryz.func88,Tryz.ntmps88
 go_wp2_with (first|(go_at_call 35;refine (Xb _ _ _ _ (by omega)).mono ?_;rintro e w1 ⟨rfl,rfl⟩)|(go_at_call 35;refine (JM _ _ _ _ (by omega)).mono ?_;rintro e w1 ⟨rfl,rfl⟩))
 go_ret
 exact ⟨rfl,rfl⟩
theorem known_5 (p:Int)(w:World)(h1:26<=p)(h2:p<=26):Calls Tryz.prog 88 #[.int .i64 p] w λe w'=>e=.returned (.bool true)/\w=w':=by
 have f1:(p==(26:Int))=true:=by simp;omega
 go_enter Tryz.func88,Tryz.ntmps88
 go_wp2_with (first|(go_at_call 35;refine (Xb _ _ _ _ (by omega)).mono ?_;rintro e w1 ⟨rfl,rfl⟩)|(go_at_call 35;refine (JM _ _ _ _ (by omega)).mono ?_;rintro e w1 ⟨rfl,rfl⟩))
 go_ret
 exact ⟨rfl,rfl⟩
theorem known_6 (p:Int)(w:World)(h1:27<=p)(h2:p<=27):Calls Tryz.prog 88 #[.int .i64 p] w λe w'=>e=.returned (.bool true)/\w=w':=by
 have f1:(p==(26:Int))=false:=by simp;omega
 have f2:(p==(27:Int))=true:=by simp;omega
 go_enter Tryz.func88,Tryz.ntmps88
 go_wp2_with (first|(go_at_call 35;refine (Xb _ _ _ _ (by omega)).mono ?_;rintro e w1 ⟨rfl,rfl⟩)|(go_at_call 35;refine (JM _ _ _ _ (by omega)).mono ?_;rintro e w1 ⟨rfl,rfl⟩))
 go_ret
 exact ⟨rfl,rfl⟩
theorem known_7 (p:Int)(w:World)(h1:28<=p)(h2:p<=31):Calls Tryz.prog 88 #[.int .i64 p] w λe w'=>e=.returned (.bool false)/\w=w':=by
 have f1:(p==(26:Int))=false:=by simp;omega
 have f2:(p==(27:Int))=false:=by simp;omega
 go_enter Tryz.func88,Tryz.ntmps88
 go_wp2_with (first|(go_at_call 35;refine (Xb _ _ _ _ (by omega)).mono ?_;rintro e w1 ⟨rfl,rfl⟩)|(go_at_call 35;refine (JM _ _ _ _ (by omega)).mono ?_;rintro e w1 ⟨rfl,rfl⟩))
 go_ret
 exact ⟨rfl,rfl⟩
theorem known_8 (p:Int)(w:World)(h1:32<=p)(h2:p<=36):Calls Tryz.prog 88 #[.int .i64 p] w λe w'=>e=.returned (.bool true)/\w=w':=by
 have f1:(p==(26:Int))=false:=by simp;omega
 have f2:(p==(27:Int))=false:=by simp;omega
 go_enter Tryz.func88,Tryz.ntmps88
 go_wp2_with (first|(go_at_call 35;refine (Xb _ _ _ _ (by omega)).mono ?_;rintro e w1 ⟨rfl,rfl⟩)|(go_at_call 35;refine (JM _ _ _ _ (by omega)).mono ?_;rintro e w1 ⟨rfl,rfl⟩))
 go_ret
 exact ⟨rfl,rfl⟩
theorem known_9 (p:Int)(w:World)(h1:37<=p)(h2:p<=39):Calls Tryz.prog 88 #[.int .i64 p] w λe w'=>e=.returned (.bool false)/\w=w':=by
 have f1:(p==(26:Int))=false:=by simp;omega
 have f2:(p==(27:Int))=false:=by simp;omega
 go_enter Tryz.func88,Tryz.ntmps88
 go_wp2_with (first|(go_at_call 35;refine (Xb _ _ _ _ (by omega)).mono ?_;rintro e w1 ⟨rfl,rfl⟩)|(go_at_call 35;refine (JM _ _ _ _ (by omega)).mono ?_;rintro e w1 ⟨rfl,rfl⟩))
 go_ret
 exact ⟨rfl,rfl⟩
theorem known_10 (p:Int)(w:World)(h1:40<=p)(h2:p<=191):Calls Tryz.prog 88 #[.int .i64 p] w λe w'=>e=.returned (.bool true)/\w=w':=by
 have f1:(p==(26:Int))=false:=by simp;omega
 have f2:(p==(27:Int))=false:=by simp;omega
 go_enter Tryz.func88,Tryz.ntmps88
 go_wp2_with (first|(go_at_call 35;refine (Xb _ _ _ _ (by omega)).mono ?_;rintro e w1 ⟨rfl,rfl⟩)|(go_at_call 35;refine (JM _ _ _ _ (by omega)).mono ?_;rintro e w1 ⟨rfl,rfl⟩))
 go_ret
 exact ⟨rfl,rfl⟩
theorem known_11 (p:Int)(w:World)(h1:192<=p):Calls Tryz.prog 88 #[.int .i64 p] w λe w'=>e=.returned (.bool false)/\w=w':=by
 have f1:(p==(26:Int))=false:=by simp;omega
 have f2:(p==(27:Int))=false:=by simp;omega
 go_enter Tryz.func88,Tryz.ntmps88
 go_wp2_with (first|(go_at_call 35;refine (Xb _ _ _ _ (by omega)).mono ?_;rintro e w1 ⟨rfl,rfl⟩)|(go_at_call 35;refine (JM _ _ _ _ (by omega)).mono ?_;rintro e w1 ⟨rfl,rfl⟩))
 go_ret
 exact ⟨rfl,rfl⟩
end Go.Proofs.YtipfjdogokanbaaGreatDoor
