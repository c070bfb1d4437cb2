import Derived.Test.YtipfjdogokanbaaGreatDoorGaa
import Derived.Laws.BitsLemmas
import Derived.Test.YtipfjdogokanbaaGreatDoorGat
import Derived.Handy
import Derived.Deep.Cut
import Derived.Deep.DeepCutAuto
set_option linter.all false
set_option maxHeartbeats 400000000
set_option maxRecDepth 100000
set_option linter.all false
namespace Go.Proofs.YtipfjdogokanbaaGreatDoor.Ed.By
open Go.RowKit
def P2 (n:Int):Int:=2 ^ n.toNat
theorem P2_nat (k:Nat):P2 (7*(k:Int))=2 ^ (7*k):=by unfold P2;rw [show (7*(k:Int)).toNat=7*k by omega]
theorem Q7 (n:Int):1<=P2 n:=by unfold P2;have:=Int.pow_pos (n:=(2:Int)) (m:=n.toNat) (by omega);omega
theorem Xx (n:Int)(h:0<=n):P2 (n+1)=2*P2 n:=by
 unfold P2;rw [show (n+1).toNat=n.toNat+1 by omega,Int.pow_succ];omega
theorem P2_7 (n:Int)(h:0<=n):P2 (n+7)=128*P2 n:=by
 unfold P2;rw [show (n+7).toNat=n.toNat+7 by omega,Int.pow_add];omega
theorem J4 {m n:Int}(h0:m<=n):P2 m<=P2 n:=by
 unfold P2;have h:2 ^ m.toNat<=2 ^ n.toNat:=Nat.pow_le_pow_right (by omega) (by omega);have h':((2 ^ m.toNat:Nat):Int)<=((2 ^ n.toNat:Nat):Int):=by omega
 simpa using h'
theorem Gl {n:Int}(h:n<=63):P2 n<=9223372036854775808:=by
 have:=J4 h;rw [show P2 63=9223372036854775808 by decide] at this;exact this
theorem P2_62 {n:Int}(h:n<=62):P2 n<=4611686018427387904:=by
 have:=J4 h;rw [show P2 62=4611686018427387904 by decide] at this;exact this
theorem P2_56 {n:Int}(h:n<=56):P2 n<=72057594037927936:=by
 have:=J4 h;rw [show P2 56=72057594037927936 by decide] at this;exact this
def rok (s:Bool)(c u:Int):Bool :=
 if 7<=u then true else if s then (c%128 / P2 (u-1)==0) || (c%128 / P2 (u-1)==P2 (8-u)-1) else c%128 / P2 u==0
def JT (s:Bool)(c room:Int):Int:=if 7<room then 0 else if 128<=c then 2 else if rok s c room then 0 else 3
theorem rokU_nat:∀ c:Nat,c<128->∀ u:Nat,u<8->1<=u->(XP (XP c 7) u != XP c 7)=!rok false c u:=by decide +kernel
theorem rokS_nat:∀ c:Nat,c<128->∀ u:Nat,u<8->1<=u->(Xv (Xv c 7) u != Xv c 7)=!rok true c u:=by decide +kernel
theorem rokU (c u:Int)(h0:0<=c)(h1:c<128)(h2:1<=u)(h3:u<=7):(XP (XP c 7) u != XP c 7)=!rok false c u:=by
 obtain ⟨C,rfl⟩:=Int.eq_ofNat_of_zero_le h0;obtain ⟨V,rfl⟩:=Int.eq_ofNat_of_zero_le (show 0<=u by omega)
 exact rokU_nat C (by omega) V (by omega) (by omega)
theorem rokS (c u:Int)(h0:0<=c)(h1:c<128)(h2:1<=u)(h3:u<=7):(Xv (Xv c 7) u != Xv c 7)=!rok true c u:=by
 obtain ⟨C,rfl⟩:=Int.eq_ofNat_of_zero_le h0;obtain ⟨V,rfl⟩:=Int.eq_ofNat_of_zero_le (show 0<=u by omega)
 exact rokS_nat C (by omega) V (by omega) (by omega)
theorem rok1U_nat:∀ c:Nat,c<128->rok false c 1=true->c<=1:=by decide +kernel
theorem rok1S_nat:∀ c:Nat,c<128->rok true c 1=true->c=0\/c=127:=by decide +kernel
theorem rok1U (c:Int)(h0:0<=c)(h1:c<128)(h:rok false c 1=true):c<=1:=by
 obtain ⟨C,rfl⟩:=Int.eq_ofNat_of_zero_le h0
 have:=rok1U_nat C (by omega) h;omega
theorem rok1S (c:Int)(h0:0<=c)(h1:c<128)(h:rok true c 1=true):c=0\/c=127:=by
 obtain ⟨C,rfl⟩:=Int.eq_ofNat_of_zero_le h0
 have:=rok1S_nat C (by omega) h;omega
def fin (s:Bool)(a c:Int)(k:Nat):Int:=if s=true/\64<=c then (a-P2 (7*(k:Int)+7))%18446744073709551616 else a%18446744073709551616
def QR (s:Bool)(bs:List Int)(p:Nat)(B:Int):Nat->Nat->Int->Int × Int × Int
|0,_,_=>(0,0,0)
|f+1,k,acc =>
  if bs.length<=p+k then (1,0,bs.length)
  else if B-7*(k:Int)<=7/\128<=bs.getD (p+k) 0 then (2,0,(p:Int)+k+1)
  else if B-7*(k:Int)<=7/\rok s (bs.getD (p+k) 0) (B-7*(k:Int))=false then (3,0,(p:Int)+k+1)
  else if bs.getD (p+k) 0<128 then (0,fin s (acc+bs.getD (p+k) 0%128*P2 (7*(k:Int))) (bs.getD (p+k) 0) k,(p:Int)+k+1)
  else QR s bs p B f (k+1) (acc+bs.getD (p+k) 0%128*P2 (7*(k:Int)))
def Xq (b:Int):Int:=if 1<=b/\b<=64 then b else 64
theorem normB_bd (b:Int):1<=Xq b/\Xq b<=64:=by unfold Xq;omega
def getA (s:Bool)(bs:List Int)(a b:Int):Int × Int × Int :=
 if 0<=a/\a<=bs.length then QR s bs a.toNat (Xq b) 10 0 0 else (1,0,bs.length)
section
variable {s:Bool} {bs:List Int} {p f k:Nat} {B acc:Int}
theorem XN (h:bs.length<=p+k):QR s bs p B (f+1) k acc=(1,0,(bs.length:Int)):=by
 simp only [QR];rw [if_pos h]
theorem JV (h:p+k<bs.length)(hr:B-7*(k:Int)<=7)(hc:128<=bs.getD (p+k) 0):QR s bs p B (f+1) k acc=(2,0,(p:Int)+k+1):=by
 simp only [QR];rw [if_neg (by omega),if_pos ⟨hr,hc⟩]
theorem JW (h:p+k<bs.length)(hr:B-7*(k:Int)<=7)(hc:bs.getD (p+k) 0<128)(ho:rok s (bs.getD (p+k) 0) (B-7*(k:Int))=false):QR s bs p B (f+1) k acc=(3,0,(p:Int)+k+1):=by
 simp only [QR];rw [if_neg (by omega),if_neg (by omega),if_pos ⟨hr,ho⟩]
theorem Xj (h:p+k<bs.length)(hc:bs.getD (p+k) 0<128)(ho:B-7*(k:Int)<=7->rok s (bs.getD (p+k) 0) (B-7*(k:Int))=true) :
    QR s bs p B (f+1) k acc=(0,fin s (acc+bs.getD (p+k) 0%128*P2 (7*(k:Int))) (bs.getD (p+k) 0) k,(p:Int)+k+1):=by
 simp only [QR]
 rw [if_neg (by omega),if_neg (by omega),if_neg (by rintro ⟨h1,h2⟩;rw [ho h1] at h2;cases h2),if_pos hc]
theorem JU (h:p+k<bs.length)(hr:7<B-7*(k:Int))(hc:128<=bs.getD (p+k) 0) :
    QR s bs p B (f+1) k acc=QR s bs p B f (k+1) (acc+bs.getD (p+k) 0%128*P2 (7*(k:Int))):=by
 simp only [QR]
 rw [if_neg (by omega),if_neg (by omega),if_neg (by omega),if_neg (by omega)]
end
theorem mul_bd (c p:Int)(h0:0<=c)(h1:c<=127)(hp:1<=p):0<=c*p/\c*p<=127*p :=
 ⟨Int.mul_nonneg h0 (by omega),Int.mul_le_mul_of_nonneg_right h1 (by omega)⟩
theorem Jy (acc c:Int)(k:Nat)(h0:0<=acc)(h1:acc<P2 (7*(k:Int))):0<=acc+c%128*P2 (7*(k:Int))/\acc+c%128*P2 (7*(k:Int))<P2 (7*((k+1:Nat):Int)):=by
 have h:=mul_bd (c%128) (P2 (7*(k:Int))) (by omega) (by omega) (Q7 _);have e:P2 (7*((k+1:Nat):Int))=128*P2 (7*(k:Int)):=by rw [<- P2_7 _ (by omega),show 7*((k+1:Nat):Int)=7*(k:Int)+7 by omega]
 rw [e];omega
theorem or_comm' (k:IntKind)(x y:Int):bits .or k x y=bits .or k y x:=by
 unfold bits;simp only [BitVec.or_comm]
theorem join_u64 (acc d:Int)(k:Nat)(h0:0<=acc)(h1:acc<P2 (7*(k:Int)))(hk:k<=9)(hd:0<=d)(hd':d*P2 (7*(k:Int))<=18446744073709551615) :
    bits .or .u64 acc (IntKind.u64.wrap (d*2 ^ (7*k)))=acc+d*P2 (7*(k:Int)):=by
 have hp:=Q7 (7*(k:Int));have hb:=Gl (n:=7*(k:Int)) (by omega);have hn:0<=d*P2 (7*(k:Int)):=Int.mul_nonneg hd (by omega);rw [<- P2_nat,IntKind.wrap_u64,Int.emod_eq_of_lt hn (by omega),or_comm',bits_join .u64 64 (by decide) (λn a b=>by rw [IntKind.wrap_u64];omega) (7*k) _ _ hn ?_ (by omega) h0 ?_ (by omega)]
 . omega
 . rw [P2_nat];exact Int.mul_emod_left _ _
 . rw [<- P2_nat];exact h1
theorem join_i64 (acc d:Int)(k:Nat)(h0:0<=acc)(h1:acc<P2 (7*(k:Int)))(hk:k<=8)(hd:0<=d)(hd':d<=127) :
    bits .or .i64 acc (wrap64 (d*2 ^ (7*k)))=acc+d*P2 (7*(k:Int)):=by
 have hp:=Q7 (7*(k:Int));have hb:=P2_56 (n:=7*(k:Int)) (by omega);have hm:=mul_bd d (P2 (7*(k:Int))) hd hd' hp;rw [<- P2_nat];have e:wrap64 (d*P2 (7*(k:Int)))=d*P2 (7*(k:Int)):=by unfold wrap64;omega
 rw [e,or_comm',bits_join .i64 63 (by decide) (λn a b=>by rw [IntKind.wrap_i64];omega) (7*k) _ _ hm.1 ?_ (by omega) h0 ?_ (by omega)]
 . omega
 . rw [P2_nat];exact Int.mul_emod_left _ _
 . rw [<- P2_nat];exact h1
theorem join_i64_9 (acc:Int)(h0:0<=acc)(h1:acc<9223372036854775808):bits .or .i64 acc (wrap64 (127*2 ^ (7*9)))=acc-9223372036854775808:=by
 have e:wrap64 (127*2 ^ (7*9))=-9223372036854775808:=by unfold wrap64;decide
 rw [e];obtain ⟨A,rfl⟩:=Int.eq_ofNat_of_zero_le h0
 show IntKind.i64.wrap ((BitVec.ofInt 64 (A:Int) ||| BitVec.ofInt 64 (-9223372036854775808)).toNat:Int)=_
 have e2:(BitVec.ofInt 64 (-9223372036854775808)).toNat=9223372036854775808:=by decide
 rw [BitVec.toNat_or,ofInt_u64 A (by omega),e2,Nat.or_comm,nat_join 63 9223372036854775808 A (by decide) (by omega),IntKind.wrap_i64]
 omega
theorem join_i64_0 (acc:Int)(h0:0<=acc)(h1:acc<9223372036854775808)(k:Nat):bits .or .i64 acc (wrap64 (0*2 ^ (7*k)))=acc:=by
 rw [Int.zero_mul];have e:wrap64 0=0:=by unfold wrap64;decide
 rw [e,or_comm',bits_join .i64 63 (by decide) (λn a b=>by rw [IntKind.wrap_i64];omega) 63 _ _ (by omega) (by omega) (by omega) h0 (by omega) (by omega)]
 omega
theorem cutU_fit (a:Int)(k:Nat)(hk:k<=8)(h0:0<=a)(h1:a<P2 (7*((k+1:Nat):Int))):XP a (7*((k:Int)+1))=a:=by
 rcases (show k=0\/k=1\/k=2\/k=3\/k=4\/k=5\/k=6\/k=7\/k=8 by omega) with rfl|rfl|rfl|rfl|rfl|rfl|rfl|rfl|rfl
 all_goals (simp [P2,XP,IntKind.wrap_u64] at *;omega)
theorem cutS_fit (a:Int)(k:Nat)(hk:k<=8)(h0:0<=a)(h1:a<P2 (7*((k+1:Nat):Int))):Xv a (7*((k:Int)+1))=if 64*P2 (7*(k:Int))<=a then a-P2 (7*(k:Int)+7) else a:=by
 rcases (show k=0\/k=1\/k=2\/k=3\/k=4\/k=5\/k=6\/k=7\/k=8 by omega) with rfl|rfl|rfl|rfl|rfl|rfl|rfl|rfl|rfl
 all_goals (simp [P2,Xv,wrap64] at *;omega)
theorem finU (acc c:Int)(k:Nat)(hk:k<=9)(h0:0<=acc)(h1:acc<P2 (7*(k:Int)))(hc0:0<=c)(hc:c<128)(h9:k=9->c<=1) :
    c%128*P2 (7*(k:Int))<=18446744073709551615/\0<=acc+c%128*P2 (7*(k:Int))/\acc+c%128*P2 (7*(k:Int))<=18446744073709551615 /\
    XP (acc+c%128*P2 (7*(k:Int))) (7*((k:Int)+1))=fin false (acc+c%128*P2 (7*(k:Int))) c k:=by
 have hs:=Jy acc c k h0 h1
 by_cases h:k=9
 . subst h;have hc1:=h9 rfl;have e:P2 (7*((9:Nat):Int))=9223372036854775808:=by decide
   rw [e] at h1 hs⊢;rw [show c%128=c by omega] at hs⊢
   refine ⟨by omega,by omega,by omega,?_⟩
   unfold XP fin;rw [if_pos (by omega),if_neg (by simp)]
   omega
 . have hm:=mul_bd (c%128) (P2 (7*(k:Int))) (by omega) (by omega) (Q7 _);have hb:=P2_56 (n:=7*(k:Int)) (by omega)
   refine ⟨by omega,by omega,by omega,?_⟩
   rw [cutU_fit _ k (by omega) hs.1 hs.2];unfold fin;rw [if_neg (by simp)]
   omega
theorem finS (acc c:Int)(k:Nat)(hk:k<=9)(h0:0<=acc)(h1:acc<P2 (7*(k:Int)))(hc0:0<=c)(hc:c<128)(h9:k=9->c=0\/c=127) :
    ∃ x,bits .or .i64 acc (wrap64 (c%128*2 ^ (7*k)))=x/\-9223372036854775808<=x/\x<=9223372036854775807 /\
    IntKind.u64.wrap (Xv x (7*((k:Int)+1)))=fin true (acc+c%128*P2 (7*(k:Int))) c k:=by
 have hs:=Jy acc c k h0 h1
 by_cases h:k=9
 . subst h;have e:P2 (7*((9:Nat):Int))=9223372036854775808:=by decide
   have e':P2 (7*((9:Nat):Int)+7)=1180591620717411303424:=by decide
   rw [e] at h1 hs⊢
   rcases h9 rfl with rfl|rfl
   . refine ⟨acc,join_i64_0 acc h0 h1 9,by omega,by omega,?_⟩
     unfold Xv fin;rw [if_pos (by omega),if_neg (by omega),IntKind.wrap_u64]
     omega
   . refine ⟨acc-9223372036854775808,join_i64_9 acc h0 h1,by omega,by omega,?_⟩
     unfold Xv fin;rw [if_pos (by omega),if_pos ⟨rfl,by omega⟩,IntKind.wrap_u64,e']
     omega
 . have hm:=mul_bd (c%128) (P2 (7*(k:Int))) (by omega) (by omega) (Q7 _);have hb:=P2_56 (n:=7*(k:Int)) (by omega)
   refine ⟨_,join_i64 acc (c%128) k h0 h1 (by omega) (by omega) (by omega),by omega,by omega,?_⟩
   rw [cutS_fit _ k (by omega) hs.1 hs.2,IntKind.wrap_u64];have hp:=Q7 (7*(k:Int));unfold fin;rw [show c%128=c by omega] at *
   by_cases h64:64<=c
   . have h1':64*P2 (7*(k:Int))<=c*P2 (7*(k:Int)):=Int.mul_le_mul_of_nonneg_right h64 (by omega);rw [if_pos (by omega),if_pos ⟨rfl,h64⟩]
   . have h1':c*P2 (7*(k:Int))<=63*P2 (7*(k:Int)):=Int.mul_le_mul_of_nonneg_right (by omega) (by omega);rw [if_neg (by omega),if_neg (by omega)]
end Go.Proofs.YtipfjdogokanbaaGreatDoor.Ed.By
namespace Go.Proofs.YtipfjdogokanbaaGreatDoor.Ed
open Go.RowKit Go.Sort
inductive Rs (α:Type) where
|bad (err at_:Int)
|ok (v:α) (p:Nat)
def Rs.bind {α β:Type}(r:Rs α)(k:α->Nat->Rs β):Rs β:=match r with
|.bad e a=>.bad e a
|.ok v p=>k v p
def Qy (bs:List Int)(p:Nat):Rs Int:=if bs.length<=p then .bad 2 bs.length else .ok (bs.getD p 0) (p+1)
abbrev flt (er at_:Int):PanicEntry:={ v:=.iface 67 (.agg #[.int .i64 er,.int .i64 at_,.nilIface]),recovered:=false }
def Qt (bs:List Int):Prop:=∀ i,0<=bs.getD i 0/\bs.getD i 0<=255
structure Rd (w:World)(q:Nat)(ba:Option Addr)(bc:Nat)(bs:List Int)(p:Nat):Prop where
 c0:w.cell? ⟨q,0,none⟩=some (.slice ba bs.length bc)
 c1:w.cell? ⟨q,1,none⟩=some (.int .i64 p)
 c2:w.cell? ⟨q,2,none⟩=some (.int .i64 9223372036854775807)
 fz:∀ i,w.frozen? ⟨q,i,none⟩=false
 has:By.Has w ba bs
 ne:∀ a,ba=some a->a.block≠q
 le:p<=bs.length
 cap:bs.length<=bc
 cn:w.cell? ⟨q,18,none⟩=some .nilFunc
 cw:w.cell? ⟨q,19,none⟩=some (.slice none 0 0)
theorem Rd.lt {w:World}{q:Nat}{ba:Option Addr}{bc:Nat}{bs:List Int}{p:Nat}(h:Rd w q ba bc bs p):q<w.heap.size:=World.block_lt_of_cell? w _ h.c0
theorem By.Has.keep {w w1:World}{a:Option Addr}{xs:List Int}(h:By.Has w a xs)(hb:Below w.heap.size w w1):By.Has w1 a xs:=by
 rcases h with h|⟨b,o,e,hc⟩
 . exact .inl h
 . exact .inr ⟨b,o,e,λi hi=>(hb.cell (World.block_lt_of_cell? w _ (hc i hi))).trans (hc i hi)⟩
theorem By.Has.grown {w w1:World}{a:Option Addr}{xs:List Int}{q:Nat}(h:By.Has w a xs)(hg:w.grownBy w1 (some q))(hne:∀ x,a=some x->x.block≠q):By.Has w1 a xs:=by
 rcases h with h|⟨b,o,e,hc⟩
 . exact .inl h
 . refine .inr ⟨b,o,e,λi hi=>?_⟩
   exact hg.cell (hc i hi) (by have:=hne _ e;simpa using this)
theorem Rd.keep {w w1:World}{q:Nat}{ba:Option Addr}{bc:Nat}{bs:List Int}{p:Nat}(h:Rd w q ba bc bs p)(hb:Below w.heap.size w w1):Rd w1 q ba bc bs p :=
 have hl:=h.lt
 ⟨(hb.cell (p:=⟨q,0,none⟩) hl).trans h.c0,(hb.cell (p:=⟨q,1,none⟩) hl).trans h.c1,(hb.cell (p:=⟨q,2,none⟩) hl).trans h.c2,λi=>(hb.frozen (p:=⟨q,i,none⟩) hl).trans (h.fz i),h.has.keep hb,h.ne,h.le,h.cap,(hb.cell (p:=⟨q,18,none⟩) hl).trans h.cn,(hb.cell (p:=⟨q,19,none⟩) hl).trans h.cw⟩
theorem Rd.drewN {w:World}{q:Nat}{ba:Option Addr}{bc:Nat}{bs:List Int}{p:Nat}(h:Rd w q ba bc bs p)(n:Nat):Rd (w.drewN n) q ba bc bs p :=
 ⟨h.c0,h.c1,h.c2,h.fz,h.has,h.ne,h.le,h.cap,h.cn,h.cw⟩
theorem grown_drewN {w w1:World}{r:Option Nat}(h:w.grownBy w1 r)(n:Nat):w.grownBy (w1.drewN n) r:=⟨h.os,h.tape,h.output,h.size,h.block⟩
theorem QW (w:World)(q o:Nat)(v:Value):w.grownBy (w.setCell ⟨q,o,none⟩ v) (some q) :=
 ⟨rfl,rfl,rfl,by simp [World.setCell],λk hk hne=>Below.heap_setCell w ⟨q,o,none⟩ v k (by simpa using hne)⟩
theorem Rd.step {w:World}{q:Nat}{ba:Option Addr}{bc:Nat}{bs:List Int}{p:Nat}(h:Rd w q ba bc bs p)(p':Nat)(hp:p'<=bs.length):Rd (w.setCell ⟨q,1,none⟩ (.int .i64 p')) q ba bc bs p' :=
 ⟨Qc h.c0 (by omega),Qh h.c1,Qc h.c2 (by omega),λi=>by rw [World.frozen?_setCell];exact h.fz i,h.has.grown (QW w q 1 _) h.ne,h.ne,hp,h.cap,Qc h.cn (by omega),Qc h.cw (by omega)⟩
theorem fail_c (q:Nat)(er at_:Int)(w:World)(c1:w.cell? ⟨q,1,none⟩=some (.int .i64 at_)) :
    Calls Tryz.prog 78 #[.pointer (some ⟨q,0,none⟩),.int .i64 er] w λe w'=>e=.panicked [flt er at_]/\w=w':=by
 go_enter Tryz.func78,Tryz.ntmps78
 go_wp2
 exact ⟨rfl,rfl,rfl⟩
theorem neqF2 {P:Program}{t:TypeId}{ps rs:Array TypeId}{vd:Bool}(ht:P.underlying t=some (.func ps rs vd))(w:World):(binOp .neq t .nilFunc .nilFunc).run P w=.ok (.bool false) w:=by
 have:=eqF2 ht w
 simp only [binOp,Sem.run_bind,Sem.run_pure] at this⊢
 cases hq:Sem.run P (Op.equal t Value.nilFunc Value.nilFunc) w with
|ok b w' =>
  rw [hq] at this
  simp [Result.andThen] at this⊢
  obtain ⟨rfl,rfl⟩:=this
  exact ⟨rfl,rfl⟩
|_=>rw [hq] at this;simp [Result.andThen] at this
theorem drewN2 (w:World)(a b:Nat):(w.drewN a).drewN b=w.drewN (a+b):=by
 simp [World.drewN,Nat.add_assoc]
theorem more_c (q:Nat)(ba:Option Addr)(bc:Nat)(bs:List Int)(p:Nat)(w:World)(h:Rd w q ba bc bs p) :
    Calls Tryz.prog 119 #[.pointer (some ⟨q,0,none⟩)] w λe w'=>e=.returned (.bool (decide (p<bs.length)))/\∃ n,w'=w.drewN n:=by
 have c0:=h.c0;have c1:=h.c1;have cn:=h.cn;have hle:=h.le;have hnf:=λw=>neqF2 (P:=Tryz.prog) Tryz.underlying60 w;clear h
 by_cases hlt:p<bs.length
 . have hi:(p:Int)<(bs.length:Int):=by omega
   have hne:((p:Int)==(bs.length:Int))=false:=by simp;omega
   go_enter Tryz.func119,Tryz.ntmps119
   go_wp2
   go_quiet (fail)
   go_wp2
   go_quiet (fail)
   go_wp2
   go_ret
   exact ⟨by simp [hlt],_,drewN2 _ _ _⟩
 . have hi:¬ (p:Int)<(bs.length:Int):=by omega
   have hpe:p=bs.length:=by omega
   subst hpe
   go_enter Tryz.func119,Tryz.ntmps119
   go_wp2
   go_quiet (fail)
   go_wp2
   go_quiet (fail)
   go_wp2
   go_ret
   exact ⟨by simp [hlt],_,drewN2 _ _ _⟩
end Go.Proofs.YtipfjdogokanbaaGreatDoor.Ed
namespace Go.Proofs.YtipfjdogokanbaaGreatDoor.Ed
open Go.RowKit Go.Sort
theorem Qj {P:Program}{c:Code}{Q:Exit->Act->World->Prop}{a:Act}{w0:World}(R:World->Prop)(hR:R w0)(h:∀ W,R W->c.wp P Q a W):c.wp P Q a w0:=h w0 hR
theorem take_bad (q:Nat)(ba:Option Addr)(bc:Nat)(bs:List Int)(p:Nat)(w:World)(h:Rd w q ba bc bs p)(hp:bs.length<=p) :
    Calls Tryz.prog 77 #[.pointer (some ⟨q,0,none⟩)] w λe w'=>e=.panicked [flt 2 bs.length]/\w.grownBy w' (some q):=by
 have hpe:p=bs.length:=by have:=h.le;omega
 subst hpe;have KM:=Hm (more_c q ba bc bs _ w h);have hd:decide (bs.length<bs.length)=false:=by simp
 rw [hd] at KM;have KF:=Hm (λn=>fail_c q 2 bs.length (w.drewN n) h.c1);clear hd h hp
 go_enter Tryz.func77,Tryz.ntmps77
 go_wp2_with fail
 refine (KM.o).mono ?_
 rintro e w1 ⟨rfl,n,rfl⟩
 go_wp2_with fail
 refine (KF.o n).mono ?_
 rintro e w2 ⟨rfl,rfl⟩
 exact ⟨rfl,rfl,grown_drewN (World.grownBy.refl _ _) n⟩
theorem take_ok (q:Nat)(ba:Option Addr)(bc:Nat)(bs:List Int)(p:Nat)(w:World)(h:Rd w q ba bc bs p)(hp:p<bs.length)(hl:bs.length<=1099511627776) :
    Calls Tryz.prog 77 #[.pointer (some ⟨q,0,none⟩)] w λe w'=>e=.returned (.int .u8 (bs.getD p 0))/\Rd w' q ba bc bs (p+1)/\w.grownBy w' (some q):=by
 obtain ⟨y,hy⟩:∃ y,bs.getD p 0=y:=⟨_,rfl⟩;rw [hy];have HY:=Hm hy;clear hy;have KM:=Hm (more_c q ba bc bs _ w h);have hd:decide (p<bs.length)=true:=by simp [hp]
 rw [hd] at KM;have H:=Hm h;have c1:∀ n,(w.drewN n).cell? ⟨q,1,none⟩=some (.int .i64 p):=λn=>h.c1;have f1:∀ n,(w.drewN n).frozen? ⟨q,1,none⟩=false:=λn=>h.fz 1;clear hd h
 go_enter Tryz.func77,Tryz.ntmps77
 go_wp2_with fail
 refine (KM.o).mono ?_
 rintro e w1 ⟨rfl,n,rfl⟩;have d1:=c1 n;have g1:=f1 n;clear c1 f1 KM
 go_upto_region 4 with fail
 refine Qj (λW=>Rd W q ba bc bs (p+1)/\w.grownBy W (some q)) ⟨?_,?_⟩ ?_
 . have:=(H.o.drewN n).step (p+1) (by omega)
   simpa using this
 . exact Qa (grown_drewN (World.grownBy.refl _ _) n) (QW _ q 1 _)
 rintro W ⟨hR,hG⟩;have e0:=hR.c0;have e1:=hR.c1;have e2:=hR.c2;have HG:=Hm hG;have HR:=Hm hR
 rcases hR.has with hx|⟨b1,o1,ea,hc⟩
 . subst hx;simp at hp
 have d:=hc p hp;rw [HY.o] at d;subst ea;have hpi:(p:Int)<(bs.length:Int):=by omega
 have hpm:¬ (9223372036854775807:Int)<(p:Int)+1:=by omega
 have ecast:((p+1:Nat):Int)=(p:Int)+1:=by omega
 rw [ecast] at e1;clear hR hG hc H d1 g1 ecast
 go_quiet (fail)
 go_wp2_with fail
 go_quiet (fail)
 go_wp2_with fail
 go_ret
 exact ⟨rfl,⟨HR.o.c0,HR.o.c1,HR.o.c2,HR.o.fz,HR.o.has,HR.o.ne,HR.o.le,HR.o.cap,HR.o.cn,HR.o.cw⟩,⟨HG.o.os,HG.o.tape,HG.o.output,HG.o.size,HG.o.block⟩⟩
end Go.Proofs.YtipfjdogokanbaaGreatDoor.Ed
namespace Go.Proofs.YtipfjdogokanbaaGreatDoor.Ed
open Go.RowKit Go.Sort
def Qp (s:Bool)(B:Int)(bs:List Int)(p:Nat):Rs Int :=
 if (By.QR s bs p B 10 0 0).1=1 then .bad 2 bs.length else if (By.QR s bs p B 10 0 0).1=0 then .ok (By.QR s bs p B 10 0 0).2.1 (By.QR s bs p B 10 0 0).2.2.toNat else .bad 7 (By.QR s bs p B 10 0 0).2.2
def Inv (s:Bool)(bs:List Int)(p:Nat)(B:Int)(k:Nat):Prop :=
 ∃ acc,By.QR s bs p B 10 0 0=By.QR s bs p B (10-k) k acc/\∀ m,p+k<=m->By.QR s (bs.take m) p B 10 0 0=By.QR s (bs.take m) p B (10-k) k acc
theorem Inv.start (s:Bool)(bs:List Int)(p:Nat)(B:Int):Inv s bs p B 0:=⟨0,rfl,λ_ _=>rfl⟩
theorem take_getD (bs:List Int)(m i:Nat)(h:i<m):(bs.take m).getD i 0=bs.getD i 0:=by simp [List.getD,h]
theorem Inv.step {s:Bool}{bs:List Int}{p:Nat}{B:Int}{k:Nat}(h:Inv s bs p B k)(hp:p+k<bs.length)(hB:B<=64)(hr:7*((k:Int)+1)<B)(hc:128<=bs.getD (p+k) 0):Inv s bs p B (k+1):=by
 obtain ⟨acc,h1,h2⟩:=h;have e:10-k=(10-(k+1))+1:=by omega
 rw [e] at h1 h2;rw [By.JU hp (by omega) hc] at h1
 refine ⟨_,h1,λm hm=>?_⟩
 have g:=take_getD bs m (p+k) (by omega);rw [h2 m (by omega),By.JU (by simp;omega) (by omega) (by rw [g];exact hc),g]
theorem Inv.fin {s:Bool}{bs:List Int}{p:Nat}{B:Int}{k:Nat}(h:Inv s bs p B k)(hp:p+k<bs.length)(hB:B<=64)(hr:7*(k:Int)<B)(hc:bs.getD (p+k) 0<128\/B<=7*((k:Int)+1)) :
    ∃ r v:Int,By.QR s bs p B 10 0 0=(r,v,(p:Int)+k+1)/\By.QR s (bs.take (p+k+1)) p B 10 0 0=(r,v,(p:Int)+k+1)/\r≠1:=by
 obtain ⟨acc,h1,h2⟩:=h;have e:10-k=(9-k)+1:=by omega
 rw [e] at h1 h2;have g:=take_getD bs (p+k+1) (p+k) (by omega);have hl:p+k<(bs.take (p+k+1)).length:=by simp;omega
 have h3:=h2 (p+k+1) (by omega)
 by_cases c1:128<=bs.getD (p+k) 0
 . rw [By.JV hp (by omega) c1] at h1;rw [By.JV hl (by omega) (by rw [g];exact c1)] at h3
   exact ⟨2,0,h1,h3,by decide⟩
 . by_cases c2:B-7*(k:Int)<=7/\By.rok s (bs.getD (p+k) 0) (B-7*(k:Int))=false
   . rw [By.JW hp c2.1 (by omega) c2.2] at h1;rw [By.JW hl c2.1 (by rw [g];omega) (by rw [g];exact c2.2)] at h3
     exact ⟨3,0,h1,h3,by decide⟩
   . have c3:B-7*(k:Int)<=7->By.rok s (bs.getD (p+k) 0) (B-7*(k:Int))=true:=λh=>by
       cases hh:By.rok s (bs.getD (p+k) 0) (B-7*(k:Int)) with
      |false=>exact absurd ⟨h,hh⟩ c2
      |true=>rfl
     rw [By.Xj hp (by omega) c3] at h1;rw [By.Xj hl (by rw [g];omega) (by rw [g];exact c3),g] at h3
     exact ⟨0,_,h1,h3,by decide⟩
theorem Inv.short {s:Bool}{bs:List Int}{p:Nat}{B:Int}{k:Nat}(h:Inv s bs p B k)(hp:bs.length<=p+k)(hB:B<=64)(hr:7*(k:Int)<B):Qp s B bs p=.bad 2 bs.length:=by
 obtain ⟨acc,h1,h2⟩:=h;have e:10-k=(9-k)+1:=by omega
 rw [e,By.XN hp] at h1;unfold Qp;rw [h1,if_pos rfl]
theorem numM_ok {s:Bool}{bs:List Int}{p:Nat}{B:Int}{n:Nat}{v:Int}(h:By.QR s bs p B 10 0 0=(0,v,(n:Int))):Qp s B bs p=.ok v n:=by
 unfold Qp;rw [h,if_neg (show ¬ ((0:Int)=1) by decide),if_pos rfl,Int.toNat_natCast]
theorem numM_bad {s:Bool}{bs:List Int}{p:Nat}{B:Int}{r v n:Int}(h:By.QR s bs p B 10 0 0=(r,v,n))(h0:r≠0)(h1:r≠1):Qp s B bs p=.bad 7 n:=by
 unfold Qp;rw [h,if_neg h1,if_neg h0]
end Go.Proofs.YtipfjdogokanbaaGreatDoor.Ed
namespace Go.Proofs.YtipfjdogokanbaaGreatDoor.Ed.By
open Go.RowKit
theorem Has.below {w w':World}{a:Option Addr}{xs:List Int}(h:Has w a xs)(hb:Below w.heap.size w w'):Has w' a xs:=By.Has.keep h hb
theorem Qm (n:Int)(w:World)(h0:0<=n)(h1:n<=63) :
    Calls Tryz.prog 101 #[.int .i64 n] w λe w'=>e=.returned (.int .u64 (P2 n))/\w=w':=by
 go_enter Tryz.func101,Tryz.ntmps101
 go_wp2
 go_loop [3,4] (λx i=>∃ k:Int,0<=k/\k<=n/\i=.int .i64 k/\x=.int .u64 (P2 k)) (λ_ i=>(n-intOf i).toNat)
 case atStart=>exact ⟨0,by omega,h0,rfl,rfl⟩
 case round =>
  obtain ⟨k,hk0,hk,rfl,rfl⟩:=hrel;have hp:=Q7 k
  by_cases hlt:k<n
  . have hb:=P2_62 (n:=k) (by omega);have HS:Hid (P2 (k+1)=2*P2 k):=Xx k hk0
    go_wp2
    go_round
    case rel=>exact ⟨k+1,by omega,by omega,rfl,by rw [HS.o,Int.mul_comm]⟩
    case measure=>simp [intOf];omega
  . have e:k=n:=by omega
    subst e
    go_wp2
    go_ret
    exact ⟨rfl,rfl⟩
theorem rest_any (s:Bool)(c u:Int)(w:World)(hc0:0<=c)(hc1:c<=255)(hu0:1<=u)(hu1:u<=64) :
    Calls Tryz.prog 128 #[.int .u8 c,.int .i64 u,.bool s] w λe w'=>e=.returned (.bool (rok s c u))/\w=w':=by
 by_cases h7:7<=u
 . have e:rok s c u=true:=by unfold rok;rw [if_pos h7]
   rw [e];clear e
   go_enter Tryz.func128,Tryz.ntmps128
   go_wp2
   go_ret
   exact ⟨rfl,rfl⟩
 . have hp:=Q7 u;have hp1:=Q7 (u-1);have hp8:=Q7 (8-u);have hb8:=P2_62 (n:=8-u) (by omega)
   cases s
   . have e:rok false c u=(c%128 / P2 u==0):=by unfold rok;rw [if_neg h7];rfl
     rw [e];clear e
     go_enter Tryz.func128,Tryz.ntmps128
     go_wp2_with (go_at_call 101;refine (Qm _ _ (by omega) (by omega)).mono ?_;rintro e w' ⟨rfl,rfl⟩)
     go_ret
     exact ⟨rfl,rfl⟩
   . have e:rok true c u=((c%128 / P2 (u-1)==0) || (c%128 / P2 (u-1)==P2 (8-u)-1)):=by unfold rok;rw [if_neg h7];rfl
     rw [e];clear e
     cases hq:(c%128 / P2 (u-1)==0)
     . go_enter Tryz.func128,Tryz.ntmps128
       go_wp2_with (go_at_call 101;refine (Qm _ _ (by omega) (by omega)).mono ?_;rintro e w' ⟨rfl,rfl⟩)
       go_ret
       exact ⟨rfl,rfl⟩
     . go_enter Tryz.func128,Tryz.ntmps128
       go_wp2_with (go_at_call 101;refine (Qm _ _ (by omega) (by omega)).mono ?_;rintro e w' ⟨rfl,rfl⟩)
       go_ret
       exact ⟨rfl,rfl⟩
theorem X9 (c u:Int)(w:World)(hc0:0<=c)(hc1:c<=255)(hu0:1<=u)(hu1:u<=64) :
    Calls Tryz.prog 188 #[.int .u8 c,.int .i64 u] w λe w'=>e=.returned (.int .i64 (JT false c u))/\w=w':=by
 unfold JT
 by_cases h7:7<u
 . rw [if_pos h7]
   go_enter Tryz.func188,Tryz.ntmps188
   go_wp2
   go_ret
   exact ⟨rfl,rfl⟩
 . rw [if_neg h7]
   by_cases h8:128<=c
   . rw [if_pos h8]
     go_enter Tryz.func188,Tryz.ntmps188
     go_wp2
     go_ret
     exact ⟨rfl,rfl⟩
   . rw [if_neg h8];have hr:=rokU c u hc0 (by omega) hu0 (by omega);have h7c:=cutU_7 c;have hg0:0<=XP c 7:=by omega
     have hg1:XP c 7<=127:=by omega
     clear h7c
     cases hq:rok false c u
     . rw [hq] at hr;rw [if_neg (by simp)];clear hq
       go_enter Tryz.func188,Tryz.ntmps188
       go_wp2_with (go_at_call 181;refine (J2 _ _ _ (by omega) (by omega) (by omega) (by omega)).mono ?_;rintro e w' ⟨rfl,rfl⟩)
       go_ret
       exact ⟨rfl,rfl⟩
     . rw [hq] at hr;rw [if_pos rfl];clear hq
       go_enter Tryz.func188,Tryz.ntmps188
       go_wp2_with (go_at_call 181;refine (J2 _ _ _ (by omega) (by omega) (by omega) (by omega)).mono ?_;rintro e w' ⟨rfl,rfl⟩)
       go_ret
       exact ⟨rfl,rfl⟩
theorem Ga (c u:Int)(w:World)(hc0:0<=c)(hc1:c<=255)(hu0:1<=u)(hu1:u<=64) :
    Calls Tryz.prog 157 #[.int .u8 c,.int .i64 u] w λe w'=>e=.returned (.int .i64 (JT true c u))/\w=w':=by
 unfold JT
 by_cases h7:7<u
 . rw [if_pos h7]
   go_enter Tryz.func157,Tryz.ntmps157
   go_wp2
   go_ret
   exact ⟨rfl,rfl⟩
 . rw [if_neg h7]
   by_cases h8:128<=c
   . rw [if_pos h8]
     go_enter Tryz.func157,Tryz.ntmps157
     go_wp2
     go_ret
     exact ⟨rfl,rfl⟩
   . rw [if_neg h8];have hr:=rokS c u hc0 (by omega) hu0 (by omega);have h7c:=cutS_7 c;have hg0:-64<=Xv c 7:=by omega
     have hg1:Xv c 7<=63:=by omega
     clear h7c
     cases hq:rok true c u
     . rw [hq] at hr;rw [if_neg (by simp)];clear hq
       go_enter Tryz.func157,Tryz.ntmps157
       go_wp2_with (go_at_call 158;refine (J3 _ _ _ (by omega) (by omega) (by omega) (by omega)).mono ?_;rintro e w' ⟨rfl,rfl⟩)
       go_ret
       exact ⟨rfl,rfl⟩
     . rw [hq] at hr;rw [if_pos rfl];clear hq
       go_enter Tryz.func157,Tryz.ntmps157
       go_wp2_with (go_at_call 158;refine (J3 _ _ _ (by omega) (by omega) (by omega) (by omega)).mono ?_;rintro e w' ⟨rfl,rfl⟩)
       go_ret
       exact ⟨rfl,rfl⟩
end Go.Proofs.YtipfjdogokanbaaGreatDoor.Ed.By
namespace Go.Proofs.YtipfjdogokanbaaGreatDoor.Ed.By
open Go.RowKit
def inB (x lo hi:Int):Bool:=decide (lo<=x/\x<=hi)
theorem in_false {x lo hi:Int}(h:(!inB x lo hi)=true):¬ (lo<=x/\x<=hi):=by
 unfold inB at h;simp at h;omega
theorem in_true {x lo hi:Int}(h:inB x lo hi=true):lo<=x/\x<=hi:=by
 unfold inB at h;simpa using h
def RV (r:Int × Int × Int):Value:=.agg #[.int .i64 r.1,.int .u64 r.2.1,.int .i64 r.2.2]
theorem val1 {v acc q:Int}(h:v=acc%18446744073709551616):IntKind.u64.wrap (v+IntKind.u64.wrap q)=(acc+q)%18446744073709551616:=by
 rw [IntKind.wrap_u64,IntKind.wrap_u64,h];omega
theorem val2 {v acc q r:Int}(h:v=acc%18446744073709551616):IntKind.u64.wrap (IntKind.u64.wrap (v+IntKind.u64.wrap q)-r)=(acc+q-r)%18446744073709551616:=by
 rw [val1 h,IntKind.wrap_u64];omega
theorem val3 {v acc q:Int}{k:Nat}(hk:k=9)(h:v=acc%18446744073709551616):IntKind.u64.wrap (v+IntKind.u64.wrap q)=(acc+q-P2 (7*(k:Int)+7))%18446744073709551616:=by
 subst hk;rw [val1 h,show P2 (7*((9:Nat):Int)+7)=1180591620717411303424 by decide];omega
end Go.Proofs.YtipfjdogokanbaaGreatDoor.Ed.By
