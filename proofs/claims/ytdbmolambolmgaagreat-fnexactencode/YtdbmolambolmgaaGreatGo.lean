import Derived.Test.YtdbmolambolmgaaGreatGn
import Derived.ScopeJumps
set_option linter.all false
set_option maxHeartbeats 16000000
set_option maxRecDepth 100000
namespace Go.Proofs.YtdbmolambolmgaaGreat
open Go.RowKit
def HasB (w:World) (a:Option Addr) (xs:List Int):Prop :=
 xs=[]∨∃ b off,a=some ⟨b,off,none⟩∧∀ i,i<xs.length→w.cell? ⟨b,off+i,none⟩=some (.int .u8 (xs.getD i 0))
def ldN (c:Int):Int:=if c<128 then 0 else if c<194 then -1 else if c<224 then 1 else if c<240 then 2 else if c<245 then 3 else -1
def ldLo (c:Int):Int:=if c<194 then 0 else if c<224 then 128 else if c<225 then 160 else if c<240 then 128 else if c<241 then 144 else if c<245 then 128 else 0
def ldHi (c:Int):Int:=if c<194 then 0 else if c<237 then 191 else if c<238 then 159 else if c<244 then 191 else if c<245 then 143 else 0
theorem ldN_bd (c:Int):-1≤ldN c∧ldN c≤3:=by unfold ldN;omega
def uf:Nat→Int→Int→Nat→List Int→Int
 | 0,_,_,_,[]=>-1
 | 0,_,_,p,c::cs=>if ldN c<0 then p else uf (ldN c).toNat (ldLo c) (ldHi c) (p+1) cs
 | _+1,_,_,p,[]=>p
 | l+1,lo,hi,p,c::cs=>if c<lo∨hi<c then p else uf l 128 191 (p+1) cs
section
variable {bs:List Int} {p:Nat} {lo hi:Int}
theorem uf_any0 (lo' hi':Int) (cs:List Int):uf 0 lo hi p cs=uf 0 lo' hi' p cs:=by cases cs <;> simp [uf]
theorem uf_end0 (h:p=bs.length):uf 0 lo hi p (bs.drop p)=-1:=by subst h;simp [uf]
theorem uf_endl {l:Nat} (h:p=bs.length):uf (l+1) lo hi p (bs.drop p)=p:=by subst h;simp [uf]
theorem uf_bad (h:p<bs.length) (hn:ldN (bs.getD p 0)<0):uf 0 lo hi p (bs.drop p)=p:=by
 rw [List.drop_eq_getElem_cons h]
 simp only [List.getD,List.getElem?_eq_getElem h,Option.getD_some] at hn
 simp [uf,hn]
theorem uf_lead (h:p<bs.length) (hn:¬ ldN (bs.getD p 0)<0):uf 0 lo hi p (bs.drop p)=uf (ldN (bs.getD p 0)).toNat (ldLo (bs.getD p 0)) (ldHi (bs.getD p 0)) (p+1) (bs.drop (p+1)):=by
 rw [List.drop_eq_getElem_cons h]
 simp only [List.getD,List.getElem?_eq_getElem h,Option.getD_some] at hn⊢
 simp [uf,hn]
theorem uf_out {l:Nat} (h:p<bs.length) (hn:bs.getD p 0<lo∨hi<bs.getD p 0):uf (l+1) lo hi p (bs.drop p)=p:=by
 rw [List.drop_eq_getElem_cons h]
 simp only [List.getD,List.getElem?_eq_getElem h,Option.getD_some] at hn
 simp [uf,hn]
theorem uf_next {l:Nat} (h:p<bs.length) (hn:¬ (bs.getD p 0<lo∨hi<bs.getD p 0)):uf (l+1) lo hi p (bs.drop p)=uf l 128 191 (p+1) (bs.drop (p+1)):=by
 rw [List.drop_eq_getElem_cons h]
 simp only [List.getD,List.getElem?_eq_getElem h,Option.getD_some] at hn
 simp only [uf]
 rw [if_neg hn]
end
theorem follow_any (c:Int) (w:World) (h0:0≤c) (h1:c≤255) :
    Calls Tryz.prog 170 #[.int .u8 c] w fun e w'=>e=.returned (.tuple #[.int .i64 (ldN c),.int .u8 (ldLo c),.int .u8 (ldHi c)])∧w=w':=by
 rcases (show c<128∨(128≤c∧c<194)∨(194≤c∧c<224)∨c=224∨(225≤c∧c<237)∨c=237∨(238≤c∧c<240)∨c=240∨(241≤c∧c<244)∨c=244∨244<c by omega) with h | ⟨h,h'⟩ | ⟨h,h'⟩ | rfl | ⟨h,h'⟩ | rfl | ⟨h,h'⟩ | rfl | ⟨h,h'⟩ | rfl | h
 · rw [show ldN c=0 by unfold ldN;omega,show ldLo c=0 by unfold ldLo;omega,show ldHi c=0 by unfold ldHi;omega]
   go_enter Tryz.func170,Tryz.ntmps170
   go_wp2
   go_ret3
   exact ⟨rfl,rfl⟩
 · rw [show ldN c=-1 by unfold ldN;omega,show ldLo c=0 by unfold ldLo;omega,show ldHi c=0 by unfold ldHi;omega]
   go_enter Tryz.func170,Tryz.ntmps170
   go_wp2
   go_ret3
   exact ⟨rfl,rfl⟩
 · rw [show ldN c=1 by unfold ldN;omega,show ldLo c=128 by unfold ldLo;omega,show ldHi c=191 by unfold ldHi;omega]
   go_enter Tryz.func170,Tryz.ntmps170
   go_wp2
   go_ret3
   exact ⟨rfl,rfl⟩
 · rw [show ldN 224=2 by decide,show ldLo 224=160 by decide,show ldHi 224=191 by decide]
   go_enter Tryz.func170,Tryz.ntmps170
   go_wp2
   go_ret3
   exact ⟨rfl,rfl⟩
 · rw [show ldN c=2 by unfold ldN;omega,show ldLo c=128 by unfold ldLo;omega,show ldHi c=191 by unfold ldHi;omega]
   go_enter Tryz.func170,Tryz.ntmps170
   go_wp2
   go_ret3
   exact ⟨rfl,rfl⟩
 · rw [show ldN 237=2 by decide,show ldLo 237=128 by decide,show ldHi 237=159 by decide]
   go_enter Tryz.func170,Tryz.ntmps170
   go_wp2
   go_ret3
   exact ⟨rfl,rfl⟩
 · rw [show ldN c=2 by unfold ldN;omega,show ldLo c=128 by unfold ldLo;omega,show ldHi c=191 by unfold ldHi;omega]
   go_enter Tryz.func170,Tryz.ntmps170
   go_wp2
   go_ret3
   exact ⟨rfl,rfl⟩
 · rw [show ldN 240=3 by decide,show ldLo 240=144 by decide,show ldHi 240=191 by decide]
   go_enter Tryz.func170,Tryz.ntmps170
   go_wp2
   go_ret3
   exact ⟨rfl,rfl⟩
 · rw [show ldN c=3 by unfold ldN;omega,show ldLo c=128 by unfold ldLo;omega,show ldHi c=191 by unfold ldHi;omega]
   go_enter Tryz.func170,Tryz.ntmps170
   go_wp2
   go_ret3
   exact ⟨rfl,rfl⟩
 · rw [show ldN 244=3 by decide,show ldLo 244=128 by decide,show ldHi 244=143 by decide]
   go_enter Tryz.func170,Tryz.ntmps170
   go_wp2
   go_ret3
   exact ⟨rfl,rfl⟩
 · rw [show ldN c=-1 by unfold ldN;omega,show ldLo c=0 by unfold ldLo;omega,show ldHi c=0 by unfold ldHi;omega]
   go_enter Tryz.func170,Tryz.ntmps170
   go_wp2
   go_ret3
   exact ⟨rfl,rfl⟩
open Go.RowKit
def AllB (xs:List Int):Prop:=∀ i,0≤xs.getD i 0∧xs.getD i 0≤255
theorem specUtf8_any (a:Option Addr) (cap:Nat) (bs:List Int) (w:World) (hl:bs.length≤1099511627776) (ha:HasB w a bs) (hB:AllB bs) :
    Calls Tryz.prog 114 #[.slice a bs.length cap] w fun e w'=>e=.returned (.int .i64 (uf 0 0 0 0 bs))∧w=w':=by
 obtain ⟨R,hR⟩:∃ R,R=uf 0 0 0 0 bs:=⟨_,rfl⟩
 have HR:Hid (uf 0 0 0 0 (bs.drop 0)=R):=by rw [hR];rfl
 rw [← hR]
 clear hR
 rcases ha with hx | ⟨b1,o1,rfl,hc1⟩
 · subst hx
   have e:R=-1:=by rw [← HR.out];rfl
   subst e
   clear HR hB hl
   go_enter Tryz.func114,Tryz.ntmps114
   go_wp2
   refine wp_loop_rounds 1 ?_
   rw [rounds_succ]
   go_wp2
   go_ret
   exact ⟨rfl,rfl⟩
 · have HC1:Hid (∀ i,i<bs.length→w.cell? ⟨b1,o1+i,none⟩=some (.int .u8 (bs.getD i 0))):=hc1
   clear hc1
   go_enter Tryz.func114,Tryz.ntmps114
   go_wp2
   go_loop [4] (fun i=>∃ p:Nat,p≤bs.length∧i=.int .i64 p∧Hid (uf 0 0 0 p (bs.drop p)=R)) (fun i=>bs.length-(intOf i).toNat)
   case atStart=>exact ⟨0,Nat.zero_le _,rfl,HR⟩
   case round =>
    obtain ⟨p,hp,rfl,HP⟩:=hrel
    by_cases hlt:p<bs.length
    · have d1:w.cell? ⟨b1,o1+p,none⟩=some (.int .u8 (bs.getD p 0)):=HC1.out p hlt
      have hpi:(p:Int)<(bs.length:Int):=by omega
      obtain ⟨c,hcc⟩:∃ c,c=bs.getD p 0:=⟨_,rfl⟩
      rw [← hcc] at d1
      have HC:Hid (c=bs.getD p 0):=hcc
      have hb:=hB p
      rw [← hcc] at hb
      obtain ⟨hb0,hb1⟩:=hb
      have hn:=ldN_bd c
      clear hcc
      by_cases hneg:ldN c<0
      · have e:R=p:=by rw [← HP.out,uf_bad hlt (by rw [← HC.out];exact hneg)]
        subst e
        go_wp2_with (go_at_call 170;refine (follow_any _ _ hb0 hb1).mono ?_;rintro e w' ⟨rfl,rfl⟩)
        go_ret
        exact ⟨rfl,rfl⟩
      · have HP':Hid (uf (ldN c).toNat (ldLo c) (ldHi c) (p+1) (bs.drop (p+1))=R):=by
          have:=HP.out
          rw [uf_lead hlt (by rw [← HC.out];exact hneg),← HC.out] at this
          exact this
        go_wp2_with (go_at_call 170;refine (follow_any _ _ hb0 hb1).mono ?_;rintro e w' ⟨rfl,rfl⟩)
        go_loop [6,7,8] (fun lv hv kv=>∃ (k l:Nat) (lo hi:Int),(k:Int)+l=ldN c+1∧1≤k∧p+k≤bs.length∧kv=.int .i64 k∧lv=.int .u8 lo∧hv=.int .u8 hi∧Hid (uf l lo hi (p+k) (bs.drop (p+k))=R)) (fun _ _ kv=>5-(intOf kv).toNat)
        case atStart=>exact ⟨1,(ldN c).toNat,_,_,by omega,by omega,by omega,rfl,rfl,rfl,HP'⟩
        case round =>
         obtain ⟨k,l,lo,hi,hkl,hk1,hpk,rfl,rfl,rfl,HK⟩:=hrel
         clear d1
         cases l with
         | zero =>
          have hkk:ldN c<(k:Int):=by omega
          go_wp2
          go_round
          case rel=>exact ⟨p+k,hpk,by rw [show ((p+k:Nat):Int)=(p:Int)+1+ldN c by omega],(uf_any0 lo hi _).trans HK.out⟩
          case measure=>simp [intOf];omega
         | succ l =>
          have hkk:(k:Int)≤ldN c:=by omega
          by_cases hend:p+k<bs.length
          · have d2:w.cell? ⟨b1,o1+(p+k),none⟩=some (.int .u8 (bs.getD (p+k) 0)):=HC1.out (p+k) hend
            obtain ⟨q,hqq⟩:∃ q,q=bs.getD (p+k) 0:=⟨_,rfl⟩
            rw [← hqq] at d2
            have HC2:Hid (q=bs.getD (p+k) 0):=hqq
            clear hqq
            have hei:(p:Int)+k<(bs.length:Int):=by omega
            by_cases ho1:q<lo
            · have e:R=((p+k:Nat):Int):=by rw [← HK.out,uf_out hend (by rw [← HC2.out];exact .inl ho1)]
              subst e
              go_wp2
              go_ret
              exact ⟨rfl,rfl⟩
            · by_cases ho2:hi<q
              · have e:R=((p+k:Nat):Int):=by rw [← HK.out,uf_out hend (by rw [← HC2.out];exact .inr ho2)]
                subst e
                go_wp2
                go_ret
                exact ⟨rfl,rfl⟩
              · have HK':Hid (uf l 128 191 (p+k+1) (bs.drop (p+k+1))=R):=by
                  have:=HK.out
                  rw [uf_next hend (by rw [← HC2.out];omega)] at this
                  exact this
                go_wp2
                go_round
                case rel=>exact ⟨k+1,l,128,191,by omega,by omega,by omega,by go_num,rfl,rfl,HK'⟩
                case measure=>simp [intOf];omega
          · have e:R=(bs.length:Int):=by rw [← HK.out,uf_endl (by omega)];omega
            subst e
            have hei:(bs.length:Int)≤(p:Int)+k:=by omega
            go_wp2
            go_ret
            exact ⟨rfl,rfl⟩
    · have e:R=-1:=by rw [← HP.out,uf_end0 (by omega)]
      subst e
      go_wp2
      go_ret
      exact ⟨rfl,rfl⟩
open Go.RowKit
theorem utf8Lead_any (c:Int) (w:World) (h0:0≤c) (h1:c≤255) :
    Calls Tryz.prog 217 #[.int .u8 c] w fun e w'=>e=.returned (.tuple #[.int .i64 (ldN c),.int .u8 (ldLo c),.int .u8 (ldHi c)])∧w=w':=by
 rcases (show c<128∨(128≤c∧c<194)∨(194≤c∧c<224)∨c=224∨(225≤c∧c<237)∨c=237∨(238≤c∧c<240)∨c=240∨(241≤c∧c<244)∨c=244∨244<c by omega) with h | ⟨h,h'⟩ | ⟨h,h'⟩ | rfl | ⟨h,h'⟩ | rfl | ⟨h,h'⟩ | rfl | ⟨h,h'⟩ | rfl | h
 · rw [show ldN c=0 by unfold ldN;omega,show ldLo c=0 by unfold ldLo;omega,show ldHi c=0 by unfold ldHi;omega]
   go_enter Tryz.func217,Tryz.ntmps217
   go_wp2
   go_ret3
   exact ⟨rfl,rfl⟩
 · rw [show ldN c=-1 by unfold ldN;omega,show ldLo c=0 by unfold ldLo;omega,show ldHi c=0 by unfold ldHi;omega]
   go_enter Tryz.func217,Tryz.ntmps217
   go_wp2
   go_ret3
   exact ⟨rfl,rfl⟩
 · rw [show ldN c=1 by unfold ldN;omega,show ldLo c=128 by unfold ldLo;omega,show ldHi c=191 by unfold ldHi;omega]
   go_enter Tryz.func217,Tryz.ntmps217
   go_wp2
   go_ret3
   exact ⟨rfl,rfl⟩
 · rw [show ldN 224=2 by decide,show ldLo 224=160 by decide,show ldHi 224=191 by decide]
   go_enter Tryz.func217,Tryz.ntmps217
   go_wp2
   go_ret3
   exact ⟨rfl,rfl⟩
 · rw [show ldN c=2 by unfold ldN;omega,show ldLo c=128 by unfold ldLo;omega,show ldHi c=191 by unfold ldHi;omega]
   go_enter Tryz.func217,Tryz.ntmps217
   go_wp2
   go_ret3
   exact ⟨rfl,rfl⟩
 · rw [show ldN 237=2 by decide,show ldLo 237=128 by decide,show ldHi 237=159 by decide]
   go_enter Tryz.func217,Tryz.ntmps217
   go_wp2
   go_ret3
   exact ⟨rfl,rfl⟩
 · rw [show ldN c=2 by unfold ldN;omega,show ldLo c=128 by unfold ldLo;omega,show ldHi c=191 by unfold ldHi;omega]
   go_enter Tryz.func217,Tryz.ntmps217
   go_wp2
   go_ret3
   exact ⟨rfl,rfl⟩
 · rw [show ldN 240=3 by decide,show ldLo 240=144 by decide,show ldHi 240=191 by decide]
   go_enter Tryz.func217,Tryz.ntmps217
   go_wp2
   go_ret3
   exact ⟨rfl,rfl⟩
 · rw [show ldN c=3 by unfold ldN;omega,show ldLo c=128 by unfold ldLo;omega,show ldHi c=191 by unfold ldHi;omega]
   go_enter Tryz.func217,Tryz.ntmps217
   go_wp2
   go_ret3
   exact ⟨rfl,rfl⟩
 · rw [show ldN 244=3 by decide,show ldLo 244=128 by decide,show ldHi 244=143 by decide]
   go_enter Tryz.func217,Tryz.ntmps217
   go_wp2
   go_ret3
   exact ⟨rfl,rfl⟩
 · rw [show ldN c=-1 by unfold ldN;omega,show ldLo c=0 by unfold ldLo;omega,show ldHi c=0 by unfold ldHi;omega]
   go_enter Tryz.func217,Tryz.ntmps217
   go_wp2
   go_ret3
   exact ⟨rfl,rfl⟩
open Go.RowKit
def jumps (J:Nat→Act→World→Prop) (Q:Exit→Act→World→Prop):Exit→Act→World→Prop
 | .goto l,a,w=>J l a w
 | e,a,w=>Q e a w
theorem wp_scope_many {P:Program} {a:Act} {w:World} {Q:Exit→Act→World→Prop} {c:Code} (J:Nat→Act→World→Prop) (μ:Nat→Act→World→Nat)
    (first:c.wp P (jumps J Q) a w)
    (pass:∀ l a w,J l a w→∃ rest,findLabel c l=some rest∧rest.wp P (jumps (fun l' a' w'=>J l' a' w'∧μ l' a' w'<μ l a w) Q) a w):(Code.scope c).wp P Q a w:=by
 intro b k cs
 have hg:∀ l rest,findLabel c l=some rest→gotoIn l (.inScope c::k)=some (.code rest::.inScope c::k):=fun l rest hf=>by simp [gotoIn,hf]
 have key:∀ n l a w rest,μ l a w=n→J l a w→findLabel c l=some rest→∃ e a' w',Q e a' w'∧Arrives P (lone (b.at a (.code rest::.inScope c::k)) cs w) b k cs e a' w':=by
  intro n
  induction n using Nat.strongRecOn with
  | _ n ih =>
   intro l a w rest hn hJ hf
   obtain ⟨rest',hf',hp⟩:=pass l a w hJ
   rw [hf] at hf'
   obtain rfl:=Option.some.inj hf'
   obtain ⟨e,a₁,w₁,hq,harr⟩:=hp b (.inScope c::k) cs
   cases e with
   | normal=>exact ⟨.normal,a₁,w₁,hq,Steps.trans harr (.one step_inScope)⟩
   | exit id=>exact ⟨.exit id,a₁,w₁,hq,fun k' hk=>harr k' (by simp [exitTo,hk])⟩
   | goto l' =>
    obtain ⟨hJ',hlt⟩:=hq
    obtain ⟨rest₂,hf₂,_⟩:=pass l' a₁ w₁ hJ'
    obtain ⟨e₂,a₂,w₂,hq₂,harr₂⟩:=ih _ (by omega) l' a₁ w₁ rest₂ rfl hJ' hf₂
    exact ⟨e₂,a₂,w₂,hq₂,.of_steps (harr _ (hg l' rest₂ hf₂)) harr₂⟩
   | ret=>exact ⟨_,a₁,w₁,hq,harr⟩
   | panic ch=>exact ⟨_,a₁,w₁,hq,harr⟩
   | outgrown=>exact ⟨_,a₁,w₁,hq,harr⟩
 obtain ⟨e,a₁,w₁,hq,harr⟩:=first b (.inScope c::k) cs
 cases e with
 | normal=>exact ⟨.normal,a₁,w₁,hq,.head step_scope (Steps.trans harr (.one step_inScope))⟩
 | exit id=>exact ⟨.exit id,a₁,w₁,hq,fun k' hk=>.head step_scope (harr k' (by simp [exitTo,hk]))⟩
 | goto l' =>
  obtain ⟨rest₂,hf₂,_⟩:=pass l' a₁ w₁ hq
  obtain ⟨e₂,a₂,w₂,hq₂,harr₂⟩:=key _ l' a₁ w₁ rest₂ rfl hq hf₂
  exact ⟨e₂,a₂,w₂,hq₂,.of_steps (.head step_scope (harr _ (hg l' rest₂ hf₂))) harr₂⟩
 | ret=>exact ⟨_,a₁,w₁,hq,.of_steps (.one step_scope) harr⟩
 | panic ch=>exact ⟨_,a₁,w₁,hq,.of_steps (.one step_scope) harr⟩
 | outgrown=>exact ⟨_,a₁,w₁,hq,.of_steps (.one step_scope) harr⟩
theorem wp_skip_seq {P:Program} {a:Act} {w:World} {Q:Exit→Act→World→Prop} {r:Code} (h:r.wp P Q a w):(Code.skip.seq r).wp P Q a w:=wp_seq (wp_skip h)
theorem wp_scope_three {P:Program} {a:Act} {w:World} {Q:Exit→Act→World→Prop} {c r0 r1 r2:Code} (J0 J1 J2:Act→World→Prop) (μ0 μ1 μ2:Act→World→Nat)
    (f0:findLabel c 0=some (Code.skip.seq r0)) (f1:findLabel c 2=some (Code.skip.seq r1)) (f2:findLabel c 1=some (Code.skip.seq r2))
    (first:(∀ a w,J0 a w→r0.wp P (jumps (fun | 0,a,w=>J0 a w | 1,a,w=>J2 a w | 2,a,w=>J1 a w | _,_,_=>False) Q) a w)→c.wp P (jumps (fun | 0,a,w=>J0 a w | 1,a,w=>J2 a w | 2,a,w=>J1 a w | _,_,_=>False) Q) a w)
    (p0:∀ a w,J0 a w→(∀ a' w',J1 a' w'→μ1 a' w'<μ0 a w→r1.wp P (jumps (fun | 0,b,v=>J0 b v∧μ0 b v<μ0 a w | 1,b,v=>J2 b v∧μ2 b v<μ0 a w | 2,b,v=>J1 b v∧μ1 b v<μ0 a w | _,_,_=>False) Q) a' w') →
     r0.wp P (jumps (fun | 0,b,v=>J0 b v∧μ0 b v<μ0 a w | 1,b,v=>J2 b v∧μ2 b v<μ0 a w | 2,b,v=>J1 b v∧μ1 b v<μ0 a w | _,_,_=>False) Q) a w)
    (p1:∀ a w,J1 a w→r1.wp P (jumps (fun | 0,b,v=>J0 b v∧μ0 b v<μ1 a w | 1,b,v=>J2 b v∧μ2 b v<μ1 a w | 2,b,v=>J1 b v∧μ1 b v<μ1 a w | _,_,_=>False) Q) a w)
    (p2:∀ a w,J2 a w→r2.wp P (jumps (fun _ _ _=>False) Q) a w):(Code.scope c).wp P Q a w:=by
 have q0:∀ a w,J0 a w→r0.wp P (jumps (fun | 0,b,v=>J0 b v∧μ0 b v<μ0 a w | 1,b,v=>J2 b v∧μ2 b v<μ0 a w | 2,b,v=>J1 b v∧μ1 b v<μ0 a w | _,_,_=>False) Q) a w:=by
  intro a w h
  refine p0 a w h fun a' w' h' hlt=>Code.wp_mono ?_ (p1 a' w' h')
  intro e b v hq
  cases e with
  | goto l =>
   match l with
   | 0=>exact ⟨hq.1,Nat.lt_trans hq.2 hlt⟩
   | 1=>exact ⟨hq.1,Nat.lt_trans hq.2 hlt⟩
   | 2=>exact ⟨hq.1,Nat.lt_trans hq.2 hlt⟩
   | _+3=>exact hq
  | normal=>exact hq
  | exit _=>exact hq
  | ret=>exact hq
  | panic _=>exact hq
  | outgrown=>exact hq
 refine wp_scope_many (fun | 0,a,w=>J0 a w | 1,a,w=>J2 a w | 2,a,w=>J1 a w | _,_,_=>False) (fun | 0,a,w=>μ0 a w | 1,a,w=>μ2 a w | _,a,w=>μ1 a w) (first ?_) ?_
 · intro a w h
   refine Code.wp_mono ?_ (q0 a w h)
   intro e b v hq
   cases e with
   | goto l =>
    match l with
    | 0=>exact hq.1
    | 1=>exact hq.1
    | 2=>exact hq.1
    | _+3=>exact hq
   | normal=>exact hq
   | exit _=>exact hq
   | ret=>exact hq
   | panic _=>exact hq
   | outgrown=>exact hq
 · intro l a w h
   match l with
   | 0 =>
    refine ⟨_,f0,wp_skip_seq (Code.wp_mono ?_ (q0 a w h))⟩
    intro e b v hq
    cases e with
    | goto l =>
     match l with
     | 0=>exact hq
     | 1=>exact hq
     | 2=>exact hq
     | _+3=>exact hq.elim
    | normal=>exact hq
    | exit _=>exact hq
    | ret=>exact hq
    | panic _=>exact hq
    | outgrown=>exact hq
   | 2 =>
    refine ⟨_,f1,wp_skip_seq (Code.wp_mono ?_ (p1 a w h))⟩
    intro e b v hq
    cases e with
    | goto l =>
     match l with
     | 0=>exact hq
     | 1=>exact hq
     | 2=>exact hq
     | _+3=>exact hq.elim
    | normal=>exact hq
    | exit _=>exact hq
    | ret=>exact hq
    | panic _=>exact hq
    | outgrown=>exact hq
   | 1 =>
    refine ⟨_,f2,wp_skip_seq (Code.wp_mono ?_ (p2 a w h))⟩
    intro e b v hq
    cases e with
    | goto l=>exact hq.elim
    | normal=>exact hq
    | exit _=>exact hq
    | ret=>exact hq
    | panic _=>exact hq
    | outgrown=>exact hq
   | _+3=>exact h.elim
open Go.RowKit
def frU (b1 o1 cap:Nat) (bs:List Int) (p:Nat) (u4 u5 u6:Value) (a:Act):Prop:=∃ (u2 u8 u9 u10 u11 u12 u13 u14 u15 u16 u17 u18 u19 u20 u21 u22 u23 u24 u25 u26 u27 u28 u29 u30 u31 u32 u33 u34 u35 u36 u37 u38 u39 u40 u41 u42 u43 u44 u45 u46 u47 u48 u49 u50 u51 u52 u53:Value),a={ tmps:=#[.slice (some ⟨b1,o1,none⟩) bs.length cap,undef,u2,.int .i64 p,u4,u5,u6,.int .i64 bs.length,u8,u9,u10,u11,u12,u13,u14,u15,u16,u17,u18,u19,u20,u21,u22,u23,u24,u25,u26,u27,u28,u29,u30,u31,u32,u33,u34,u35,u36,u37,u38,u39,u40,u41,u42,u43,u44,u45,u46,u47,u48,u49,u50,u51,u52,u53],defers:=[] }
theorem implUtf8_row (b1 o1:Nat) (cap:Nat) (bs:List Int) (w:World) (hl:bs.length≤1099511627776) (hc1:∀ i,i<bs.length→w.cell? ⟨b1,o1+i,none⟩=some (.int .u8 (bs.getD i 0))) (hB:AllB bs) :
    Calls Tryz.prog 175 #[.slice (some ⟨b1,o1,none⟩) bs.length cap] w fun e w'=>e=.returned (.int .i64 (uf 0 0 0 0 bs))∧w=w':=by
 obtain ⟨R,hR⟩:∃ R,R=uf 0 0 0 0 bs:=⟨_,rfl⟩
 have HR:Hid (uf 0 0 0 0 (bs.drop 0)=R):=by rw [hR];rfl
 rw [← hR]
 clear hR
 have HC1:Hid (∀ i,i<bs.length→w.cell? ⟨b1,o1+i,none⟩=some (.int .u8 (bs.getD i 0))):=hc1
 clear hc1
 go_enter Tryz.func175,Tryz.ntmps175
 go_wp2
 refine wp_scope_three
  (fun a' w'=>w=w'∧∃ (p:Nat) (u4 u5 u6:Value),p≤bs.length∧frU b1 o1 cap bs p u4 u5 u6 a'∧Hid (uf 0 0 0 p (bs.drop p)=R))
  (fun a' w'=>w=w'∧∃ (p l:Nat) (lo hi:Int),p≤bs.length∧l≤2∧frU b1 o1 cap bs p (.int .i64 ((l:Int)+1)) (.int .u8 lo) (.int .u8 hi) a'∧Hid (uf (l+1) lo hi p (bs.drop p)=R))
  (fun a' w'=>w=w'∧∃ (p:Nat) (u4 u5 u6:Value),frU b1 o1 cap bs p u4 u5 u6 a'∧Hid (R=p))
  (fun a' _=>2*(bs.length-(intOf (a'.tmps.getD 3 undef)).toNat)+1)
  (fun a' _=>2*(bs.length-(intOf (a'.tmps.getD 3 undef)).toNat)+1)
  (fun a' _=>2*(bs.length-(intOf (a'.tmps.getD 3 undef)).toNat)) rfl rfl rfl ?_ ?_ ?_ ?_
 · intro h0
   go_wp2
   go_step3
   simp only [Exit.then]
   rename_i hK
   refine hK _ _ (h0 _ _ ?_)
   exact ⟨rfl,0,_,_,_,Nat.zero_le _,⟨_,_,_,_,_,_,_,_,_,_,_,_,_,_,_,_,_,_,_,_,_,_,_,_,_,_,_,_,_,_,_,_,_,_,_,_,_,_,_,_,_,_,_,_,_,_,_,rfl⟩,HR⟩
 · rintro a' w' ⟨rfl,p,u4,u5,u6,hp,⟨u2,u8,u9,u10,u11,u12,u13,u14,u15,u16,u17,u18,u19,u20,u21,u22,u23,u24,u25,u26,u27,u28,u29,u30,u31,u32,u33,u34,u35,u36,u37,u38,u39,u40,u41,u42,u43,u44,u45,u46,u47,u48,u49,u50,u51,u52,u53,rfl⟩,HP⟩ h1
   by_cases hlt:p<bs.length
   · have d1:w.cell? ⟨b1,o1+p,none⟩=some (.int .u8 (bs.getD p 0)):=HC1.out p hlt
     have hpi:(p:Int)<(bs.length:Int):=by omega
     obtain ⟨c,hcc⟩:∃ c,c=bs.getD p 0:=⟨_,rfl⟩
     rw [← hcc] at d1
     have HC:Hid (c=bs.getD p 0):=hcc
     have hb:=hB p
     rw [← hcc] at hb
     obtain ⟨hb0,hb1⟩:=hb
     have hn:=ldN_bd c
     clear hcc
     have hne:((p:Int)==(bs.length:Int))=false:=beq_eq_false_iff_ne.2 (by omega)
     have H1:=Hm h1
     clear h1
     by_cases hneg:ldN c<0
     · have HE:Hid (R=p):=by show _=_;rw [← HP.out,uf_bad hlt (by rw [← HC.out];exact hneg)]
       go_wp2_with (go_at_call 217;refine (utf8Lead_any _ _ hb0 hb1).mono ?_;rintro e w' ⟨rfl,rfl⟩)
       go_step3
       refine ⟨⟨rfl,p,_,_,_,⟨_,_,_,_,_,_,_,_,_,_,_,_,_,_,_,_,_,_,_,_,_,_,_,_,_,_,_,_,_,_,_,_,_,_,_,_,_,_,_,_,_,_,_,_,_,_,_,rfl⟩,HE⟩,?_⟩
       simp [intOf]
     · have HP':Hid (uf (ldN c).toNat (ldLo c) (ldHi c) (p+1) (bs.drop (p+1))=R):=by
         have:=HP.out
         rw [uf_lead hlt (by rw [← HC.out];exact hneg),← HC.out] at this
         exact this
       by_cases hz:ldN c=0
       · have hzb:(ldN c==0)=true:=beq_iff_eq.2 hz
         have HZ:Hid (ldN c=0):=hz
         clear hz
         go_wp2_with (go_at_call 217;refine (utf8Lead_any _ _ hb0 hb1).mono ?_;rintro e w' ⟨rfl,rfl⟩)
         go_step3
         refine ⟨⟨rfl,p+1,_,_,_,by omega,⟨_,_,_,_,_,_,_,_,_,_,_,_,_,_,_,_,_,_,_,_,_,_,_,_,_,_,_,_,_,_,_,_,_,_,_,_,_,_,_,_,_,_,_,_,_,_,_,rfl⟩,?_⟩,?_⟩
         · have:=HP'.out
           rw [HZ.out] at this
           exact (uf_any0 _ _ _).trans this
         · simp [intOf];omega
       · have hzb:(ldN c==0)=false:=beq_eq_false_iff_ne.2 hz
         go_wp2_with (go_at_call 217;refine (utf8Lead_any _ _ hb0 hb1).mono ?_;rintro e w' ⟨rfl,rfl⟩)
         go_step3
         simp only [Exit.then]
         rename_i hK
         refine hK _ _ (H1.out _ _ ?_ ?_)
         · obtain ⟨l,hl'⟩:∃ l,(ldN c).toNat=l+1:=⟨(ldN c).toNat-1,by omega⟩
           have e:=HP'.out
           rw [hl'] at e
           refine ⟨rfl,p+1,l,ldLo c,ldHi c,by omega,by omega,?_,e⟩
           rw [show (l:Int)+1=ldN c by omega]
           exact ⟨_,_,_,_,_,_,_,_,_,_,_,_,_,_,_,_,_,_,_,_,_,_,_,_,_,_,_,_,_,_,_,_,_,_,_,_,_,_,_,_,_,_,_,_,_,_,_,rfl⟩
         · simp [intOf];omega
   · have e:R=-1:=by rw [← HP.out,uf_end0 (by omega)]
     subst e
     have hne:((p:Int)==(bs.length:Int))=true:=beq_iff_eq.2 (by omega)
     go_wp2
     simp only [jumps]
     go_ret
     exact ⟨rfl,rfl⟩
 · rintro a' w' ⟨rfl,p,l,lo,hi,hp,hll,⟨u2,u8,u9,u10,u11,u12,u13,u14,u15,u16,u17,u18,u19,u20,u21,u22,u23,u24,u25,u26,u27,u28,u29,u30,u31,u32,u33,u34,u35,u36,u37,u38,u39,u40,u41,u42,u43,u44,u45,u46,u47,u48,u49,u50,u51,u52,u53,rfl⟩,HP⟩
   by_cases hlt:p<bs.length
   · have d2:w.cell? ⟨b1,o1+p,none⟩=some (.int .u8 (bs.getD p 0)):=HC1.out p hlt
     obtain ⟨q,hqq⟩:∃ q,q=bs.getD p 0:=⟨_,rfl⟩
     rw [← hqq] at d2
     have HC2:Hid (q=bs.getD p 0):=hqq
     clear hqq
     have hpi:(p:Int)<(bs.length:Int):=by omega
     have hne:((p:Int)==(bs.length:Int))=false:=beq_eq_false_iff_ne.2 (by omega)
     by_cases ho1:q<lo
     · have HE:Hid (R=p):=by show _=_;rw [← HP.out,uf_out hlt (by rw [← HC2.out];exact .inl ho1)]
       go_wp2
       go_step3
       refine ⟨⟨rfl,p,_,_,_,⟨_,_,_,_,_,_,_,_,_,_,_,_,_,_,_,_,_,_,_,_,_,_,_,_,_,_,_,_,_,_,_,_,_,_,_,_,_,_,_,_,_,_,_,_,_,_,_,rfl⟩,HE⟩,?_⟩
       simp [intOf]
     · by_cases ho2:hi<q
       · have HE:Hid (R=p):=by show _=_;rw [← HP.out,uf_out hlt (by rw [← HC2.out];exact .inr ho2)]
         go_wp2
         go_step3
         refine ⟨⟨rfl,p,_,_,_,⟨_,_,_,_,_,_,_,_,_,_,_,_,_,_,_,_,_,_,_,_,_,_,_,_,_,_,_,_,_,_,_,_,_,_,_,_,_,_,_,_,_,_,_,_,_,_,_,rfl⟩,HE⟩,?_⟩
         simp [intOf]
       · have HP':Hid (uf l 128 191 (p+1) (bs.drop (p+1))=R):=by
           have:=HP.out
           rw [uf_next hlt (by rw [← HC2.out];omega)] at this
           exact this
         cases l with
         | zero =>
          go_wp2
          go_step3
          refine ⟨⟨rfl,p+1,_,_,_,by omega,⟨_,_,_,_,_,_,_,_,_,_,_,_,_,_,_,_,_,_,_,_,_,_,_,_,_,_,_,_,_,_,_,_,_,_,_,_,_,_,_,_,_,_,_,_,_,_,_,rfl⟩,?_⟩,?_⟩
          · exact (uf_any0 _ _ _).trans HP'.out
          · simp [intOf];omega
         | succ l =>
          go_wp2
          go_step3
          refine ⟨⟨rfl,p+1,l,128,191,by omega,by omega,?_,HP'⟩,?_⟩
          · exact ⟨_,_,_,_,_,_,_,_,_,_,_,_,_,_,_,_,_,_,_,_,_,_,_,_,_,_,_,_,_,_,_,_,_,_,_,_,_,_,_,_,_,_,_,_,_,_,_,rfl⟩
          · simp [intOf];omega
   · have HE:Hid (R=p):=by show _=_;rw [← HP.out,uf_endl (by omega)]
     have hne:((p:Int)==(bs.length:Int))=true:=beq_iff_eq.2 (by omega)
     go_wp2
     go_step3
     refine ⟨⟨rfl,p,_,_,_,⟨_,_,_,_,_,_,_,_,_,_,_,_,_,_,_,_,_,_,_,_,_,_,_,_,_,_,_,_,_,_,_,_,_,_,_,_,_,_,_,_,_,_,_,_,_,_,_,rfl⟩,HE⟩,?_⟩
     simp [intOf]
 · rintro a' w' ⟨rfl,p,u4,u5,u6,⟨u2,u8,u9,u10,u11,u12,u13,u14,u15,u16,u17,u18,u19,u20,u21,u22,u23,u24,u25,u26,u27,u28,u29,u30,u31,u32,u33,u34,u35,u36,u37,u38,u39,u40,u41,u42,u43,u44,u45,u46,u47,u48,u49,u50,u51,u52,u53,rfl⟩,HP⟩
   have e:=HP.out
   subst e
   go_wp2
   simp only [jumps]
   go_ret
   exact ⟨rfl,rfl⟩
end Go.Proofs.YtdbmolambolmgaaGreat
