import Derived.Test.YtipfjdogokanbaaGreatDoorGaa
import Derived.Test.YtipfjdogokanbaaGreatDoorGan
import Derived.Test.YtipfjdogokanbaaGreatDoorGam
set_option linter.all false
set_option maxHeartbeats 400000000
set_option maxRecDepth 100000
set_option linter.all false
namespace Go.Proofs.YtipfjdogokanbaaGreatDoor.L3
open Go.RowKit Go.Sort
theorem left_int (v:Value)(x:Nat)(n:Int)(w:World)(h0:0<=n)(hn:n<=5000)(hx:bl x<=5000)(hX:SN w v x) :
    Calls Tryz.prog 173 #[v,.int .i64 n] w λe w'=>(∃ u,e=.returned u/\SN w' u (x*2 ^ n.toNat))/\Below w.heap.size w w':=by
 obtain ⟨N,rfl⟩:=Int.eq_ofNat_of_zero_le h0;rw [Int.toNat_natCast]
 exact left_any v x N (N / 32) (N%32) w (by omega) (by omega) (by omega) hx hX
theorem right_int (v:Value)(x:Nat)(n:Int)(w:World)(h0:0<=n)(hn:n<=5000)(hx:bl x<=5000)(hX:SN w v x) :
    Calls Tryz.prog 174 #[v,.int .i64 n] w λe w'=>(∃ u,e=.returned (.tuple #[u,.bool (decide (x%2 ^ n.toNat≠0))])/\SN w' u (x / 2 ^ n.toNat))/\Below w.heap.size w w':=by
 obtain ⟨N,rfl⟩:=Int.eq_ofNat_of_zero_le h0;rw [Int.toNat_natCast]
 exact right_any v x N (N / 32) (N%32) w (by omega) (by omega) (by omega) hx hX
theorem at_zero (v:Value)(x:Nat)(w:World)(hx:bl x<=20000)(hX:SN w v x) :
    Calls Tryz.prog 175 #[v,.int .i64 0] w λe w'=>e=.returned (.int .u64 ((x%4294967296:Nat):Int))/\w=w':=by
 have h:=at_nat v x 0 w hx hX (by omega)
 simpa using h
theorem sn_one {w:World}{t:TypeId}:SN (w.alloc (.cells #[.int .u64 1] t)) (.slice (some ⟨w.heap.size,0,none⟩) 1 1) 1:=by
 have e:dg 1=[1]:=by rw [dg_pos (by decide)];simp [JQ]
 refine ⟨some ⟨w.heap.size,0,none⟩,1,by rw [e];rfl,?_⟩
 rw [e]
 refine .inr ⟨w.heap.size,0,rfl,λi hi=>?_⟩
 have:i=0:=by simpa using hi
 subst this
 exact Qi rfl rfl
theorem par_bool (x:Nat):((((x%4294967296:Nat):Int)%2)==1)=decide (x%2=1):=by
 rw [Bool.eq_iff_iff];simp;omega
theorem bl_div_le (x k:Nat):bl (x / 2 ^ k)<=bl x:=bl_mono (Nat.div_le_self _ _)
theorem rq_left {sig:Nat}{c:Int}{more:Bool}(h:c<=0):rq sig c more=sig*2 ^ (-c).toNat:=by unfold rq;rw [if_pos h]
theorem rq_right {sig:Nat}{c:Int}{more:Bool}(h:¬ c<=0):rq sig c more=sig / 2 ^ (c-1).toNat / 2 ^ (1:Int).toNat+if (decide (sig / 2 ^ (c-1).toNat%2=1)&&((decide (sig%2 ^ (c-1).toNat≠0) || more) || decide (sig / 2 ^ (c-1).toNat / 2 ^ (1:Int).toNat%2=1)))=true then 1 else 0:=by
 unfold rq rqN;rw [if_neg h];have e:c.toNat-1=(c-1).toNat:=by omega
 rw [e];have e2:(2:Nat) ^ (1:Int).toNat=2:=by decide
 rw [e2];generalize sig / 2 ^ (c-1).toNat=A
 congr 1
 simp only [Bool.and_eq_true,Bool.or_eq_true,decide_eq_true_eq,or_assoc]
set_option maxRecDepth 100000 in
theorem round_n (g more:Bool)(sig:Nat)(ex:Int)(v:Value)(w:World)(hb:bl sig<=4000)(hx0:-4000<=ex)(hx1:ex<=4000)(hS:SN w v sig) :
    Calls Tryz.prog 139 #[FSn,.bool g,v,.int .i64 ex,.bool more] w λe w'=>e=.returned (.int .u64 (sg_n g+(rnd 24 8 (-149) sig ex more:Nat)))/\Below w.heap.size w w':=by
 obtain ⟨C,hC⟩:∃ C:Int,C=JB 24 (-149) sig ex:=⟨_,rfl⟩;have hQ:=rq_le (p:=24) (least:=-149) (sig:=sig) (ex:=ex) (more:=more);have HR:=Hm (λW E hw=>rnd_spec (p:=24) (e:=8) (least:=-149) (sig:=sig) (ex:=ex) (more:=more) (by omega) (by omega) W E hw);rw [<- hC] at hQ HR;have hC':C=max ((bl sig:Int)-24) (-149-ex):=hC;obtain ⟨hs0,hs1⟩:=sg_n_bd g;have KS:=λw=>Hm (sign_n g w);have KI:=λw=>Hm (inf_n g w);generalize sg_n g=S at *;have KB:=λw h=>Hm (bits_any v sig w (by omega) h);obtain ⟨Q,hq⟩:∃ Q:Nat,Q=rq sig C more:=⟨_,rfl⟩;have HQ:=Hm hq;rw [<- hq] at hQ HR;generalize rnd 24 8 (-149) sig ex more=R at *;have hQ:Q<=16777216:=hQ;have hbn:(0:Int)<=(bl sig:Int):=by omega
 have hb4:(bl sig:Int)<=4000:=by omega
 obtain ⟨n,hn⟩:∃ n:Int,n=(bl sig:Int):=⟨_,rfl⟩;rw [<- hn] at hC' hbn hb4;have KB':∀ w,SN w v sig->Hid (Calls Tryz.prog 172 #[v] w λe w'=>e=.returned (.int .i64 n)/\w=w'):=λw h=>by rw [hn];exact KB w h
 clear hC hq KB hn;have HCb:=Hm hC';have HS:=Hm hS;clear hC' hS
 go_enter Tryz.func139,Tryz.ntmps139
 go_wp2_with fail
 refine (KB' _ (HS.o.below ((Below.refl _ _).alloc (Nat.le_refl _) _))).o.mono ?_
 rintro e w1 ⟨rfl,rfl⟩;have n1:IntKind.i64.wrap (n-24)=n-24:=by rw [IntKind.wrap_i64];omega
 go_upto_if 31 with fail
 go_cut [12] from 20 (λv2 wc=>v2=.int .i64 C/\wc=w.alloc (Obj.cells #[.int .i64 24,.int .i64 8,.int .i64 (-149)] 157))
 case first =>
  by_cases h1:ex+(n-24) < -149
  . go_wp2
    go_meet
    case rel=>exact ⟨by rw [HCb.o];congr 1;omega,rfl⟩
  . go_wp2
    go_meet
    case rel=>exact ⟨by rw [HCb.o];congr 1;omega,rfl⟩
 case rest =>
 obtain ⟨rfl,rfl⟩:=hcut;have hCl:-9000<=C:=by have:=HCb.o;omega
 have hCu:C<=9000:=by have:=HCb.o;omega
 have hE0:-149<=ex+C:=by have:=HCb.o;omega
 have hE1:ex+C<=9000:=by have:=HCb.o;omega
 have HSw:=Hm (HS.o.below ((Below.refl _ _).alloc (Nat.le_refl _) (Obj.cells #[.int .i64 24,.int .i64 8,.int .i64 (-149)] 157)));have HB0:=Hm ((Below.refl w.heap.size w).alloc (Nat.le_refl _) (Obj.cells #[.int .i64 24,.int .i64 8,.int .i64 (-149)] 157));have HC0:=Hm (c3_new (w:=w) (a:=.int .i64 24) (b:=.int .i64 8) (c:=.int .i64 (-149)) (t:=157));generalize w.alloc (Obj.cells #[.int .i64 24,.int .i64 8,.int .i64 (-149)] 157)=w2 at *;clear HS n1
 go_upto_if 38 with fail
 go_cut [13,14,15,16] from 20 (λv13 v14 v15 v16 wc=>SN wc v13 Q/\C3 wc w.heap.size (.int .i64 24) (.int .i64 8) (.int .i64 (-149))/\Below w.heap.size w wc)
 case first =>
  by_cases h1:C<=0
  . have KL:=Hm (left_int v sig (-C) w2 (by omega) (by have:=HCb.o;omega) (by omega) HSw.o);have eQ:=rq_left (sig:=sig) (more:=more) h1;rw [<- eQ,<- HQ.o] at KL;clear eQ
    go_wp2_with fail
    refine KL.o.mono ?_
    rintro e w3 ⟨⟨u,rfl,hu⟩,hb3⟩;have HU:=Hm hu;have HB3:=Hm hb3;clear hu hb3
    go_wp2
    go_meet
    case rel=>exact ⟨HU.o,HC0.o.keep HB3.o,HB0.o.trans (HB3.o.mono HB0.o.size)⟩
  . have KR:=right_int v sig (C-1) w2 (by omega) (by have:=HCb.o;omega) (by omega) HSw.o;have eQ:=rq_right (sig:=sig) (more:=more) h1;rw [<- HQ.o] at eQ;have hbA:=bl_div_le sig (C-1).toNat;generalize sig / 2 ^ (C-1).toNat=A at *;obtain ⟨lost,hlost⟩:∃ b,b=decide (sig%2 ^ (C-1).toNat≠0):=⟨_,rfl⟩;rw [<- hlost] at KR eQ;have K0:=λw u h=>Hm (at_zero u A w (by omega) h);have K1:=λw u h=>Hm (right_int u A 1 w (by omega) (by omega) (by omega) h);have hp:=par_bool A;have ht0:0<=((A%4294967296:Nat):Int):=by omega
    have ht1:((A%4294967296:Nat):Int)<=4294967295:=by omega
    obtain ⟨up,hup⟩:∃ b,b=decide (A%2=1):=⟨_,rfl⟩;rw [<- hup] at hp eQ;generalize ((A%4294967296:Nat):Int)=t at *;obtain ⟨lo2,hlo2⟩:∃ b,b=decide (A%2 ^ (1:Int).toNat≠0):=⟨_,rfl⟩;rw [<- hlo2] at K1;have hbH:=bl_div_le A (1:Int).toNat;generalize A / 2 ^ (1:Int).toNat=H at *;have K2:=λw u h=>Hm (at_zero u H w (by omega) h);have hp2:=par_bool H;have ht2:0<=((H%4294967296:Nat):Int):=by omega
    have ht3:((H%4294967296:Nat):Int)<=4294967295:=by omega
    obtain ⟨odd,hodd⟩:∃ b,b=decide (H%2=1):=⟨_,rfl⟩;rw [<- hodd] at hp2 eQ;generalize ((H%4294967296:Nat):Int)=t2 at *;have KA:=λw u z h hz=>Hm (addN_any u z H 1 w (by omega) (by rw [show bl 1=1 by decide];omega) h hz);have HE:=Hm eQ;have HKR:=Hm KR;clear eQ KR hup hlost hodd hlo2 HR KS KI
    go_wp2_with fail
    refine HKR.o.mono ?_
    rintro e w3 ⟨⟨u,rfl,hu⟩,hb3⟩;have K0:=K0 w3 u hu;have K1:=K1 w3 u hu;have HB3:=Hm (HB0.o.trans (hb3.mono HB0.o.size));have HC3:=Hm (HC0.o.keep hb3);clear hu hb3 HKR
    go_wp2_with fail
    refine K0.o.mono ?_
    rintro e w' ⟨rfl,rfl⟩
    go_wp2_with fail
    refine K1.o.mono ?_
    rintro e w4 ⟨⟨u2,rfl,hu2⟩,hb4⟩;have K2:=K2 w4 u2 hu2;have HB4:=Hm (HB3.o.trans (hb4.mono HB3.o.size));have HC4:=Hm (HC3.o.keep hb4);have HU2:=Hm hu2;have KA2:=Hm (KA (w4.alloc (.cells #[.int .u64 1] 23)) u2 _ (hu2.below ((Below.refl _ _).alloc (Nat.le_refl _) _)) sn_one).o;clear hu2 hb4 HB3 HC3 K0 K1 KA HSw HB0 HC0
    cases up
    . go_wp2
      go_meet
      case rel=>exact ⟨by rw [HE.o];exact HU2.o,HC4.o,HB4.o⟩
    . cases lost
      . cases more
        . cases odd
          . go_wp2_with fail
            refine K2.o.mono ?_
            rintro e w' ⟨rfl,rfl⟩
            go_wp2
            go_meet
            case rel=>exact ⟨by rw [HE.o];exact HU2.o,HC4.o,HB4.o⟩
          . go_wp2_with fail
            refine K2.o.mono ?_
            rintro e w' ⟨rfl,rfl⟩
            go_wp2_with fail
            refine KA2.o.mono ?_
            rintro e w5 ⟨⟨u3,rfl,hu3⟩,hb5⟩;have HB5:=Hm ((HB4.o.alloc HB4.o.size _).trans (hb5.mono (Nat.le_trans HB4.o.size (by simp))));have HC5:=Hm (HC4.o.past.keep hb5);have HU3:=Hm hu3;clear hu3 hb5
            go_wp2
            go_meet
            case rel=>exact ⟨by rw [HE.o];exact HU3.o,HC5.o,HB5.o⟩
        . skip
          go_wp2_with fail
          refine KA2.o.mono ?_
          rintro e w5 ⟨⟨u3,rfl,hu3⟩,hb5⟩;have HB5:=Hm ((HB4.o.alloc HB4.o.size _).trans (hb5.mono (Nat.le_trans HB4.o.size (by simp))));have HC5:=Hm (HC4.o.past.keep hb5);have HU3:=Hm hu3;clear hu3 hb5
          go_wp2
          go_meet
          case rel=>exact ⟨by rw [HE.o];exact HU3.o,HC5.o,HB5.o⟩
      . skip
        go_wp2_with fail
        refine KA2.o.mono ?_
        rintro e w5 ⟨⟨u3,rfl,hu3⟩,hb5⟩;have HB5:=Hm ((HB4.o.alloc HB4.o.size _).trans (hb5.mono (Nat.le_trans HB4.o.size (by simp))));have HC5:=Hm (HC4.o.past.keep hb5);have HU3:=Hm hu3;clear hu3 hb5
        go_wp2
        go_meet
        case rel=>exact ⟨by rw [HE.o];exact HU3.o,HC5.o,HB5.o⟩
 case rest =>
 obtain ⟨hu,hc3,hbw⟩:=hcut;have KW:=Hm (word_any _ Q wc (by omega) hu);have HC:=Hm hc3;have HBw:=Hm hbw;obtain ⟨q0,q1,q2⟩:=id hc3;clear hu hc3 hbw HSw HB0 HC0 HQ KB'
 go_wp2_with fail
 refine KW.o.mono ?_
 rintro e w' ⟨rfl,rfl⟩;clear KW
 go_upto_if 84 with (first|(go_at_call_of 101 (Value.int IntKind.i64 24);refine ((pow_24 _).mono λe w' h=>(⟨h.1,h.2.symm⟩:e=_/\_=w')).mono ?_;rintro e w' ⟨rfl,rfl⟩))
 go_cut [17,18] from 20 (λv17 v18 wz=>∃ (W:Nat) (E:Int),v17=.int .i64 E/\v18=.int .u64 (W:Int)/\wz=wc/\Hid ((Q=2 ^ 24/\W=2 ^ (24-1)/\E=ex+C+1)\/(Q≠2 ^ 24/\W=Q/\E=ex+C)))
 case first =>
  by_cases h1:Q=16777216
  . obtain rfl:=h1
    go_wp2
    go_meet
    case rel=>exact ⟨8388608,ex+C+1,rfl,rfl,rfl,.inl ⟨by decide,by decide,rfl⟩⟩
  . have t1:((Q:Int)==16777216)=false:=beq_eq_false_iff_ne.2 (by omega)
    go_wp2
    go_meet
    case rel=>exact ⟨Q,ex+C,rfl,rfl,rfl,.inr ⟨h1,rfl,rfl⟩⟩
 case rest =>
 obtain ⟨W,E,rfl,rfl,rfl,HWE⟩:=hcut;have hWb:W<16777216:=by rcases HWE.o with ⟨h1,h2,h3⟩|⟨h1,h2,h3⟩<;>omega
 have hEb:-149<=E:=by rcases HWE.o with ⟨h1,h2,h3⟩|⟨h1,h2,h3⟩<;>omega
 have hEb2:E<=9001:=by rcases HWE.o with ⟨h1,h2,h3⟩|⟨h1,h2,h3⟩<;>omega
 obtain ⟨r1,r2,r3⟩:=HR.o W E HWE.o;have r1:W<8388608->R=W:=r1;have r2:8388608<=W->(256:Int)-1<=E-(-149)+1->R=infM 24 8:=r2;have r3:8388608<=W->E-(-149)+1<(256:Int)-1->R=(E-(-149)+1).toNat*8388608+W-8388608:=r3;have eI:infM 24 8=2139095040:=by decide
 rw [eI] at r2;obtain ⟨Wi,hWi⟩:∃ Wi:Int,(W:Int)=Wi:=⟨_,rfl⟩;have hw0:0<=Wi:=by omega
 have hw1:Wi<16777216:=by omega
 have R1:Wi<8388608->Hid ((R:Int)=Wi):=λh=>by have:=r1 (by omega);show _=_;omega
 have R2:8388608<=Wi->255<=E+150->Hid ((R:Int)=2139095040):=λh h'=>by have:=r2 (by omega) (by omega);show _=_;omega
 have R3:8388608<=Wi->E+150<255->Hid ((R:Int)=(E+150)*8388608+Wi-8388608):=λh h'=>by
  have h3:=r3 (by omega) (by omega);have e:((E-(-149)+1).toNat:Int)=E+150:=by omega
  generalize (E-(-149)+1).toNat=b at *
  show _=_
  rw [<- e,<- hWi]
  omega
 rw [hWi];clear HR HWE r1 r2 r3 eI hWb hQ hWi
 by_cases t1:Wi<8388608
 . have RR:=R1 t1;clear R1 R2 R3 KI
   go_wp2_with (first|(go_at_call_of 101 (Value.int IntKind.i64 23);refine ((pow_23 _).mono λe w' h=>(⟨h.1,h.2.symm⟩:e=_/\_=w')).mono ?_;rintro e w' ⟨rfl,rfl⟩))
   refine (KS _).o.mono ?_
   rintro e w5 ⟨rfl,hb5⟩;have HB5:=Hm (HBw.o.trans (hb5.mono HBw.o.size));clear hb5
   go_wp2
   go_ret
   exact ⟨by rw [RR.o];rfl,HB5.o⟩
 . by_cases t2:255<=E+150
   . have RR:=R2 (by omega) t2;clear R1 R2 R3 KS
     go_wp2_with (first|(go_at_call_of 101 (Value.int IntKind.i64 23);refine ((pow_23 _).mono λe w' h=>(⟨h.1,h.2.symm⟩:e=_/\_=w')).mono ?_;rintro e w' ⟨rfl,rfl⟩)|(go_at_call_of 101 (Value.int IntKind.i64 8);refine ((pow_8 _).mono λe w' h=>(⟨h.1,h.2.symm⟩:e=_/\_=w')).mono ?_;rintro e w' ⟨rfl,rfl⟩))
     refine (KI _).o.mono ?_
     rintro e w5 ⟨rfl,hb5⟩;have HB5:=Hm (HBw.o.trans (hb5.mono HBw.o.size));clear hb5
     go_wp2
     go_ret
     exact ⟨by rw [RR.o];rfl,HB5.o⟩
   . have RR:=R3 (by omega) (by omega);clear R1 R2 R3 KI
     go_upto_region 23 with (first|(go_at_call_of 101 (Value.int IntKind.i64 23);refine ((pow_23 _).mono λe w' h=>(⟨h.1,h.2.symm⟩:e=_/\_=w')).mono ?_;rintro e w' ⟨rfl,rfl⟩)|(go_at_call_of 101 (Value.int IntKind.i64 8);refine ((pow_8 _).mono λe w' h=>(⟨h.1,h.2.symm⟩:e=_/\_=w')).mono ?_;rintro e w' ⟨rfl,rfl⟩))
     have kq0:=cell_regrown q0;have kq1:=cell_regrown q1;have kq2:=cell_regrown q2;obtain ⟨bi,hbi⟩:∃ bi:Int,E+149+1=bi:=⟨_,rfl⟩;rw [hbi];have hb0:1<=bi:=by omega
     have hb1:bi<255:=by omega
     have RR2:Hid (S+(R:Int)=S+bi*8388608+Wi-8388608):=by have:=RR.o;show _=_;omega
     clear hbi RR;have e0:IntKind.i64.wrap 23=23:=by decide
     have e1:IntKind.u64.wrap bi=bi:=by rw [IntKind.wrap_u64];omega
     have e2:IntKind.u64.wrap (bi*8388608)=bi*8388608:=by rw [IntKind.wrap_u64];omega
     have e3:IntKind.u64.wrap (S+bi*8388608)=S+bi*8388608:=by rw [IntKind.wrap_u64];omega
     have e4:IntKind.u64.wrap (S+bi*8388608+Wi)=S+bi*8388608+Wi:=by rw [IntKind.wrap_u64];omega
     have e5:IntKind.u64.wrap (S+bi*8388608+Wi-8388608)=S+bi*8388608+Wi-8388608:=by rw [IntKind.wrap_u64];omega
     have cS:∀ d os,Calls Tryz.prog 178 #[FSn,.bool g] (grow (redrawn wc d) os) λe w''=>e=.returned (.int .u64 S)/\∃ p:Regrown,w''=grow (redrawn wc p.d) p.os:=λd os=>Calls.regrown_of (KS _).o;have cP:∀ d os,Calls Tryz.prog 101 #[.int .i64 23] (grow (redrawn wc d) os) λe w''=>e=.returned (.int .u64 8388608)/\∃ p:Regrown,w''=grow (redrawn wc p.d) p.os:=λd os=>Calls.regrown_of ((pow_23 _).mono λe w' h=>⟨h.1,by rw [h.2];exact Below.refl _ _⟩);clear KS
     refine wp_region_quiet_below (by kernel_rfl) (by kernel_rfl) ?_
     repeat (quiet_step ((first|(go_at_call 178;exact cS _ _)|(go_at_call 101;exact cP _ _))))
     refine wpQuiet_nil ?_
     intro _ hw'
     obtain ⟨⟨dq,osq⟩,hw''⟩:=hw';subst hw'';have hw5:=HBw.o.trans ((below_regrown wc dq osq).mono HBw.o.size)
     show Exit.then _ _ Exit.normal _ (grow (redrawn wc dq) osq)
     go_wp2
     go_ret
     exact ⟨by rw [RR2.o];rfl,hw5⟩
set_option maxRecDepth 100000 in
theorem round_w (g more:Bool)(sig:Nat)(ex:Int)(v:Value)(w:World)(hb:bl sig<=4000)(hx0:-4000<=ex)(hx1:ex<=4000)(hS:SN w v sig) :
    Calls Tryz.prog 139 #[FSw,.bool g,v,.int .i64 ex,.bool more] w λe w'=>e=.returned (.int .u64 (sg_w g+(rnd 53 11 (-1074) sig ex more:Nat)))/\Below w.heap.size w w':=by
 obtain ⟨C,hC⟩:∃ C:Int,C=JB 53 (-1074) sig ex:=⟨_,rfl⟩;have hQ:=rq_le (p:=53) (least:=-1074) (sig:=sig) (ex:=ex) (more:=more);have HR:=Hm (λW E hw=>rnd_spec (p:=53) (e:=11) (least:=-1074) (sig:=sig) (ex:=ex) (more:=more) (by omega) (by omega) W E hw);rw [<- hC] at hQ HR;have hC':C=max ((bl sig:Int)-53) (-1074-ex):=hC;obtain ⟨hs0,hs1⟩:=sg_w_bd g;have KS:=λw=>Hm (sign_w g w);have KI:=λw=>Hm (inf_w g w);generalize sg_w g=S at *;have KB:=λw h=>Hm (bits_any v sig w (by omega) h);obtain ⟨Q,hq⟩:∃ Q:Nat,Q=rq sig C more:=⟨_,rfl⟩;have HQ:=Hm hq;rw [<- hq] at hQ HR;generalize rnd 53 11 (-1074) sig ex more=R at *;have hQ:Q<=9007199254740992:=hQ;have hbn:(0:Int)<=(bl sig:Int):=by omega
 have hb4:(bl sig:Int)<=4000:=by omega
 obtain ⟨n,hn⟩:∃ n:Int,n=(bl sig:Int):=⟨_,rfl⟩;rw [<- hn] at hC' hbn hb4;have KB':∀ w,SN w v sig->Hid (Calls Tryz.prog 172 #[v] w λe w'=>e=.returned (.int .i64 n)/\w=w'):=λw h=>by rw [hn];exact KB w h
 clear hC hq KB hn;have HCb:=Hm hC';have HS:=Hm hS;clear hC' hS
 go_enter Tryz.func139,Tryz.ntmps139
 go_wp2_with fail
 refine (KB' _ (HS.o.below ((Below.refl _ _).alloc (Nat.le_refl _) _))).o.mono ?_
 rintro e w1 ⟨rfl,rfl⟩;have n1:IntKind.i64.wrap (n-53)=n-53:=by rw [IntKind.wrap_i64];omega
 go_upto_if 31 with fail
 go_cut [12] from 20 (λv2 wc=>v2=.int .i64 C/\wc=w.alloc (Obj.cells #[.int .i64 53,.int .i64 11,.int .i64 (-1074)] 157))
 case first =>
  by_cases h1:ex+(n-53) < -1074
  . go_wp2
    go_meet
    case rel=>exact ⟨by rw [HCb.o];congr 1;omega,rfl⟩
  . go_wp2
    go_meet
    case rel=>exact ⟨by rw [HCb.o];congr 1;omega,rfl⟩
 case rest =>
 obtain ⟨rfl,rfl⟩:=hcut;have hCl:-9000<=C:=by have:=HCb.o;omega
 have hCu:C<=9000:=by have:=HCb.o;omega
 have hE0:-1074<=ex+C:=by have:=HCb.o;omega
 have hE1:ex+C<=9000:=by have:=HCb.o;omega
 have HSw:=Hm (HS.o.below ((Below.refl _ _).alloc (Nat.le_refl _) (Obj.cells #[.int .i64 53,.int .i64 11,.int .i64 (-1074)] 157)));have HB0:=Hm ((Below.refl w.heap.size w).alloc (Nat.le_refl _) (Obj.cells #[.int .i64 53,.int .i64 11,.int .i64 (-1074)] 157));have HC0:=Hm (c3_new (w:=w) (a:=.int .i64 53) (b:=.int .i64 11) (c:=.int .i64 (-1074)) (t:=157));generalize w.alloc (Obj.cells #[.int .i64 53,.int .i64 11,.int .i64 (-1074)] 157)=w2 at *;clear HS n1
 go_upto_if 38 with fail
 go_cut [13,14,15,16] from 20 (λv13 v14 v15 v16 wc=>SN wc v13 Q/\C3 wc w.heap.size (.int .i64 53) (.int .i64 11) (.int .i64 (-1074))/\Below w.heap.size w wc)
 case first =>
  by_cases h1:C<=0
  . have KL:=Hm (left_int v sig (-C) w2 (by omega) (by have:=HCb.o;omega) (by omega) HSw.o);have eQ:=rq_left (sig:=sig) (more:=more) h1;rw [<- eQ,<- HQ.o] at KL;clear eQ
    go_wp2_with fail
    refine KL.o.mono ?_
    rintro e w3 ⟨⟨u,rfl,hu⟩,hb3⟩;have HU:=Hm hu;have HB3:=Hm hb3;clear hu hb3
    go_wp2
    go_meet
    case rel=>exact ⟨HU.o,HC0.o.keep HB3.o,HB0.o.trans (HB3.o.mono HB0.o.size)⟩
  . have KR:=right_int v sig (C-1) w2 (by omega) (by have:=HCb.o;omega) (by omega) HSw.o;have eQ:=rq_right (sig:=sig) (more:=more) h1;rw [<- HQ.o] at eQ;have hbA:=bl_div_le sig (C-1).toNat;generalize sig / 2 ^ (C-1).toNat=A at *;obtain ⟨lost,hlost⟩:∃ b,b=decide (sig%2 ^ (C-1).toNat≠0):=⟨_,rfl⟩;rw [<- hlost] at KR eQ;have K0:=λw u h=>Hm (at_zero u A w (by omega) h);have K1:=λw u h=>Hm (right_int u A 1 w (by omega) (by omega) (by omega) h);have hp:=par_bool A;have ht0:0<=((A%4294967296:Nat):Int):=by omega
    have ht1:((A%4294967296:Nat):Int)<=4294967295:=by omega
    obtain ⟨up,hup⟩:∃ b,b=decide (A%2=1):=⟨_,rfl⟩;rw [<- hup] at hp eQ;generalize ((A%4294967296:Nat):Int)=t at *;obtain ⟨lo2,hlo2⟩:∃ b,b=decide (A%2 ^ (1:Int).toNat≠0):=⟨_,rfl⟩;rw [<- hlo2] at K1;have hbH:=bl_div_le A (1:Int).toNat;generalize A / 2 ^ (1:Int).toNat=H at *;have K2:=λw u h=>Hm (at_zero u H w (by omega) h);have hp2:=par_bool H;have ht2:0<=((H%4294967296:Nat):Int):=by omega
    have ht3:((H%4294967296:Nat):Int)<=4294967295:=by omega
    obtain ⟨odd,hodd⟩:∃ b,b=decide (H%2=1):=⟨_,rfl⟩;rw [<- hodd] at hp2 eQ;generalize ((H%4294967296:Nat):Int)=t2 at *;have KA:=λw u z h hz=>Hm (addN_any u z H 1 w (by omega) (by rw [show bl 1=1 by decide];omega) h hz);have HE:=Hm eQ;have HKR:=Hm KR;clear eQ KR hup hlost hodd hlo2 HR KS KI
    go_wp2_with fail
    refine HKR.o.mono ?_
    rintro e w3 ⟨⟨u,rfl,hu⟩,hb3⟩;have K0:=K0 w3 u hu;have K1:=K1 w3 u hu;have HB3:=Hm (HB0.o.trans (hb3.mono HB0.o.size));have HC3:=Hm (HC0.o.keep hb3);clear hu hb3 HKR
    go_wp2_with fail
    refine K0.o.mono ?_
    rintro e w' ⟨rfl,rfl⟩
    go_wp2_with fail
    refine K1.o.mono ?_
    rintro e w4 ⟨⟨u2,rfl,hu2⟩,hb4⟩;have K2:=K2 w4 u2 hu2;have HB4:=Hm (HB3.o.trans (hb4.mono HB3.o.size));have HC4:=Hm (HC3.o.keep hb4);have HU2:=Hm hu2;have KA2:=Hm (KA (w4.alloc (.cells #[.int .u64 1] 23)) u2 _ (hu2.below ((Below.refl _ _).alloc (Nat.le_refl _) _)) sn_one).o;clear hu2 hb4 HB3 HC3 K0 K1 KA HSw HB0 HC0
    cases up
    . go_wp2
      go_meet
      case rel=>exact ⟨by rw [HE.o];exact HU2.o,HC4.o,HB4.o⟩
    . cases lost
      . cases more
        . cases odd
          . go_wp2_with fail
            refine K2.o.mono ?_
            rintro e w' ⟨rfl,rfl⟩
            go_wp2
            go_meet
            case rel=>exact ⟨by rw [HE.o];exact HU2.o,HC4.o,HB4.o⟩
          . go_wp2_with fail
            refine K2.o.mono ?_
            rintro e w' ⟨rfl,rfl⟩
            go_wp2_with fail
            refine KA2.o.mono ?_
            rintro e w5 ⟨⟨u3,rfl,hu3⟩,hb5⟩;have HB5:=Hm ((HB4.o.alloc HB4.o.size _).trans (hb5.mono (Nat.le_trans HB4.o.size (by simp))));have HC5:=Hm (HC4.o.past.keep hb5);have HU3:=Hm hu3;clear hu3 hb5
            go_wp2
            go_meet
            case rel=>exact ⟨by rw [HE.o];exact HU3.o,HC5.o,HB5.o⟩
        . skip
          go_wp2_with fail
          refine KA2.o.mono ?_
          rintro e w5 ⟨⟨u3,rfl,hu3⟩,hb5⟩;have HB5:=Hm ((HB4.o.alloc HB4.o.size _).trans (hb5.mono (Nat.le_trans HB4.o.size (by simp))));have HC5:=Hm (HC4.o.past.keep hb5);have HU3:=Hm hu3;clear hu3 hb5
          go_wp2
          go_meet
          case rel=>exact ⟨by rw [HE.o];exact HU3.o,HC5.o,HB5.o⟩
      . skip
        go_wp2_with fail
        refine KA2.o.mono ?_
        rintro e w5 ⟨⟨u3,rfl,hu3⟩,hb5⟩;have HB5:=Hm ((HB4.o.alloc HB4.o.size _).trans (hb5.mono (Nat.le_trans HB4.o.size (by simp))));have HC5:=Hm (HC4.o.past.keep hb5);have HU3:=Hm hu3;clear hu3 hb5
        go_wp2
        go_meet
        case rel=>exact ⟨by rw [HE.o];exact HU3.o,HC5.o,HB5.o⟩
 case rest =>
 obtain ⟨hu,hc3,hbw⟩:=hcut;have KW:=Hm (word_any _ Q wc (by omega) hu);have HC:=Hm hc3;have HBw:=Hm hbw;obtain ⟨q0,q1,q2⟩:=id hc3;clear hu hc3 hbw HSw HB0 HC0 HQ KB'
 go_wp2_with fail
 refine KW.o.mono ?_
 rintro e w' ⟨rfl,rfl⟩;clear KW
 go_upto_if 84 with (first|(go_at_call_of 101 (Value.int IntKind.i64 53);refine ((pow_53 _).mono λe w' h=>(⟨h.1,h.2.symm⟩:e=_/\_=w')).mono ?_;rintro e w' ⟨rfl,rfl⟩))
 go_cut [17,18] from 20 (λv17 v18 wz=>∃ (W:Nat) (E:Int),v17=.int .i64 E/\v18=.int .u64 (W:Int)/\wz=wc/\Hid ((Q=2 ^ 53/\W=2 ^ (53-1)/\E=ex+C+1)\/(Q≠2 ^ 53/\W=Q/\E=ex+C)))
 case first =>
  by_cases h1:Q=9007199254740992
  . obtain rfl:=h1
    go_wp2
    go_meet
    case rel=>exact ⟨4503599627370496,ex+C+1,rfl,rfl,rfl,.inl ⟨by decide,by decide,rfl⟩⟩
  . have t1:((Q:Int)==9007199254740992)=false:=beq_eq_false_iff_ne.2 (by omega)
    go_wp2
    go_meet
    case rel=>exact ⟨Q,ex+C,rfl,rfl,rfl,.inr ⟨h1,rfl,rfl⟩⟩
 case rest =>
 obtain ⟨W,E,rfl,rfl,rfl,HWE⟩:=hcut;have hWb:W<9007199254740992:=by rcases HWE.o with ⟨h1,h2,h3⟩|⟨h1,h2,h3⟩<;>omega
 have hEb:-1074<=E:=by rcases HWE.o with ⟨h1,h2,h3⟩|⟨h1,h2,h3⟩<;>omega
 have hEb2:E<=9001:=by rcases HWE.o with ⟨h1,h2,h3⟩|⟨h1,h2,h3⟩<;>omega
 obtain ⟨r1,r2,r3⟩:=HR.o W E HWE.o;have r1:W<4503599627370496->R=W:=r1;have r2:4503599627370496<=W->(2048:Int)-1<=E-(-1074)+1->R=infM 53 11:=r2;have r3:4503599627370496<=W->E-(-1074)+1<(2048:Int)-1->R=(E-(-1074)+1).toNat*4503599627370496+W-4503599627370496:=r3;have eI:infM 53 11=9218868437227405312:=by decide
 rw [eI] at r2;obtain ⟨Wi,hWi⟩:∃ Wi:Int,(W:Int)=Wi:=⟨_,rfl⟩;have hw0:0<=Wi:=by omega
 have hw1:Wi<9007199254740992:=by omega
 have R1:Wi<4503599627370496->Hid ((R:Int)=Wi):=λh=>by have:=r1 (by omega);show _=_;omega
 have R2:4503599627370496<=Wi->2047<=E+1075->Hid ((R:Int)=9218868437227405312):=λh h'=>by have:=r2 (by omega) (by omega);show _=_;omega
 have R3:4503599627370496<=Wi->E+1075<2047->Hid ((R:Int)=(E+1075)*4503599627370496+Wi-4503599627370496):=λh h'=>by
  have h3:=r3 (by omega) (by omega);have e:((E-(-1074)+1).toNat:Int)=E+1075:=by omega
  generalize (E-(-1074)+1).toNat=b at *
  show _=_
  rw [<- e,<- hWi]
  omega
 rw [hWi];clear HR HWE r1 r2 r3 eI hWb hQ hWi
 by_cases t1:Wi<4503599627370496
 . have RR:=R1 t1;clear R1 R2 R3 KI
   go_wp2_with (first|(go_at_call_of 101 (Value.int IntKind.i64 52);refine ((pow_52 _).mono λe w' h=>(⟨h.1,h.2.symm⟩:e=_/\_=w')).mono ?_;rintro e w' ⟨rfl,rfl⟩))
   refine (KS _).o.mono ?_
   rintro e w5 ⟨rfl,hb5⟩;have HB5:=Hm (HBw.o.trans (hb5.mono HBw.o.size));clear hb5
   go_wp2
   go_ret
   exact ⟨by rw [RR.o];rfl,HB5.o⟩
 . by_cases t2:2047<=E+1075
   . have RR:=R2 (by omega) t2;clear R1 R2 R3 KS
     go_wp2_with (first|(go_at_call_of 101 (Value.int IntKind.i64 52);refine ((pow_52 _).mono λe w' h=>(⟨h.1,h.2.symm⟩:e=_/\_=w')).mono ?_;rintro e w' ⟨rfl,rfl⟩)|(go_at_call_of 101 (Value.int IntKind.i64 11);refine ((pow_11 _).mono λe w' h=>(⟨h.1,h.2.symm⟩:e=_/\_=w')).mono ?_;rintro e w' ⟨rfl,rfl⟩))
     refine (KI _).o.mono ?_
     rintro e w5 ⟨rfl,hb5⟩;have HB5:=Hm (HBw.o.trans (hb5.mono HBw.o.size));clear hb5
     go_wp2
     go_ret
     exact ⟨by rw [RR.o];rfl,HB5.o⟩
   . have RR:=R3 (by omega) (by omega);clear R1 R2 R3 KI
     go_upto_region 23 with (first|(go_at_call_of 101 (Value.int IntKind.i64 52);refine ((pow_52 _).mono λe w' h=>(⟨h.1,h.2.symm⟩:e=_/\_=w')).mono ?_;rintro e w' ⟨rfl,rfl⟩)|(go_at_call_of 101 (Value.int IntKind.i64 11);refine ((pow_11 _).mono λe w' h=>(⟨h.1,h.2.symm⟩:e=_/\_=w')).mono ?_;rintro e w' ⟨rfl,rfl⟩))
     have kq0:=cell_regrown q0;have kq1:=cell_regrown q1;have kq2:=cell_regrown q2;obtain ⟨bi,hbi⟩:∃ bi:Int,E+1074+1=bi:=⟨_,rfl⟩;rw [hbi];have hb0:1<=bi:=by omega
     have hb1:bi<2047:=by omega
     have RR2:Hid (S+(R:Int)=S+bi*4503599627370496+Wi-4503599627370496):=by have:=RR.o;show _=_;omega
     clear hbi RR;have e0:IntKind.i64.wrap 52=52:=by decide
     have e1:IntKind.u64.wrap bi=bi:=by rw [IntKind.wrap_u64];omega
     have e2:IntKind.u64.wrap (bi*4503599627370496)=bi*4503599627370496:=by rw [IntKind.wrap_u64];omega
     have e3:IntKind.u64.wrap (S+bi*4503599627370496)=S+bi*4503599627370496:=by rw [IntKind.wrap_u64];omega
     have e4:IntKind.u64.wrap (S+bi*4503599627370496+Wi)=S+bi*4503599627370496+Wi:=by rw [IntKind.wrap_u64];omega
     have e5:IntKind.u64.wrap (S+bi*4503599627370496+Wi-4503599627370496)=S+bi*4503599627370496+Wi-4503599627370496:=by rw [IntKind.wrap_u64];omega
     have cS:∀ d os,Calls Tryz.prog 178 #[FSw,.bool g] (grow (redrawn wc d) os) λe w''=>e=.returned (.int .u64 S)/\∃ p:Regrown,w''=grow (redrawn wc p.d) p.os:=λd os=>Calls.regrown_of (KS _).o;have cP:∀ d os,Calls Tryz.prog 101 #[.int .i64 52] (grow (redrawn wc d) os) λe w''=>e=.returned (.int .u64 4503599627370496)/\∃ p:Regrown,w''=grow (redrawn wc p.d) p.os:=λd os=>Calls.regrown_of ((pow_52 _).mono λe w' h=>⟨h.1,by rw [h.2];exact Below.refl _ _⟩);clear KS
     refine wp_region_quiet_below (by kernel_rfl) (by kernel_rfl) ?_
     repeat (quiet_step ((first|(go_at_call 178;exact cS _ _)|(go_at_call 101;exact cP _ _))))
     refine wpQuiet_nil ?_
     intro _ hw'
     obtain ⟨⟨dq,osq⟩,hw''⟩:=hw';subst hw'';have hw5:=HBw.o.trans ((below_regrown wc dq osq).mono HBw.o.size)
     show Exit.then _ _ Exit.normal _ (grow (redrawn wc dq) osq)
     go_wp2
     go_ret
     exact ⟨by rw [RR2.o];rfl,hw5⟩
end Go.Proofs.YtipfjdogokanbaaGreatDoor.L3
