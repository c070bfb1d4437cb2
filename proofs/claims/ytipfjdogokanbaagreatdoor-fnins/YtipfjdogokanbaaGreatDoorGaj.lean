import Derived.Test.YtipfjdogokanbaaGreatDoorGaa
import Derived.Test.YtipfjdogokanbaaGreatDoorGai
import Derived.Lib.ConvBytes
import Derived.Lib.AtoiErrMem
set_option linter.all false
set_option maxHeartbeats 400000000
set_option maxRecDepth 100000
set_option linter.all false
namespace Go.Proofs.YtipfjdogokanbaaGreatDoor.Yz
open Go.RowKit Go.Sort
theorem pui64_c (l:Wd)(w:World)(hne:l≠[])(hl:l.length<=1099511627776) :
    Calls Tryz.prog 163 #[.string (S l),.int .i64 16,.int .i64 64] w λe w'=>PuP 18446744073709551615 l w e w':=by
 have hemp:(S l).toList.isEmpty=false:=by
  rw [ByteArray.toList_eq,QO];cases l with
 |nil=>exact absurd rfl hne
 |cons x r=>rfl
 have hcv:=Lib.run_convert_string_bytes (P:=Tryz.prog) w 9 22 5 (S l) (u:=.string) Tryz.underlying9 Tryz.underlying22 Tryz.underlying5
 have hB:∀ j,j<l.length->(Lib.bytesWorld w 5 (S l)).cell? ⟨w.heap.size,j,none⟩=some (.int .u8 (l.getD j 0).toNat):=λj hj=>by
  have:=Lib.bytesWorld_cell w 5 (S l) j (by rw [Qn];exact hj)
  rwa [QO] at this
 have hbw:=Lib.bytesWorld_below w 5 (S l);have hz:(S l).size=l.length:=Qn l;obtain ⟨W1,hW1⟩:∃ W1,W1=Lib.bytesWorld w 5 (S l):=⟨_,rfl⟩;rw [<- hW1] at hcv hB hbw;clear hW1;have HBW:=Hm hbw;have HBC:=Hm hB;clear hbw hB
 have hmv:IntKind.u64.wrap (IntKind.u64.wrap 18446744073709551616-1)=18446744073709551615:=by
  simp only [IntKind.wrap_u64];decide
 go_enter Tryz.func163,Tryz.ntmps163
 go_wp2
 go_loop [12,13,101] (λvu vn vi=>∃ (k acc:Nat) (a:Int),vu=.bool false/\vn=.int .u64 a/\vi=.int .i64 k/\k<=l.length/\Hid (a=(acc:Int)/\acc<=18446744073709551615/\pu 18446744073709551615 0 l=pu 18446744073709551615 acc (l.drop k))) (λ_ _ vi=>l.length-(intOf vi).toNat)
 case atStart=>exact ⟨0,0,0,rfl,rfl,rfl,by omega,rfl,by omega,rfl⟩
 case round =>
  obtain ⟨k,acc,a,rfl,rfl,rfl,hk,hh⟩:=hrel;obtain ⟨ha,hacc,hdec⟩:=hh.o;clear hh;have a0:0<=a:=by omega
  have a1:a<=18446744073709551615:=by omega
  by_cases hkn:k<l.length
  . have hki:(k:Int)<(l.length:Int):=by omega
    have hc:=HBC.o k hkn;have hdrop:l.drop k=l[k]'hkn::l.drop (k+1):=List.drop_eq_getElem_cons hkn;have hget:l.getD k 0=l[k]'hkn:=by simp [List.getD,List.getElem?_eq_getElem hkn]
    rw [hdrop] at hdec;rw [hget] at hc;generalize l[k]'hkn=c at hc hdec;have hc256:c.toNat<256:=c.toNat_lt;clear HBC hdrop hget;obtain ⟨v,hv⟩:∃ v,v=bits .or .u8 (c.toNat:Int) 32:=⟨_,rfl⟩;have v0:0<=v:=by rw [hv];exact bits_lo_u8 _ _ _
    have v1:v<=255:=by rw [hv];exact bits_hi_u8 _ _ _
    have KL:=Hm (λw=>Tryz.internal_strconv_lower (c.toNat:Int) w);rw [<- hv] at KL
    by_cases hdig:48<=c.toNat/\c.toNat<=57
    . obtain ⟨hd0,hd1⟩:=hdig;obtain ⟨d,hd⟩:∃ d,d=c.toNat-48:=⟨_,rfl⟩;have hdg:dgI c=some d:=by rw [hd];simp [dgI,hd0,hd1]
      have hdn:c.toNat=d+48:=by omega
      have hd9:d<=9:=by omega
      rw [hdn] at hc;have hcc:((d+48:Nat):Int)=(d:Int)+48:=by omega
      rw [hcc] at hc;have g1:((d:Int)+48==95)=false:=by simp;omega
      have g2:(48:Int)<=(d:Int)+48:=by omega
      have g3:(d:Int)+48<=57:=by omega
      have g4:IntKind.u8.wrap ((d:Int)+48-48)=(d:Int):=by rw [IntKind.wrap_u8];omega
      have g4':IntKind.u8.wrap (d:Int)=(d:Int):=by rw [IntKind.wrap_u8];omega
      have g5:¬ (16:Int)<=(d:Int):=by omega
      have g6:IntKind.u64.wrap (d:Int)=(d:Int):=by rw [IntKind.wrap_u64];omega
      clear hcc hdn hd hd0 hd1 hc256 hv v0 v1 KL
      by_cases hcut:1152921504606846976<=acc
      . have hF:pu 18446744073709551615 acc (c::l.drop (k+1))=none:=by simp [pu,hdg,hcut]
        rw [hF] at hdec;have icut:1152921504606846976<=a:=by omega
        have HD:=Hm hdec;clear hacc hF ha hdec hcut hdg
        go_wp2
        go_ret2
        exact ⟨_,_,rfl,HBW.o,.inr ⟨HD.o,.inr rfl⟩⟩
      . by_cases hov:18446744073709551615<acc*16+d
        . exfalso;omega
        . have hF:pu 18446744073709551615 acc (c::l.drop (k+1))=pu 18446744073709551615 (acc*16+d) (l.drop (k+1)):=by simp [pu,hdg,hcut,hov]
          have HN:Hid (a*16+(d:Int)=((acc*16+d:Nat):Int)/\acc*16+d<=18446744073709551615/\pu 18446744073709551615 0 l=pu 18446744073709551615 (acc*16+d) (l.drop (k+1))):=⟨by omega,by omega,by rw [hdec,hF]⟩;have iov:¬ 18446744073709551615<a*16+(d:Int):=by omega
          have icut:¬ 1152921504606846976<=a:=by omega
          have w1:IntKind.u64.wrap (a*16)=a*16:=by rw [IntKind.wrap_u64];omega
          have w2:IntKind.u64.wrap (a*16+(d:Int))=a*16+(d:Int):=by rw [IntKind.wrap_u64];omega
          have w3:¬ a*16+(d:Int)<a*16:=by omega
          clear hacc hF ha hdec hcut hov hdg
          go_wp2
          refine ⟨⟨k+1,acc*16+d,a*16+(d:Int),rfl,(by first|rfl|(congr 1;omega)),(by first|rfl|(congr 1;omega)),by omega,HN⟩,by simp [intOf];omega⟩
    . by_cases hlet:97<=v/\v<=102
      . obtain ⟨hl0,hl1⟩:=hlet;obtain ⟨d,hd⟩:∃ d:Nat,v=(d:Int)+87:=⟨(v-87).toNat,by omega⟩
        have hdg:dgI c=some d:=by
         simp only [dgI]
         rw [if_neg hdig,<- hv,if_pos ⟨hl0,hl1⟩,hd]
         congr 1
        have h95:c.toNat≠95:=by
         intro e
         rw [e] at hv
         have:bits .or .u8 ((95:Nat):Int) 32=127:=by decide
         omega
        have g0:((c.toNat:Int)==95)=false:=by simp;omega
        have hnd:48<=(c.toNat:Int)->¬ (c.toNat:Int)<=57:=by omega
        generalize (c.toNat:Int)=ci at *;have g1:(97:Int)<=v:=hl0;have g2:v<=122:=by omega
        have g3:IntKind.u8.wrap (v-97)=v-97:=by rw [IntKind.wrap_u8];omega
        have g4:IntKind.u8.wrap (v-97+10)=(d:Int):=by rw [IntKind.wrap_u8];omega
        have g5:¬ (16:Int)<=(d:Int):=by omega
        have g6:IntKind.u64.wrap (d:Int)=(d:Int):=by rw [IntKind.wrap_u64];omega
        have hd15:(d:Int)<=15:=by omega
        have hd0:(0:Int)<=(d:Int):=by omega
        clear hl0 hl1 hc256 hv v0 v1 hdig h95 hd
        by_cases h48:(48:Int)<=ci
        . have h57:=hnd h48;clear hnd
          by_cases hcut:1152921504606846976<=acc
          . have hF:pu 18446744073709551615 acc (c::l.drop (k+1))=none:=by simp [pu,hdg,hcut]
            rw [hF] at hdec;have icut:1152921504606846976<=a:=by omega
            have HD:=Hm hdec;clear hacc hF ha hdec hcut hdg
            go_wp2_with (go_at_call 194;refine (KL.o _).mono ?_;rintro e w' ⟨rfl,rfl⟩)
            go_ret2
            exact ⟨_,_,rfl,HBW.o,.inr ⟨HD.o,.inr rfl⟩⟩
          . by_cases hov:18446744073709551615<acc*16+d
            . exfalso;omega
            . have hF:pu 18446744073709551615 acc (c::l.drop (k+1))=pu 18446744073709551615 (acc*16+d) (l.drop (k+1)):=by simp [pu,hdg,hcut,hov]
              have HN:Hid (a*16+(d:Int)=((acc*16+d:Nat):Int)/\acc*16+d<=18446744073709551615/\pu 18446744073709551615 0 l=pu 18446744073709551615 (acc*16+d) (l.drop (k+1))):=⟨by omega,by omega,by rw [hdec,hF]⟩;have iov:¬ 18446744073709551615<a*16+(d:Int):=by omega
              have icut:¬ 1152921504606846976<=a:=by omega
              have w1:IntKind.u64.wrap (a*16)=a*16:=by rw [IntKind.wrap_u64];omega
              have w2:IntKind.u64.wrap (a*16+(d:Int))=a*16+(d:Int):=by rw [IntKind.wrap_u64];omega
              have w3:¬ a*16+(d:Int)<a*16:=by omega
              clear hacc hF ha hdec hcut hov hdg
              go_wp2_with (go_at_call 194;refine (KL.o _).mono ?_;rintro e w' ⟨rfl,rfl⟩)
              refine ⟨⟨k+1,acc*16+d,a*16+(d:Int),rfl,(by first|rfl|(congr 1;omega)),(by first|rfl|(congr 1;omega)),by omega,HN⟩,by simp [intOf];omega⟩
        . clear hnd
          by_cases hcut:1152921504606846976<=acc
          . have hF:pu 18446744073709551615 acc (c::l.drop (k+1))=none:=by simp [pu,hdg,hcut]
            rw [hF] at hdec;have icut:1152921504606846976<=a:=by omega
            have HD:=Hm hdec;clear hacc hF ha hdec hcut hdg
            go_wp2_with (go_at_call 194;refine (KL.o _).mono ?_;rintro e w' ⟨rfl,rfl⟩)
            go_ret2
            exact ⟨_,_,rfl,HBW.o,.inr ⟨HD.o,.inr rfl⟩⟩
          . by_cases hov:18446744073709551615<acc*16+d
            . exfalso;omega
            . have hF:pu 18446744073709551615 acc (c::l.drop (k+1))=pu 18446744073709551615 (acc*16+d) (l.drop (k+1)):=by simp [pu,hdg,hcut,hov]
              have HN:Hid (a*16+(d:Int)=((acc*16+d:Nat):Int)/\acc*16+d<=18446744073709551615/\pu 18446744073709551615 0 l=pu 18446744073709551615 (acc*16+d) (l.drop (k+1))):=⟨by omega,by omega,by rw [hdec,hF]⟩;have iov:¬ 18446744073709551615<a*16+(d:Int):=by omega
              have icut:¬ 1152921504606846976<=a:=by omega
              have w1:IntKind.u64.wrap (a*16)=a*16:=by rw [IntKind.wrap_u64];omega
              have w2:IntKind.u64.wrap (a*16+(d:Int))=a*16+(d:Int):=by rw [IntKind.wrap_u64];omega
              have w3:¬ a*16+(d:Int)<a*16:=by omega
              clear hacc hF ha hdec hcut hov hdg
              go_wp2_with (go_at_call 194;refine (KL.o _).mono ?_;rintro e w' ⟨rfl,rfl⟩)
              refine ⟨⟨k+1,acc*16+d,a*16+(d:Int),rfl,(by first|rfl|(congr 1;omega)),(by first|rfl|(congr 1;omega)),by omega,HN⟩,by simp [intOf];omega⟩
      . have hF:pu 18446744073709551615 acc (c::l.drop (k+1))=none:=by
          have:dgI c=none:=by
           simp only [dgI]
           rw [if_neg hdig,<- hv,if_neg hlet]
          simp [pu,this]
        rw [hF] at hdec;have HD:=Hm hdec;have hnd:48<=(c.toNat:Int)->¬ (c.toNat:Int)<=57:=by omega
        clear hacc hF ha hdec hv hdig;have three:¬ (97:Int)<=v\/((97:Int)<=v/\¬ v<=122)\/((97:Int)<=v/\v<=122/\(16:Int)<=v-97+10):=by omega
        by_cases h95:c.toNat=95
        . rw [h95] at hc KL;have e95:((95:Nat):Int)=95:=rfl;rw [e95] at hc KL;clear hnd h95 e95
          rcases three with t1|⟨t1,t2⟩|⟨t1,t2,t3⟩
          . go_wp2_with (go_at_call 194;refine (KL.o _).mono ?_;rintro e w' ⟨rfl,rfl⟩)
            go_ret2
            exact ⟨_,_,rfl,HBW.o,.inr ⟨HD.o,.inl rfl⟩⟩
          . go_wp2_with (go_at_call 194;refine (KL.o _).mono ?_;rintro e w' ⟨rfl,rfl⟩)
            go_ret2
            exact ⟨_,_,rfl,HBW.o,.inr ⟨HD.o,.inl rfl⟩⟩
          . have g3:IntKind.u8.wrap (v-97)=v-97:=by rw [IntKind.wrap_u8];omega
            have g4:IntKind.u8.wrap (v-97+10)=v-97+10:=by rw [IntKind.wrap_u8];omega
            go_wp2_with (go_at_call 194;refine (KL.o _).mono ?_;rintro e w' ⟨rfl,rfl⟩)
            go_ret2
            exact ⟨_,_,rfl,HBW.o,.inr ⟨HD.o,.inl rfl⟩⟩
        . have g0:((c.toNat:Int)==95)=false:=by simp;omega
          generalize (c.toNat:Int)=ci at *;clear h95
          by_cases h48:(48:Int)<=ci
          . have h57:=hnd h48;clear hnd
            rcases three with t1|⟨t1,t2⟩|⟨t1,t2,t3⟩
            . go_wp2_with (go_at_call 194;refine (KL.o _).mono ?_;rintro e w' ⟨rfl,rfl⟩)
              go_ret2
              exact ⟨_,_,rfl,HBW.o,.inr ⟨HD.o,.inl rfl⟩⟩
            . go_wp2_with (go_at_call 194;refine (KL.o _).mono ?_;rintro e w' ⟨rfl,rfl⟩)
              go_ret2
              exact ⟨_,_,rfl,HBW.o,.inr ⟨HD.o,.inl rfl⟩⟩
            . have g3:IntKind.u8.wrap (v-97)=v-97:=by rw [IntKind.wrap_u8];omega
              have g4:IntKind.u8.wrap (v-97+10)=v-97+10:=by rw [IntKind.wrap_u8];omega
              go_wp2_with (go_at_call 194;refine (KL.o _).mono ?_;rintro e w' ⟨rfl,rfl⟩)
              go_ret2
              exact ⟨_,_,rfl,HBW.o,.inr ⟨HD.o,.inl rfl⟩⟩
          . clear hnd
            rcases three with t1|⟨t1,t2⟩|⟨t1,t2,t3⟩
            . go_wp2_with (go_at_call 194;refine (KL.o _).mono ?_;rintro e w' ⟨rfl,rfl⟩)
              go_ret2
              exact ⟨_,_,rfl,HBW.o,.inr ⟨HD.o,.inl rfl⟩⟩
            . go_wp2_with (go_at_call 194;refine (KL.o _).mono ?_;rintro e w' ⟨rfl,rfl⟩)
              go_ret2
              exact ⟨_,_,rfl,HBW.o,.inr ⟨HD.o,.inl rfl⟩⟩
            . have g3:IntKind.u8.wrap (v-97)=v-97:=by rw [IntKind.wrap_u8];omega
              have g4:IntKind.u8.wrap (v-97+10)=v-97+10:=by rw [IntKind.wrap_u8];omega
              go_wp2_with (go_at_call 194;refine (KL.o _).mono ?_;rintro e w' ⟨rfl,rfl⟩)
              go_ret2
              exact ⟨_,_,rfl,HBW.o,.inr ⟨HD.o,.inl rfl⟩⟩
  . have hkk:k=l.length:=by omega
    subst hkk;have hF:pu 18446744073709551615 acc (l.drop l.length)=some acc:=by rw [List.drop_eq_nil_of_le (Nat.le_refl _)];rfl
    rw [hF] at hdec;subst ha;have HD:=Hm hdec;clear hacc hF a0 a1 hdec HBC
    go_wp2
    go_ret2
    exact ⟨_,_,rfl,HBW.o,.inl ⟨acc,HD.o,rfl,rfl⟩⟩
end Go.Proofs.YtipfjdogokanbaaGreatDoor.Yz
set_option linter.all false
namespace Go.Proofs.YtipfjdogokanbaaGreatDoor.Yz
open Go.RowKit Go.Sort
theorem tbits_c (q:Nat)(u n:Nat)(w:World)(hn1:1<=n)(hn:n<=16)(hu:u<16 ^ n)(hV:Vs q w) :
    Calls Tryz.prog 115 #[.int .u64 (u:Int),.int .i64 (n:Int)] w λe w'=>e=.returned (.string (S (QF n u)))/\Below w.heap.size w w':=by
 have h64:u<18446744073709551616:=by
  have h1:16 ^ n<=16 ^ 16:=Nat.pow_le_pow_right (by omega) hn;have h2:(16:Nat) ^ 16=18446744073709551616:=by decide
  rw [h2] at h1
  omega
 have K:=Hm (fu_c u w h64 hV.tz)
 have hl:(Xo u).length<=n:=by
  obtain ⟨m,rfl⟩:∃ m,n=m+1:=⟨n-1,by omega⟩
  exact (hexD_spec m u hu).1
 have HE:Hid ([48,120]++Lib.repeatL [48] (n-(Xo u).length)++Xo u=QF n u):=by
  show _=_
  obtain ⟨m,rfl⟩:∃ m,n=m+1:=⟨n-1,by omega⟩
  exact bits_eq m u hu
 generalize QF n u=M at *;generalize Xo u=L at *;obtain ⟨c,hc⟩:∃ c,c=n-L.length:=⟨_,rfl⟩;rw [<- hc] at HE;have KR:=Hm (λw=>Tryz.strings_Repeat ⟨#[48]⟩ c w (by omega) (by show 1*c<=_;omega));rw [show (⟨#[48]⟩:ByteArray).data.toList=[48] from rfl] at KR;have hrl:(Lib.repeatL [48] c).length=c:=by rw [repeat_eq];simp
 generalize Lib.repeatL [48] c=R at *;rw [show (⟨R.toArray⟩:ByteArray)=S R from rfl] at KR;have hw:IntKind.i64.wrap ((n:Int)-((S L).size:Int))=(c:Int):=by rw [IntKind.wrap_i64,Qn];omega
 have q1:¬ 9223372036854775807<2+(S R).size:=by rw [Qn];omega
 have q2:¬ 9223372036854775807<2+(S R).size+(S L).size:=by rw [Qn,Qn];omega
 clear hV hu hc
 go_enter Tryz.func115,Tryz.ntmps115
 go_wp2_with fail
 refine K.o.mono ?_
 rintro e w1 ⟨rfl,hb⟩;have HB:=Hm hb;clear K hb
 go_wp2_with fail
 refine (KR.o _).mono ?_
 rintro e w2 ⟨rfl,hb⟩;have HB2:=Hm (HB.o.trans (hb.mono HB.o.size));clear hb
 go_wp2
 go_ret
 exact ⟨by rw [<- HE.o,<- S_app,<- S_app];rfl,HB2.o⟩
def puW (mx:Nat)(l:Wd):Option Nat:=if l=[] then none else pu mx 0 l
theorem pu_le {mx:Nat}:∀ (l:Wd) (n m:Nat),n<=mx->pu mx n l=some m->m<=mx
|[],n,m,h,e=>by simp [pu] at e;omega
|c::r,n,m,h,e=>by
  simp only [pu] at e
  split at e
  . cases e
  . split at e
    . cases e
    . split at e
      . cases e
      . exact pu_le r _ m (by omega) e
theorem puW_le {mx:Nat}{l:Wd}{m:Nat}(h:puW mx l=some m):m<=mx:=by
 unfold puW at h
 split at h
 . cases h
 . exact pu_le l 0 m (by omega) h
def okB (n mx:Nat)(s:Wd):Bool:=match puW mx (Lib.trimPrefix s [48,120]) with|some u=>decide (QF n u=s)|none=>false
theorem pup32_c (q:Nat)(l:Wd)(w:World)(hl:l.length<=1099511627776)(hV:Vs q w) :
    Calls Tryz.prog 126 #[.string (S l),.int .i64 16,.int .i64 32] w λe w'=>∃ (x:Int) (ev:Value),e=.returned (.tuple #[.int .u64 x,ev])/\Below w.heap.size w w'/\((∃ n:Nat,puW 4294967295 l=some n/\x=n/\ev=.nilIface)\/(puW 4294967295 l=none/\∃ t p,ev=.iface t p)):=by
 obtain ⟨ev1,c1,i1⟩:=hV.e1;obtain ⟨ev2,c2,i2⟩:=hV.e2;have b1:(1:Nat)<w.heap.size:=World.block_lt_of_cell? w _ c1;have b2:(2:Nat)<w.heap.size:=World.block_lt_of_cell? w _ c2;have hz:(S l).size=l.length:=Qn l;have KS:=Hm (λ(V:World) (hb:Below w.heap.size w V)=>Tryz.strconv_toError_syntax ⟨#[80,97,114,115,101,85,105,110,116]⟩ (S l) 16 32 ev1 V (by omega) ((hb.cell (p:=⟨1,0,none⟩) b1).trans c1) i1);have KR:=Hm (λ(V:World) (hb:Below w.heap.size w V)=>Tryz.strconv_toError_range ⟨#[80,97,114,115,101,85,105,110,116]⟩ (S l) 16 32 ev2 V (by omega) ((hb.cell (p:=⟨2,0,none⟩) b2).trans c2) i2)
 have K:Hid (Calls Tryz.prog 163 #[.string (S l),.int .i64 16,.int .i64 32] w λe w'=>∃ (x:Int) (ev:Value),e=.returned (.tuple #[.int .u64 x,ev])/\Below w.heap.size w w'/\((∃ n:Nat,puW 4294967295 l=some n/\x=n/\ev=.nilIface)\/(puW 4294967295 l=none/\(ev=.iface 234 (.int .i64 2)\/ev=.iface 234 (.int .i64 1))))):=by
  show Calls _ _ _ _ _
  by_cases hne:l=[]
  . subst hne
    refine (Tryz.internal_strconv_ParseUint_empty 16 32 w).mono ?_
    rintro e w' ⟨rfl,rfl⟩
    exact ⟨0,_,rfl,Below.refl _ _,.inr ⟨rfl,.inl rfl⟩⟩
  . refine (pui32_c l w hne hl).mono ?_
    rintro e w' ⟨x,ev,rfl,hb,hx⟩
    refine ⟨x,ev,rfl,hb,?_⟩
    rw [show puW 4294967295 l=pu 4294967295 0 l by simp [puW,hne]]
    exact hx
 clear hV c1 c2 i1 i2
 go_enter Tryz.func126,Tryz.ntmps126
 go_wp2_with fail
 refine K.o.mono ?_
 rintro e w1 ⟨x,ev,rfl,hb,hx⟩;have HB:=Hm hb;clear hb K
 rcases hx with ⟨n,h1,rfl,rfl⟩|⟨h1,rfl|rfl⟩
 . have H1:=Hm h1;clear h1
   go_wp2
   go_ret2
   exact ⟨_,_,rfl,HB.o,.inl ⟨n,H1.o,rfl,rfl⟩⟩
 . have H1:=Hm h1;clear h1
   go_wp2_with fail
   refine (KS.o _ HB.o).mono ?_
   rintro e w2 ⟨N,rfl,-,-,hb⟩;have HB2:=Hm (HB.o.trans (hb.mono HB.o.size));clear hb
   go_wp2
   go_ret2
   exact ⟨_,_,rfl,HB2.o,.inr ⟨H1.o,_,_,rfl⟩⟩
 . have H1:=Hm h1;clear h1
   go_wp2_with fail
   refine (KR.o _ HB.o).mono ?_
   rintro e w2 ⟨N,rfl,-,-,hb⟩;have HB2:=Hm (HB.o.trans (hb.mono HB.o.size));clear hb
   go_wp2
   go_ret2
   exact ⟨_,_,rfl,HB2.o,.inr ⟨H1.o,_,_,rfl⟩⟩
theorem pup64_c (q:Nat)(l:Wd)(w:World)(hl:l.length<=1099511627776)(hV:Vs q w) :
    Calls Tryz.prog 126 #[.string (S l),.int .i64 16,.int .i64 64] w λe w'=>∃ (x:Int) (ev:Value),e=.returned (.tuple #[.int .u64 x,ev])/\Below w.heap.size w w'/\((∃ n:Nat,puW 18446744073709551615 l=some n/\x=n/\ev=.nilIface)\/(puW 18446744073709551615 l=none/\∃ t p,ev=.iface t p)):=by
 obtain ⟨ev1,c1,i1⟩:=hV.e1;obtain ⟨ev2,c2,i2⟩:=hV.e2;have b1:(1:Nat)<w.heap.size:=World.block_lt_of_cell? w _ c1;have b2:(2:Nat)<w.heap.size:=World.block_lt_of_cell? w _ c2;have hz:(S l).size=l.length:=Qn l;have KS:=Hm (λ(V:World) (hb:Below w.heap.size w V)=>Tryz.strconv_toError_syntax ⟨#[80,97,114,115,101,85,105,110,116]⟩ (S l) 16 64 ev1 V (by omega) ((hb.cell (p:=⟨1,0,none⟩) b1).trans c1) i1);have KR:=Hm (λ(V:World) (hb:Below w.heap.size w V)=>Tryz.strconv_toError_range ⟨#[80,97,114,115,101,85,105,110,116]⟩ (S l) 16 64 ev2 V (by omega) ((hb.cell (p:=⟨2,0,none⟩) b2).trans c2) i2)
 have K:Hid (Calls Tryz.prog 163 #[.string (S l),.int .i64 16,.int .i64 64] w λe w'=>∃ (x:Int) (ev:Value),e=.returned (.tuple #[.int .u64 x,ev])/\Below w.heap.size w w'/\((∃ n:Nat,puW 18446744073709551615 l=some n/\x=n/\ev=.nilIface)\/(puW 18446744073709551615 l=none/\(ev=.iface 234 (.int .i64 2)\/ev=.iface 234 (.int .i64 1))))):=by
  show Calls _ _ _ _ _
  by_cases hne:l=[]
  . subst hne
    refine (Tryz.internal_strconv_ParseUint_empty 16 64 w).mono ?_
    rintro e w' ⟨rfl,rfl⟩
    exact ⟨0,_,rfl,Below.refl _ _,.inr ⟨rfl,.inl rfl⟩⟩
  . refine (pui64_c l w hne hl).mono ?_
    rintro e w' ⟨x,ev,rfl,hb,hx⟩
    refine ⟨x,ev,rfl,hb,?_⟩
    rw [show puW 18446744073709551615 l=pu 18446744073709551615 0 l by simp [puW,hne]]
    exact hx
 clear hV c1 c2 i1 i2
 go_enter Tryz.func126,Tryz.ntmps126
 go_wp2_with fail
 refine K.o.mono ?_
 rintro e w1 ⟨x,ev,rfl,hb,hx⟩;have HB:=Hm hb;clear hb K
 rcases hx with ⟨n,h1,rfl,rfl⟩|⟨h1,rfl|rfl⟩
 . have H1:=Hm h1;clear h1
   go_wp2
   go_ret2
   exact ⟨_,_,rfl,HB.o,.inl ⟨n,H1.o,rfl,rfl⟩⟩
 . have H1:=Hm h1;clear h1
   go_wp2_with fail
   refine (KS.o _ HB.o).mono ?_
   rintro e w2 ⟨N,rfl,-,-,hb⟩;have HB2:=Hm (HB.o.trans (hb.mono HB.o.size));clear hb
   go_wp2
   go_ret2
   exact ⟨_,_,rfl,HB2.o,.inr ⟨H1.o,_,_,rfl⟩⟩
 . have H1:=Hm h1;clear h1
   go_wp2_with fail
   refine (KR.o _ HB.o).mono ?_
   rintro e w2 ⟨N,rfl,-,-,hb⟩;have HB2:=Hm (HB.o.trans (hb.mono HB.o.size));clear hb
   go_wp2
   go_ret2
   exact ⟨_,_,rfl,HB2.o,.inr ⟨H1.o,_,_,rfl⟩⟩
theorem bits32_c (q:Nat)(ws:List Wd)(bad:Bool)(w:World)(h:Tw w q ws bad)(hl:∀ x ∈ ws,x.length<=1099511627776)(hV:Vs q w) :
    Calls Tryz.prog 85 #[.pointer (some ⟨q,0,none⟩),.int .i64 8] w λe w'=>∃ x:Int,e=.returned (.int .u64 x)/\Tw w' q ws.tail ((bad || ws.isEmpty) || !okB 8 4294967295 (ws.headD []))/\w.grownBy w' (some q)/\(okB 8 4294967295 (ws.headD [])=true->∃ u:Nat,x=u/\u<=4294967295/\QF 8 u=ws.headD []):=by
 have KN:=Hm (next_g q ws bad w h)
 have hhl:(ws.headD []).length<=1099511627776:=by
  cases ws with
 |nil=>simp
 |cons x r=>exact hl x (by simp)
 have HV:=Hm hV;have hq:=h.lt;clear h hV hl;generalize ws.headD []=s at *;generalize ws.tail=r at *;generalize (bad || ws.isEmpty)=z at *;have KT:=Hm (λw=>Tryz.strings_TrimPrefix (S s) ⟨#[48,120]⟩ w);rw [QO,show (⟨#[48,120]⟩:ByteArray).data.toList=[48,120] from rfl] at KT
 have htl:(Lib.trimPrefix s [48,120]).length<=1099511627776:=by
  unfold Lib.trimPrefix;split
  . simp;omega
  . exact hhl
 obtain ⟨t,ht⟩:∃ t,Lib.trimPrefix s [48,120]=t:=⟨_,rfl⟩;rw [ht] at KT htl;rw [show (⟨t.toArray⟩:ByteArray)=S t from rfl] at KT;have HT:=Hm ht;clear ht
 go_enter Tryz.func85,Tryz.ntmps85
 go_wp2_with fail
 refine KN.o.mono ?_
 rintro e w1 ⟨rfl,t1,b1⟩;have T1:=Hm t1;have B1:=Hm b1;have V1:=Hm (HV.o.keep (QU b1 hq));have hs1:=b1.size;have hq1:=t1.lt;clear t1 b1 KN HV
 go_wp2_with fail
 refine (KT.o _).mono ?_
 rintro e w1' ⟨rfl,rfl⟩;clear KT
 go_wp2_with fail
 refine (pup32_c q t w1' htl V1.o).mono ?_
 rintro e w2 ⟨x,ev,rfl,b2,hx⟩;have T2:=Hm (T1.o.keep b2);have B2:=Hm (Qa B1.o (QD b2));have V2:=Hm (V1.o.keep (b2.mono (by omega)));clear b2 T1 B1 V1
 rcases hx with ⟨u,hx,rfl,rfl⟩|⟨hx,t',p,rfl⟩
 . have hum:u<=4294967295:=puW_le hx;have hpw:(16:Nat) ^ 8=4294967295+1:=by decide
   have KB:=Hm (tbits_c q u 8 w2 (by decide) (by decide) (by rw [hpw];omega) V2.o);have hok:okB 8 4294967295 s=decide (QF 8 u=s):=by simp [okB,HT.o,hx]
   have HOK:=Hm hok;have HM:=Hm hum;clear hx hok hum;rw [show ((8:Nat):Int)=8 from rfl] at KB
   go_wp2_with fail
   refine KB.o.mono ?_
   rintro e w3 ⟨rfl,b3⟩;have T3:=Hm (T2.o.keep b3);have B3:=Hm (Qa B2.o (QD b3));clear b3 T2 B2 V2 KB
   by_cases he:QF 8 u=s
   . have hok:okB 8 4294967295 s=true:=by rw [HOK.o];simp [he]
     have HK:=Hm hok;have KA:=Hm (ask_c q r z true w3 T3.o);have HE:=Hm he;have hse:((S (QF 8 u)).toList==(S s).toList)=true:=by rw [S_beq];simp [HE.o]
     clear hok he
     go_wp2_with fail
     refine KA.o.mono ?_
     rintro e w9 ⟨rfl,t9,b9⟩;have T9:=Hm t9;have B9:=Hm (Qa B3.o b9);clear t9 b9 KA
     go_wp2
     go_ret
     exact ⟨u,rfl,by rw [HK.o];exact T9.o,B9.o,λ_=>⟨u,rfl,HM.o,HE.o⟩⟩
   . have hok:okB 8 4294967295 s=false:=by rw [HOK.o];simp [he]
     have HK:=Hm hok;have KA:=Hm (ask_c q r z false w3 T3.o);have hse:((S (QF 8 u)).toList==(S s).toList)=false:=by rw [S_beq];simp [he]
     clear hok he
     go_wp2_with fail
     refine KA.o.mono ?_
     rintro e w9 ⟨rfl,t9,b9⟩;have T9:=Hm t9;have B9:=Hm (Qa B3.o b9);clear t9 b9 KA
     go_wp2
     go_ret
     exact ⟨u,rfl,by rw [HK.o];exact T9.o,B9.o,λh=>by rw [HK.o] at h;cases h⟩
 . have hok:okB 8 4294967295 s=false:=by simp [okB,HT.o,hx]
   have KA:=Hm (ask_c q r z false w2 T2.o);have HOK:=Hm hok;clear hx hok
   go_wp2_with fail
   refine KA.o.mono ?_
   rintro e w9 ⟨rfl,t9,b9⟩;have T9:=Hm t9;have B9:=Hm (Qa B2.o b9);clear t9 b9 KA
   go_wp2
   go_ret
   exact ⟨x,rfl,by rw [HOK.o];exact T9.o,B9.o,λh=>by rw [HOK.o] at h;cases h⟩
theorem bits64_c (q:Nat)(ws:List Wd)(bad:Bool)(w:World)(h:Tw w q ws bad)(hl:∀ x ∈ ws,x.length<=1099511627776)(hV:Vs q w) :
    Calls Tryz.prog 85 #[.pointer (some ⟨q,0,none⟩),.int .i64 16] w λe w'=>∃ x:Int,e=.returned (.int .u64 x)/\Tw w' q ws.tail ((bad || ws.isEmpty) || !okB 16 18446744073709551615 (ws.headD []))/\w.grownBy w' (some q)/\(okB 16 18446744073709551615 (ws.headD [])=true->∃ u:Nat,x=u/\u<=18446744073709551615/\QF 16 u=ws.headD []):=by
 have KN:=Hm (next_g q ws bad w h)
 have hhl:(ws.headD []).length<=1099511627776:=by
  cases ws with
 |nil=>simp
 |cons x r=>exact hl x (by simp)
 have HV:=Hm hV;have hq:=h.lt;clear h hV hl;generalize ws.headD []=s at *;generalize ws.tail=r at *;generalize (bad || ws.isEmpty)=z at *;have KT:=Hm (λw=>Tryz.strings_TrimPrefix (S s) ⟨#[48,120]⟩ w);rw [QO,show (⟨#[48,120]⟩:ByteArray).data.toList=[48,120] from rfl] at KT
 have htl:(Lib.trimPrefix s [48,120]).length<=1099511627776:=by
  unfold Lib.trimPrefix;split
  . simp;omega
  . exact hhl
 obtain ⟨t,ht⟩:∃ t,Lib.trimPrefix s [48,120]=t:=⟨_,rfl⟩;rw [ht] at KT htl;rw [show (⟨t.toArray⟩:ByteArray)=S t from rfl] at KT;have HT:=Hm ht;clear ht
 go_enter Tryz.func85,Tryz.ntmps85
 go_wp2_with fail
 refine KN.o.mono ?_
 rintro e w1 ⟨rfl,t1,b1⟩;have T1:=Hm t1;have B1:=Hm b1;have V1:=Hm (HV.o.keep (QU b1 hq));have hs1:=b1.size;have hq1:=t1.lt;clear t1 b1 KN HV
 go_wp2_with fail
 refine (KT.o _).mono ?_
 rintro e w1' ⟨rfl,rfl⟩;clear KT
 go_wp2_with fail
 refine (pup64_c q t w1' htl V1.o).mono ?_
 rintro e w2 ⟨x,ev,rfl,b2,hx⟩;have T2:=Hm (T1.o.keep b2);have B2:=Hm (Qa B1.o (QD b2));have V2:=Hm (V1.o.keep (b2.mono (by omega)));clear b2 T1 B1 V1
 rcases hx with ⟨u,hx,rfl,rfl⟩|⟨hx,t',p,rfl⟩
 . have hum:u<=18446744073709551615:=puW_le hx;have hpw:(16:Nat) ^ 16=18446744073709551615+1:=by decide
   have KB:=Hm (tbits_c q u 16 w2 (by decide) (by decide) (by rw [hpw];omega) V2.o);have hok:okB 16 18446744073709551615 s=decide (QF 16 u=s):=by simp [okB,HT.o,hx]
   have HOK:=Hm hok;have HM:=Hm hum;clear hx hok hum;rw [show ((16:Nat):Int)=16 from rfl] at KB
   go_wp2_with fail
   refine KB.o.mono ?_
   rintro e w3 ⟨rfl,b3⟩;have T3:=Hm (T2.o.keep b3);have B3:=Hm (Qa B2.o (QD b3));clear b3 T2 B2 V2 KB
   by_cases he:QF 16 u=s
   . have hok:okB 16 18446744073709551615 s=true:=by rw [HOK.o];simp [he]
     have HK:=Hm hok;have KA:=Hm (ask_c q r z true w3 T3.o);have HE:=Hm he;have hse:((S (QF 16 u)).toList==(S s).toList)=true:=by rw [S_beq];simp [HE.o]
     clear hok he
     go_wp2_with fail
     refine KA.o.mono ?_
     rintro e w9 ⟨rfl,t9,b9⟩;have T9:=Hm t9;have B9:=Hm (Qa B3.o b9);clear t9 b9 KA
     go_wp2
     go_ret
     exact ⟨u,rfl,by rw [HK.o];exact T9.o,B9.o,λ_=>⟨u,rfl,HM.o,HE.o⟩⟩
   . have hok:okB 16 18446744073709551615 s=false:=by rw [HOK.o];simp [he]
     have HK:=Hm hok;have KA:=Hm (ask_c q r z false w3 T3.o);have hse:((S (QF 16 u)).toList==(S s).toList)=false:=by rw [S_beq];simp [he]
     clear hok he
     go_wp2_with fail
     refine KA.o.mono ?_
     rintro e w9 ⟨rfl,t9,b9⟩;have T9:=Hm t9;have B9:=Hm (Qa B3.o b9);clear t9 b9 KA
     go_wp2
     go_ret
     exact ⟨u,rfl,by rw [HK.o];exact T9.o,B9.o,λh=>by rw [HK.o] at h;cases h⟩
 . have hok:okB 16 18446744073709551615 s=false:=by simp [okB,HT.o,hx]
   have KA:=Hm (ask_c q r z false w2 T2.o);have HOK:=Hm hok;clear hx hok
   go_wp2_with fail
   refine KA.o.mono ?_
   rintro e w9 ⟨rfl,t9,b9⟩;have T9:=Hm t9;have B9:=Hm (Qa B2.o b9);clear t9 b9 KA
   go_wp2
   go_ret
   exact ⟨x,rfl,by rw [HOK.o];exact T9.o,B9.o,λh=>by rw [HOK.o] at h;cases h⟩
end Go.Proofs.YtipfjdogokanbaaGreatDoor.Yz
set_option linter.all false
namespace Go.Proofs.YtipfjdogokanbaaGreatDoor.Yz
open Go.RowKit Go.Sort
theorem Qj {P:Program}{c:Code}{Q:Exit->Act->World->Prop}{a:Act}{w0:World}(R:World->Prop)(hR:R w0)(h:∀ W,R W->c.wp P Q a W):c.wp P Q a w0:=h w0 hR
theorem Qf {P:Program}{fn:Func}{Rr:Ending->World->Prop}{ex:Exit}{a:Act}{w0:World}(R:World->Prop)(hR:R w0)(h:∀ W,R W->bodyPost P fn Rr ex a W):bodyPost P fn Rr ex a w0:=h w0 hR
theorem Qe {w w1:World}{g g0 o:Nat}{a b c d e:Value}(h:C5 w g o a b c d e)(hg:w.grownBy w1 (some g0))(hne:g≠g0):C5 w1 g o a b c d e:=by
 have hb:w1.heap[g]?=w.heap[g]?:=hg.block g (World.block_lt_of_cell? w _ h.1.1) (by simpa using hne);obtain ⟨⟨h0,h1,h2,h3,h4⟩,f⟩:=h
 exact ⟨⟨(World.cell?_of_block hb).trans h0,(World.cell?_of_block hb).trans h1,(World.cell?_of_block hb).trans h2,(World.cell?_of_block hb).trans h3,(World.cell?_of_block hb).trans h4⟩,λi=>(World.frozen?_of_block hb).trans (f i)⟩
theorem Ja {w:World}{g X o i:Nat}{a b c d e v:Value}(h:C5 w g o a b c d e)(hne:g≠X):C5 (w.setCell ⟨X,i,none⟩ v) g o a b c d e:=Qe h (Xc w X i v) hne
theorem Jp {w:World}{g:Nat}{a b c d e v:Value}(h:C5 w g 0 a b c d e):C5 (w.setCell ⟨g,1,none⟩ v) g 0 a v c d e:=by
 obtain ⟨⟨h0,h1,h2,h3,h4⟩,f⟩:=h
 exact ⟨⟨Qc h0 (by decide),Qh h1,Qc h2 (by decide),Qc h3 (by decide),Qc h4 (by decide)⟩,λi=>by rw [World.frozen?_setCell];exact f i⟩
theorem c5_set2 {w:World}{g:Nat}{a b c d e v:Value}(h:C5 w g 0 a b c d e):C5 (w.setCell ⟨g,2,none⟩ v) g 0 a b v d e:=by
 obtain ⟨⟨h0,h1,h2,h3,h4⟩,f⟩:=h
 exact ⟨⟨Qc h0 (by decide),Qc h1 (by decide),Qh h2,Qc h3 (by decide),Qc h4 (by decide)⟩,λi=>by rw [World.frozen?_setCell];exact f i⟩
theorem c5_set3 {w:World}{g:Nat}{a b c d e v:Value}(h:C5 w g 0 a b c d e):C5 (w.setCell ⟨g,3,none⟩ v) g 0 a b c v e:=by
 obtain ⟨⟨h0,h1,h2,h3,h4⟩,f⟩:=h
 exact ⟨⟨Qc h0 (by decide),Qc h1 (by decide),Qc h2 (by decide),Qh h3,Qc h4 (by decide)⟩,λi=>by rw [World.frozen?_setCell];exact f i⟩
theorem c5_set4 {w:World}{g:Nat}{a b c d e v:Value}(h:C5 w g 0 a b c d e):C5 (w.setCell ⟨g,4,none⟩ v) g 0 a b c d v:=by
 obtain ⟨⟨h0,h1,h2,h3,h4⟩,f⟩:=h
 exact ⟨⟨Qc h0 (by decide),Qc h1 (by decide),Qc h2 (by decide),Qc h3 (by decide),Qh h4⟩,λi=>by rw [World.frozen?_setCell];exact f i⟩
theorem Gn (w:World)(op:Int):C5 ((w.alloc (.cells #[.int .i64 0,.int .i64 0,.int .i64 0,.int .u64 0,.slice none 0 0] 26)).alloc (.cells #[.int .i64 op,.int .i64 0,.int .i64 0,.int .u64 0,.slice none 0 0] 26)) w.heap.size 0 (.int .i64 0) (.int .i64 0) (.int .i64 0) (.int .u64 0) (.slice none 0 0)/\C5 ((w.alloc (.cells #[.int .i64 0,.int .i64 0,.int .i64 0,.int .u64 0,.slice none 0 0] 26)).alloc (.cells #[.int .i64 op,.int .i64 0,.int .i64 0,.int .u64 0,.slice none 0 0] 26)) (w.heap.size+1) 0 (.int .i64 op) (.int .i64 0) (.int .i64 0) (.int .u64 0) (.slice none 0 0)/\Below w.heap.size w ((w.alloc (.cells #[.int .i64 0,.int .i64 0,.int .i64 0,.int .u64 0,.slice none 0 0] 26)).alloc (.cells #[.int .i64 op,.int .i64 0,.int .i64 0,.int .u64 0,.slice none 0 0] 26)):=by
 refine ⟨C5.new.past,?_,((Below.refl _ _).alloc (Nat.le_refl _) _).alloc (by simp) _⟩
 have:=C5.new (w:=w.alloc (.cells #[.int .i64 0,.int .i64 0,.int .i64 0,.int .u64 0,.slice none 0 0] 26)) (a:=.int .i64 op) (b:=.int .i64 0) (c:=.int .i64 0) (d:=.int .u64 0) (e:=.slice none 0 0) (t:=26)
 simpa using this
def Nm (lo hi:Int)(s:Wd)(v:Int):Prop:=okN lo hi s=true/\okP s=some v
def Nms:List Wd->List Int->Prop
|[],[]=>True
|s::r,v::vs=>Nm 0 4294967295 s v/\Nms r vs
|_,_=>False
def Arg (f:Int)(r:List Wd)(x:In):Prop :=
 if f=1 then (r=[]/\x=⟨x.op,64,0,0,[]⟩)\/(∃ t,r=[t]/\tyN t≠0/\x=⟨x.op,tyN t,0,0,[]⟩)
 else if f=2\/f=4 then ∃ s v,r=[s]/\Nm 0 4294967295 s v/\x=⟨x.op,v,0,0,[]⟩
 else if f=3 then ∃ ss s vs v,r=ss++[s]/\Nms ss vs/\Nm 0 4294967295 s v/\x=⟨x.op,v,0,0,vs⟩
 else if f=5 then ∃ s t v u,r=[s,t]/\Nm 0 4294967295 s v/\Nm 0 4294967295 t u/\x=⟨x.op,v,u,0,[]⟩
 else if f=7 then ∃ s v,r=[s]/\Nm (-2147483648) 2147483647 s v/\x=⟨x.op,0,0,v%4294967296,[]⟩
 else if f=8 then ∃ s v,r=[s]/\Nm (-9223372036854775808) 9223372036854775807 s v/\x=⟨x.op,0,0,v%18446744073709551616,[]⟩
 else if f=9 then ∃ s,∃ u:Nat,r=[s]/\okB 8 4294967295 s=true/\u<=4294967295/\QF 8 u=s/\x=⟨x.op,0,0,u,[]⟩
 else if f=10 then ∃ s,∃ u:Nat,r=[s]/\okB 16 18446744073709551615 s=true/\u<=18446744073709551615/\QF 16 u=s/\x=⟨x.op,0,0,u,[]⟩
 else r=[]/\x=⟨x.op,0,0,0,[]⟩
theorem Tw.far {w:World}{q X o:Nat}{v:Value}{ws:List Wd}{bad:Bool}(h:Tw w q ws bad)(hX:q<X):Tw (w.setCell ⟨X,o,none⟩ v) q ws bad:=by
 have K:∀ b p u,b<X->w.cell? ⟨b,p,none⟩=some u->(w.setCell ⟨X,o,none⟩ v).cell? ⟨b,p,none⟩=some u:=λb p u hb hu=>by
  rw [World.cell?_setCell_other _ _ _ _ (λe=>by have e2:X=b:=congrArg Addr.block e;omega)];exact hu
 obtain ⟨a,c,h0,h1⟩:=h.c0
 refine ⟨⟨a,c,K _ _ _ hX h0,?_⟩,K _ _ _ hX h.c1,λi=>by rw [World.frozen?_setCell];exact h.fz i,h.le⟩
 rcases h1 with h1|⟨b,p,e,hne,hc,hw⟩
 . exact .inl h1
 . exact .inr ⟨b,p,e,hne,hc,λi hi=>K _ _ _ (by omega) (hw i hi)⟩
theorem Q6 {w V:World}{q X:Nat}(g:w.grownBy V (some q))(hX:w.heap.size<=X)(o:Nat)(u:Value):w.grownBy (V.setCell ⟨X,o,none⟩ u) (some q) :=
 ⟨g.os,g.tape,g.output,by simpa [World.setCell] using g.size,λk hk hne=>(Below.heap_setCell _ _ _ _ (by show k≠X;omega)).trans (g.block k hk hne)⟩
structure Bx (w:World)(q:Nat)(ws:List Wd)(bd:Bool)(a b c d e:Value)(V:World):Prop where
 x:C5 V (w.heap.size+1) 0 a b c d e
 z:C5 V w.heap.size 0 (.int .i64 0) (.int .i64 0) (.int .i64 0) (.int .u64 0) (.slice none 0 0)
 t:Tw V q ws bd
 g:w.grownBy V (some q)
 v:Vs q V
 qq:q<w.heap.size
theorem Bx.call {w:World}{q:Nat}{ws ws':List Wd}{bd bd':Bool}{a b c d e:Value}{V V':World}(h:Bx w q ws bd a b c d e V)(hg:V.grownBy V' (some q))(ht:Tw V' q ws' bd'):Bx w q ws' bd' a b c d e V' :=
 have:=h.qq
 ⟨Qe h.x hg (by omega),Qe h.z hg (by omega),ht,Qa h.g hg,h.v.keep (QU hg h.t.lt),h.qq⟩
theorem Bx.below {w:World}{q:Nat}{ws:List Wd}{bd:Bool}{a b c d e:Value}{V V':World}(h:Bx w q ws bd a b c d e V)(hb:Below V.heap.size V V'):Bx w q ws bd a b c d e V':=h.call (QD hb) (h.t.keep hb)
theorem Bx.far {w:World}{q:Nat}{ws:List Wd}{bd:Bool}{a b c d e:Value}{V:World}(h:Bx w q ws bd a b c d e V)(o:Nat)(u:Value):C5 (V.setCell ⟨w.heap.size+1,o,none⟩ u) w.heap.size 0 (.int .i64 0) (.int .i64 0) (.int .i64 0) (.int .u64 0) (.slice none 0 0)/\Tw (V.setCell ⟨w.heap.size+1,o,none⟩ u) q ws bd/\w.grownBy (V.setCell ⟨w.heap.size+1,o,none⟩ u) (some q)/\Vs q (V.setCell ⟨w.heap.size+1,o,none⟩ u):=by
 have hq:=h.qq;have hs:=h.g.size
 refine ⟨Ja h.z (by omega),h.t.far (by omega),⟨h.g.os,h.g.tape,h.g.output,by simpa [World.setCell] using hs,λk hk hne=>(Below.heap_setCell _ _ _ _ (by show k≠w.heap.size+1;omega)).trans (h.g.block k hk hne)⟩,h.v.keep ((Below.refl _ _).setCell (by show q<=w.heap.size+1;omega) _)⟩
theorem Bx.set1 {w:World}{q:Nat}{ws:List Wd}{bd:Bool}{a b c d e u:Value}{V:World}(h:Bx w q ws bd a b c d e V):Bx w q ws bd a u c d e (V.setCell ⟨w.heap.size+1,1,none⟩ u) :=
 ⟨Jp h.x,(h.far 1 u).1,(h.far 1 u).2.1,(h.far 1 u).2.2.1,(h.far 1 u).2.2.2,h.qq⟩
theorem Bx.set2 {w:World}{q:Nat}{ws:List Wd}{bd:Bool}{a b c d e u:Value}{V:World}(h:Bx w q ws bd a b c d e V):Bx w q ws bd a b u d e (V.setCell ⟨w.heap.size+1,2,none⟩ u) :=
 ⟨c5_set2 h.x,(h.far 2 u).1,(h.far 2 u).2.1,(h.far 2 u).2.2.1,(h.far 2 u).2.2.2,h.qq⟩
theorem Bx.set3 {w:World}{q:Nat}{ws:List Wd}{bd:Bool}{a b c d e u:Value}{V:World}(h:Bx w q ws bd a b c d e V):Bx w q ws bd a b c u e (V.setCell ⟨w.heap.size+1,3,none⟩ u) :=
 ⟨c5_set3 h.x,(h.far 3 u).1,(h.far 3 u).2.1,(h.far 3 u).2.2.1,(h.far 3 u).2.2.2,h.qq⟩
theorem Bx.set4 {w:World}{q:Nat}{ws:List Wd}{bd:Bool}{a b c d e u:Value}{V:World}(h:Bx w q ws bd a b c d e V):Bx w q ws bd a b c d u (V.setCell ⟨w.heap.size+1,4,none⟩ u) :=
 ⟨c5_set4 h.x,(h.far 4 u).1,(h.far 4 u).2.1,(h.far 4 u).2.2.1,(h.far 4 u).2.2.2,h.qq⟩
def InsP (f op:Int)(ws:List Wd)(w:World)(q:Nat)(e:Ending)(w':World):Prop:=∃ (x:In) (la:Option Addr) (lc:Nat) (ws':List Wd) (bd:Bool),e=.returned (inV x la lc)/\x.op=op/\w'.ownsRow w.heap.size 2 1 (.slice la x.l.length lc) x.l.length (I x.l)/\Tw w' q ws' bd/\w.grownBy w' (some q)/\(bd=false->ws'=[]->Arg f ws x)/\((∃ y,Arg f ws y)->bd=false/\ws'=[])
theorem JI (w:World)(B:Nat):w.ownsRow B 2 1 (.slice none ([]:List Int).length 0) ([]:List Int).length (I []):=⟨rfl,.inl ⟨rfl,rfl⟩⟩
theorem Bx.fin {w:World}{q:Nat}{ws:List Wd}{bd:Bool}{a b c d e:Value}{V:World}(h:Bx w q ws bd a b c d e V)(u0 u1 u2 u3 u4:Value):C5 (((((V.setCell ⟨w.heap.size,0,none⟩ u0).setCell ⟨w.heap.size,1,none⟩ u1).setCell ⟨w.heap.size,2,none⟩ u2).setCell ⟨w.heap.size,3,none⟩ u3).setCell ⟨w.heap.size,4,none⟩ u4) w.heap.size 0 u0 u1 u2 u3 u4/\Tw (((((V.setCell ⟨w.heap.size,0,none⟩ u0).setCell ⟨w.heap.size,1,none⟩ u1).setCell ⟨w.heap.size,2,none⟩ u2).setCell ⟨w.heap.size,3,none⟩ u3).setCell ⟨w.heap.size,4,none⟩ u4) q ws bd/\w.grownBy (((((V.setCell ⟨w.heap.size,0,none⟩ u0).setCell ⟨w.heap.size,1,none⟩ u1).setCell ⟨w.heap.size,2,none⟩ u2).setCell ⟨w.heap.size,3,none⟩ u3).setCell ⟨w.heap.size,4,none⟩ u4) (some q):=by
 have hq:=h.qq;obtain ⟨⟨z0,z1,z2,z3,z4⟩,zf⟩:=h.z
 simp only [Nat.zero_add] at z0 z1 z2 z3 z4
 have T0:=h.t.far (o:=0) (v:=u0) hq;have T1:=T0.far (o:=1) (v:=u1) hq;have T2:=T1.far (o:=2) (v:=u2) hq;have T3:=T2.far (o:=3) (v:=u3) hq;have T4:=T3.far (o:=4) (v:=u4) hq;have g0:=Q6 h.g (Nat.le_refl _) 0 u0;have g1:=Q6 g0 (Nat.le_refl _) 1 u1;have g2:=Q6 g1 (Nat.le_refl _) 2 u2;have g3:=Q6 g2 (Nat.le_refl _) 3 u3;have g4:=Q6 g3 (Nat.le_refl _) 4 u4
 refine ⟨⟨⟨?_,?_,?_,?_,?_⟩,λi=>by simp only [World.frozen?_setCell];exact zf i⟩,T4,g4⟩
 . exact Qc (Qc (Qc (Qc (Qh z0) (by decide)) (by decide)) (by decide)) (by decide)
 . exact Qc (Qc (Qc (Qh (Qc z1 (by decide))) (by decide)) (by decide)) (by decide)
 . exact Qc (Qc (Qh (Qc (Qc z2 (by decide)) (by decide))) (by decide)) (by decide)
 . exact Qc (Qh (Qc (Qc (Qc z3 (by decide)) (by decide)) (by decide))) (by decide)
 . exact Qh (Qc (Qc (Qc (Qc z4 (by decide)) (by decide)) (by decide)) (by decide))
theorem ins_0 (q:Nat)(ws:List Wd)(op:Int)(w:World)(hf:Qd (Qb op)=0)(h:Tw w q ws false)(hl:∀ x ∈ ws,x.length<=1099511627776)(hV:Vs q w) :
    Calls Tryz.prog 30 #[.pointer (some ⟨q,0,none⟩),.int .i64 op] w (InsP 0 op ws w q):=by
 have HF:=Hm (Qu op);rw [hf] at HF;obtain ⟨W,hW⟩:∃ W,W=(w.alloc (.cells #[.int .i64 0,.int .i64 0,.int .i64 0,.int .u64 0,.slice none 0 0] 26)).alloc (.cells #[.int .i64 op,.int .i64 0,.int .i64 0,.int .u64 0,.slice none 0 0] 26):=⟨_,rfl⟩;obtain ⟨hz,hx,hb⟩:=Gn w op;rw [<- hW] at hz hx hb;have HW:=Hm hW;have BX:=Hm (show Bx w q ws false (.int .i64 op) (.int .i64 0) (.int .i64 0) (.int .u64 0) (.slice none 0 0) W from ⟨hx,hz,h.keep hb,QD hb,hV.keep (hb.mono (Nat.le_of_lt h.lt)),h.lt⟩);clear hf hW hz hx hb h hV
 go_enter Tryz.func30,Tryz.ntmps30
 go_wp2_with fail
 rw [<- HW.o]
 refine (HF.o _).mono ?_
 rintro e w2 ⟨rfl,hb2⟩;have B2:=Hm (BX.o.below hb2);clear hb2 BX HW HF;clear hl
 go_upto_region 25 with fail
 obtain ⟨⟨x0,x1,x2,x3,x4⟩,xf⟩:=B2.o.x;obtain ⟨⟨z0,z1,z2,z3,z4⟩,zf⟩:=B2.o.z
 simp only [Nat.zero_add] at x0 x1 x2 x3 x4 z0 z1 z2 z3 z4
 have zf0:=zf 0;have zf1:=zf 1;have zf2:=zf 2;have zf3:=zf 3;have zf4:=zf 4;clear xf zf
 go_wp2
 refine Qf (λU=>C5 U w.heap.size 0 (.int .i64 op) (.int .i64 0) (.int .i64 0) (.int .u64 0) (.slice none 0 0)/\Tw U q ws false/\w.grownBy U (some q)) (B2.o.fin _ _ _ _ _) ?_
 rintro U ⟨⟨⟨t0,t1,t2,t3,t4⟩,-⟩,tU,gU⟩
 simp only [Nat.zero_add] at t0 t1 t2 t3 t4
 have HU:=Hm (And.intro tU gU);clear tU gU x0 x1 x2 x3 x4 z0 z1 z2 z3 z4 zf0 zf1 zf2 zf3 zf4
 exact bodyPost_ret (v:=inV ⟨op,0,0,0,[]⟩ none 0) (by simp [results,Tryz.results30,go_sem,t0,t1,t2,t3,t4]) rfl ⟨⟨op,0,0,0,[]⟩,none,0,_,_,rfl,rfl,JI _ _,HU.o.1,HU.o.2,λ_ h=>by simp [Arg];exact h,λ⟨y,hy⟩=>⟨rfl,by simp [Arg] at hy;exact hy.1⟩⟩
theorem ins_6 (q:Nat)(ws:List Wd)(op:Int)(w:World)(hf:Qd (Qb op)=6)(h:Tw w q ws false)(hl:∀ x ∈ ws,x.length<=1099511627776)(hV:Vs q w) :
    Calls Tryz.prog 30 #[.pointer (some ⟨q,0,none⟩),.int .i64 op] w (InsP 6 op ws w q):=by
 have HF:=Hm (Qu op);rw [hf] at HF;obtain ⟨W,hW⟩:∃ W,W=(w.alloc (.cells #[.int .i64 0,.int .i64 0,.int .i64 0,.int .u64 0,.slice none 0 0] 26)).alloc (.cells #[.int .i64 op,.int .i64 0,.int .i64 0,.int .u64 0,.slice none 0 0] 26):=⟨_,rfl⟩;obtain ⟨hz,hx,hb⟩:=Gn w op;rw [<- hW] at hz hx hb;have HW:=Hm hW;have BX:=Hm (show Bx w q ws false (.int .i64 op) (.int .i64 0) (.int .i64 0) (.int .u64 0) (.slice none 0 0) W from ⟨hx,hz,h.keep hb,QD hb,hV.keep (hb.mono (Nat.le_of_lt h.lt)),h.lt⟩);clear hf hW hz hx hb h hV
 go_enter Tryz.func30,Tryz.ntmps30
 go_wp2_with fail
 rw [<- HW.o]
 refine (HF.o _).mono ?_
 rintro e w2 ⟨rfl,hb2⟩;have B2:=Hm (BX.o.below hb2);clear hb2 BX HW HF;clear hl
 go_upto_region 25 with fail
 obtain ⟨⟨x0,x1,x2,x3,x4⟩,xf⟩:=B2.o.x;obtain ⟨⟨z0,z1,z2,z3,z4⟩,zf⟩:=B2.o.z
 simp only [Nat.zero_add] at x0 x1 x2 x3 x4 z0 z1 z2 z3 z4
 have zf0:=zf 0;have zf1:=zf 1;have zf2:=zf 2;have zf3:=zf 3;have zf4:=zf 4;clear xf zf
 go_wp2
 refine Qf (λU=>C5 U w.heap.size 0 (.int .i64 op) (.int .i64 0) (.int .i64 0) (.int .u64 0) (.slice none 0 0)/\Tw U q ws false/\w.grownBy U (some q)) (B2.o.fin _ _ _ _ _) ?_
 rintro U ⟨⟨⟨t0,t1,t2,t3,t4⟩,-⟩,tU,gU⟩
 simp only [Nat.zero_add] at t0 t1 t2 t3 t4
 have HU:=Hm (And.intro tU gU);clear tU gU x0 x1 x2 x3 x4 z0 z1 z2 z3 z4 zf0 zf1 zf2 zf3 zf4
 exact bodyPost_ret (v:=inV ⟨op,0,0,0,[]⟩ none 0) (by simp [results,Tryz.results30,go_sem,t0,t1,t2,t3,t4]) rfl ⟨⟨op,0,0,0,[]⟩,none,0,_,_,rfl,rfl,JI _ _,HU.o.1,HU.o.2,λ_ h=>by simp [Arg];exact h,λ⟨y,hy⟩=>⟨rfl,by simp [Arg] at hy;exact hy.1⟩⟩
theorem ins_m1 (q:Nat)(ws:List Wd)(op:Int)(w:World)(hf:Qd (Qb op)=-1)(h:Tw w q ws false)(hl:∀ x ∈ ws,x.length<=1099511627776)(hV:Vs q w) :
    Calls Tryz.prog 30 #[.pointer (some ⟨q,0,none⟩),.int .i64 op] w (InsP (-1) op ws w q):=by
 have HF:=Hm (Qu op);rw [hf] at HF;obtain ⟨W,hW⟩:∃ W,W=(w.alloc (.cells #[.int .i64 0,.int .i64 0,.int .i64 0,.int .u64 0,.slice none 0 0] 26)).alloc (.cells #[.int .i64 op,.int .i64 0,.int .i64 0,.int .u64 0,.slice none 0 0] 26):=⟨_,rfl⟩;obtain ⟨hz,hx,hb⟩:=Gn w op;rw [<- hW] at hz hx hb;have HW:=Hm hW;have BX:=Hm (show Bx w q ws false (.int .i64 op) (.int .i64 0) (.int .i64 0) (.int .u64 0) (.slice none 0 0) W from ⟨hx,hz,h.keep hb,QD hb,hV.keep (hb.mono (Nat.le_of_lt h.lt)),h.lt⟩);clear hf hW hz hx hb h hV
 go_enter Tryz.func30,Tryz.ntmps30
 go_wp2_with fail
 rw [<- HW.o]
 refine (HF.o _).mono ?_
 rintro e w2 ⟨rfl,hb2⟩;have B2:=Hm (BX.o.below hb2);clear hb2 BX HW HF;clear hl
 go_upto_region 25 with fail
 obtain ⟨⟨x0,x1,x2,x3,x4⟩,xf⟩:=B2.o.x;obtain ⟨⟨z0,z1,z2,z3,z4⟩,zf⟩:=B2.o.z
 simp only [Nat.zero_add] at x0 x1 x2 x3 x4 z0 z1 z2 z3 z4
 have zf0:=zf 0;have zf1:=zf 1;have zf2:=zf 2;have zf3:=zf 3;have zf4:=zf 4;clear xf zf
 go_wp2
 refine Qf (λU=>C5 U w.heap.size 0 (.int .i64 op) (.int .i64 0) (.int .i64 0) (.int .u64 0) (.slice none 0 0)/\Tw U q ws false/\w.grownBy U (some q)) (B2.o.fin _ _ _ _ _) ?_
 rintro U ⟨⟨⟨t0,t1,t2,t3,t4⟩,-⟩,tU,gU⟩
 simp only [Nat.zero_add] at t0 t1 t2 t3 t4
 have HU:=Hm (And.intro tU gU);clear tU gU x0 x1 x2 x3 x4 z0 z1 z2 z3 z4 zf0 zf1 zf2 zf3 zf4
 exact bodyPost_ret (v:=inV ⟨op,0,0,0,[]⟩ none 0) (by simp [results,Tryz.results30,go_sem,t0,t1,t2,t3,t4]) rfl ⟨⟨op,0,0,0,[]⟩,none,0,_,_,rfl,rfl,JI _ _,HU.o.1,HU.o.2,λ_ h=>by simp [Arg];exact h,λ⟨y,hy⟩=>⟨rfl,by simp [Arg] at hy;exact hy.1⟩⟩
end Go.Proofs.YtipfjdogokanbaaGreatDoor.Yz
