import Derived.Test.YtipfjdogokanbaaGreatDoorGaa
import Derived.Test.YtipfjdogokanbaaGreatDoorGba
import Derived.Deep.Cut
import Derived.Deep.RegionHeld3
set_option linter.all false
set_option maxHeartbeats 400000000
set_option maxRecDepth 100000
set_option linter.all false
namespace Go.Proofs.YtipfjdogokanbaaGreatDoor.Ed.By
open Go.RowKit
set_option maxRecDepth 100000 in
theorem lebGetU_row (b1 o1:Nat)(cap:Nat)(bs:List Int)(P:Nat)(b:Int)(w:World)(hl:bs.length<=1099511627776)(hr:P<=bs.length)(B:Int)(HB:Hid (B=Xq b))(hB0':1<=B)(hB1':B<=64)(R:Int × Int × Int)
    (HC1:Hid (∀ i,i<bs.length->w.cell? ⟨b1,o1+i,none⟩=some (.int .u8 (bs.getD i 0)))) (hB:Qt bs) (HG0:Hid (QR false bs P B (9+1) 0 0=R)) :
    Calls Tryz.prog 156 #[.slice (some ⟨b1,o1,none⟩) bs.length cap,.int .i64 P,.int .i64 b] w λe w'=>e=.returned (RV R)/\Below w.heap.size w w':=by
 go_enter Tryz.func156,Tryz.ntmps156
 go_upto_region 2 with fail
 go_cut [20] from 13 (λv2 wc=>v2=.bool (!inB b 1 64)/\wc=w.alloc (Obj.cells #[Value.int .i64 0,Value.int .u64 0,Value.int .i64 0] 175))
 case first =>
  by_cases h1:b<1
  . go_wp2
    go_meet
    case rel=>exact ⟨by rw [show inB b 1 64=false by unfold inB;simp;omega];rfl,rfl⟩
  . by_cases h2:64<b
    . go_wp2
      go_meet
      case rel=>exact ⟨by rw [show inB b 1 64=false by unfold inB;simp;omega];simp,rfl⟩
    . go_wp2
      go_meet
      case rel=>exact ⟨by rw [show inB b 1 64=true by unfold inB;simp;omega];simp,rfl⟩
 case rest =>
 obtain ⟨rfl,rfl⟩:=hcut
 go_upto_if 20 with fail
 go_cut [2] from 13 (λv2 wc=>v2=.int .i64 B/\wc=w.alloc (Obj.cells #[Value.int .i64 0,Value.int .u64 0,Value.int .i64 0] 175))
 case first =>
  go_wp2
  . have hx:(!inB b 1 64)=true:=by assumption
    have e:B=64:=by rw [HB.o];unfold Xq;rw [if_neg (in_false hx)]
    go_meet
    case rel=>exact ⟨by rw [e],rfl⟩
  . rename_i hx
    have e:B=b:=by rw [HB.o];unfold Xq;rw [if_pos (in_true (by simpa using hx))]
    go_meet
    case rel=>exact ⟨by rw [e],rfl⟩
 case rest =>
 obtain ⟨rfl,rfl⟩:=hcut;have hq1:decide ((P:Int)<0)=false:=decide_eq_false (by omega);have hq2:decide (bs.length<P)=false:=decide_eq_false (by omega)
 go_wp2
 go_loop [8,9] (λxv kv=>∃ (k f:Nat) (acc:Int),xv=.int .u64 acc/\kv=.int .i64 k/\k+f=9/\P+k<=bs.length/\7*(k:Int)<B/\0<=acc/\acc<=9223372036854775807/\Hid (acc<P2 (7*(k:Int)))/\Hid (QR false bs P B (f+1) k acc=R)) (λ_ kv=>10-(intOf kv).toNat)
 case atStart=>exact ⟨0,9,0,rfl,rfl,rfl,by omega,by omega,by omega,by omega,(by show (0:Int)<P2 _;have:=Q7 (7*((0:Nat):Int));omega),HG0⟩
 case round =>
  clear HG0;obtain ⟨k,f,acc,rfl,rfl,hkf,hpk,hkB,ha0,ha1,HA,HG⟩:=hrel
  by_cases hlt:P+k<bs.length
  . have d0:=HC1.o (P+k) hlt;have d1:(w.alloc (Obj.cells #[Value.int .i64 0,Value.int .u64 0,Value.int .i64 0] 175)).cell? ⟨b1,o1+(P+k),none⟩=some (.int .u8 (bs.getD (P+k) 0)):=(Below.cell ((Below.refl _ _).alloc (Nat.le_refl _) _) (World.block_lt_of_cell? w _ d0)).trans d0;clear d0;obtain ⟨c,hcc⟩:∃ c,c=bs.getD (P+k) 0:=⟨_,rfl⟩;have hb:=hB (P+k);have G1:=@JV false bs P f k B acc hlt;have G2:=@JW false bs P f k B acc hlt;have G3:=@Xj false bs P f k B acc hlt;have G4:=@JU false bs P f k B acc hlt;rw [<- hcc] at d1 hb G1 G2 G3 G4;rw [HG.o] at G1 G2 G3 G4;have GL:=Hm G1;have GB:=Hm G2;have GE:=Hm G3;have GM:=Hm G4;clear G1 G2 G3 G4 hcc;obtain ⟨hb0,hb1⟩:=hb;have hne:((P:Int)+k==(bs.length:Int))=false:=beq_eq_false_iff_ne.2 (by omega);have hN:bits .andNot .u8 c 128=c%128:=by have:=andNot128 c;rwa [show c%256=c by omega] at this
    by_cases hlast:B-7*(k:Int)<=7
    . by_cases hbig:128<=c
      . have e:=GL.o hlast hbig;subst e;have hE:JT false c (B-7*(k:Int))=2:=by unfold JT;rw [if_neg (by omega),if_pos hbig]
        go_wp2_with (first|(go_at_call 188;refine (X9 _ _ _ hb0 hb1 (by omega) (by omega)).mono ?_;rintro e w' ⟨rfl,rfl⟩)|(go_at_call 181;refine (J2 _ _ _ (by omega) (by omega) (by omega) (by omega)).mono ?_;rintro e w' ⟨rfl,rfl⟩))
        exact bodyPost_ret (v:=.agg #[.int .i64 2,.int .u64 0,.int .i64 ((P:Int)+k+1)]) (by simp [results,Tryz.results156,go_sem]) rfl ⟨rfl,(Below.refl _ _).alloc (Nat.le_refl _) _⟩
      . cases hq:rok false c (B-7*(k:Int))
        . have e:=GB.o hlast (by omega) hq;subst e;have hE:JT false c (B-7*(k:Int))=3:=by unfold JT;rw [if_neg (by omega),if_neg hbig,hq];rfl
          clear hq
          go_wp2_with (first|(go_at_call 188;refine (X9 _ _ _ hb0 hb1 (by omega) (by omega)).mono ?_;rintro e w' ⟨rfl,rfl⟩)|(go_at_call 181;refine (J2 _ _ _ (by omega) (by omega) (by omega) (by omega)).mono ?_;rintro e w' ⟨rfl,rfl⟩))
          exact bodyPost_ret (v:=.agg #[.int .i64 3,.int .u64 0,.int .i64 ((P:Int)+k+1)]) (by simp [results,Tryz.results156,go_sem]) rfl ⟨rfl,(Below.refl _ _).alloc (Nat.le_refl _) _⟩
        . have hE:JT false c (B-7*(k:Int))=0:=by unfold JT;rw [if_neg (by omega),if_neg hbig,hq];rfl
          have e:=GE.o (by omega) (λ_=>hq);have hF:=finU acc c k (by omega) ha0 HA.o hb0 (by omega) (λh9=>rok1U c hb0 (by omega) (by rwa [show B-7*(k:Int)=1 by omega] at hq));rw [<- hF.2.2.2] at e;have hJ:=join_u64 acc (c%128) k ha0 HA.o (by omega) (by omega) hF.1;obtain ⟨x,hx⟩:∃ x,x=acc+c%128*P2 (7*(k:Int)):=⟨_,rfl⟩;rw [<- hx] at hF hJ e;subst e;have hx0:=hF.2.1;have hx1:=hF.2.2.1;clear hF hx GL GB GE GM HG
          go_wp2_with (first|(go_at_call 188;refine (X9 _ _ _ hb0 hb1 (by omega) (by omega)).mono ?_;rintro e w' ⟨rfl,rfl⟩)|(go_at_call 181;refine (J2 _ _ _ (by omega) (by omega) (by omega) (by omega)).mono ?_;rintro e w' ⟨rfl,rfl⟩))
          exact bodyPost_ret (v:=.agg #[.int .i64 0,.int .u64 (XP x (7*((k:Int)+1))),.int .i64 ((P:Int)+k+1)]) (by simp [results,Tryz.results156,go_sem]) rfl ⟨rfl,(Below.refl _ _).alloc (Nat.le_refl _) _⟩
    . have hE:JT false c (B-7*(k:Int))=0:=by unfold JT;rw [if_pos (by omega)]
      by_cases hbig:128<=c
      . have HM:=Hm (GM.o (by omega) hbig);have hs:=Jy acc c k ha0 HA.o;have hp63:=Gl (n:=7*((k+1:Nat):Int)) (by omega);have hJ:=join_u64 acc (c%128) k ha0 HA.o (by omega) (by omega) (by omega);clear GL GB GE GM HG;obtain ⟨acc',hacc⟩:∃ y,y=acc+c%128*P2 (7*(k:Int)):=⟨_,rfl⟩;rw [<- hacc] at hs hJ HM;have hs0:=hs.1;have HS:=Hm hs.2;have hs1:acc'<=9223372036854775807:=by omega
        clear hs hacc
        go_wp2_with (first|(go_at_call 188;refine (X9 _ _ _ hb0 hb1 (by omega) (by omega)).mono ?_;rintro e w' ⟨rfl,rfl⟩)|(go_at_call 181;refine (J2 _ _ _ (by omega) (by omega) (by omega) (by omega)).mono ?_;rintro e w' ⟨rfl,rfl⟩))
        go_round
        case rel =>
         cases f with
        |zero=>omega
        |succ f=>exact ⟨k+1,f,acc',rfl,by go_num,by omega,by omega,by omega,hs0,hs1,HS,HM.o.symm⟩
        case measure=>simp [intOf];omega
      . have e:=GE.o (by omega) (λh=>absurd h hlast);have hF:=finU acc c k (by omega) ha0 HA.o hb0 (by omega) (λh9=>by omega);rw [<- hF.2.2.2] at e;have hJ:=join_u64 acc (c%128) k ha0 HA.o (by omega) (by omega) hF.1;obtain ⟨x,hx⟩:∃ x,x=acc+c%128*P2 (7*(k:Int)):=⟨_,rfl⟩;rw [<- hx] at hF hJ e;subst e;have hx0:=hF.2.1;have hx1:=hF.2.2.1;clear hF hx GL GB GE GM HG
        go_wp2_with (first|(go_at_call 188;refine (X9 _ _ _ hb0 hb1 (by omega) (by omega)).mono ?_;rintro e w' ⟨rfl,rfl⟩)|(go_at_call 181;refine (J2 _ _ _ (by omega) (by omega) (by omega) (by omega)).mono ?_;rintro e w' ⟨rfl,rfl⟩))
        exact bodyPost_ret (v:=.agg #[.int .i64 0,.int .u64 (XP x (7*((k:Int)+1))),.int .i64 ((P:Int)+k+1)]) (by simp [results,Tryz.results156,go_sem]) rfl ⟨rfl,(Below.refl _ _).alloc (Nat.le_refl _) _⟩
  . have e:R=(1,0,(bs.length:Int)):=by rw [<- HG.o,XN (by omega)]
    subst e;have hne:((P:Int)+k==(bs.length:Int))=true:=beq_iff_eq.2 (by omega)
    go_wp2
    exact bodyPost_ret (v:=.agg #[.int .i64 1,.int .u64 0,.int .i64 bs.length]) (by simp [results,Tryz.results156,go_sem]) rfl ⟨rfl,(Below.refl _ _).alloc (Nat.le_refl _) _⟩
end Go.Proofs.YtipfjdogokanbaaGreatDoor.Ed.By
namespace Go.Proofs.YtipfjdogokanbaaGreatDoor.Ed.By
open Go.RowKit
set_option maxRecDepth 100000 in
theorem lebGetS_row (b1 o1:Nat)(cap:Nat)(bs:List Int)(P:Nat)(b:Int)(w:World)(hl:bs.length<=1099511627776)(hr:P<=bs.length)(B:Int)(HB:Hid (B=Xq b))(hB0':1<=B)(hB1':B<=64)(R:Int × Int × Int)
    (HC1:Hid (∀ i,i<bs.length->w.cell? ⟨b1,o1+i,none⟩=some (.int .u8 (bs.getD i 0)))) (hB:Qt bs) (HG0:Hid (QR true bs P B (9+1) 0 0=R)) :
    Calls Tryz.prog 118 #[.slice (some ⟨b1,o1,none⟩) bs.length cap,.int .i64 P,.int .i64 b] w λe w'=>e=.returned (RV R)/\Below w.heap.size w w':=by
 go_enter Tryz.func118,Tryz.ntmps118
 go_upto_region 2 with fail
 go_cut [20] from 13 (λv2 wc=>v2=.bool (!inB b 1 64)/\wc=w.alloc (Obj.cells #[Value.int .i64 0,Value.int .u64 0,Value.int .i64 0] 175))
 case first =>
  by_cases h1:b<1
  . go_wp2
    go_meet
    case rel=>exact ⟨by rw [show inB b 1 64=false by unfold inB;simp;omega];rfl,rfl⟩
  . by_cases h2:64<b
    . go_wp2
      go_meet
      case rel=>exact ⟨by rw [show inB b 1 64=false by unfold inB;simp;omega];simp,rfl⟩
    . go_wp2
      go_meet
      case rel=>exact ⟨by rw [show inB b 1 64=true by unfold inB;simp;omega];simp,rfl⟩
 case rest =>
 obtain ⟨rfl,rfl⟩:=hcut
 go_upto_if 20 with fail
 go_cut [2] from 13 (λv2 wc=>v2=.int .i64 B/\wc=w.alloc (Obj.cells #[Value.int .i64 0,Value.int .u64 0,Value.int .i64 0] 175))
 case first =>
  go_wp2
  . have hx:(!inB b 1 64)=true:=by assumption
    have e:B=64:=by rw [HB.o];unfold Xq;rw [if_neg (in_false hx)]
    go_meet
    case rel=>exact ⟨by rw [e],rfl⟩
  . rename_i hx
    have e:B=b:=by rw [HB.o];unfold Xq;rw [if_pos (in_true (by simpa using hx))]
    go_meet
    case rel=>exact ⟨by rw [e],rfl⟩
 case rest =>
 obtain ⟨rfl,rfl⟩:=hcut;have hq1:decide ((P:Int)<0)=false:=decide_eq_false (by omega);have hq2:decide (bs.length<P)=false:=decide_eq_false (by omega)
 go_wp2
 go_loop [8,9] (λxv kv=>∃ (k f:Nat) (acc:Int),xv=.int .i64 acc/\kv=.int .i64 k/\k+f=9/\P+k<=bs.length/\7*(k:Int)<B/\0<=acc/\acc<=9223372036854775807/\Hid (acc<P2 (7*(k:Int)))/\Hid (QR true bs P B (f+1) k acc=R)) (λ_ kv=>10-(intOf kv).toNat)
 case atStart=>exact ⟨0,9,0,rfl,rfl,rfl,by omega,by omega,by omega,by omega,(by show (0:Int)<P2 _;have:=Q7 (7*((0:Nat):Int));omega),HG0⟩
 case round =>
  clear HG0;obtain ⟨k,f,acc,rfl,rfl,hkf,hpk,hkB,ha0,ha1,HA,HG⟩:=hrel
  by_cases hlt:P+k<bs.length
  . have d0:=HC1.o (P+k) hlt;have d1:(w.alloc (Obj.cells #[Value.int .i64 0,Value.int .u64 0,Value.int .i64 0] 175)).cell? ⟨b1,o1+(P+k),none⟩=some (.int .u8 (bs.getD (P+k) 0)):=(Below.cell ((Below.refl _ _).alloc (Nat.le_refl _) _) (World.block_lt_of_cell? w _ d0)).trans d0;clear d0;obtain ⟨c,hcc⟩:∃ c,c=bs.getD (P+k) 0:=⟨_,rfl⟩;have hb:=hB (P+k);have G1:=@JV true bs P f k B acc hlt;have G2:=@JW true bs P f k B acc hlt;have G3:=@Xj true bs P f k B acc hlt;have G4:=@JU true bs P f k B acc hlt;rw [<- hcc] at d1 hb G1 G2 G3 G4;rw [HG.o] at G1 G2 G3 G4;have GL:=Hm G1;have GB:=Hm G2;have GE:=Hm G3;have GM:=Hm G4;clear G1 G2 G3 G4 hcc;obtain ⟨hb0,hb1⟩:=hb;have hne:((P:Int)+k==(bs.length:Int))=false:=beq_eq_false_iff_ne.2 (by omega);have hN:bits .andNot .u8 c 128=c%128:=by have:=andNot128 c;rwa [show c%256=c by omega] at this
    by_cases hlast:B-7*(k:Int)<=7
    . by_cases hbig:128<=c
      . have e:=GL.o hlast hbig;subst e;have hE:JT true c (B-7*(k:Int))=2:=by unfold JT;rw [if_neg (by omega),if_pos hbig]
        go_wp2_with (first|(go_at_call 157;refine (Ga _ _ _ hb0 hb1 (by omega) (by omega)).mono ?_;rintro e w' ⟨rfl,rfl⟩)|(go_at_call 158;refine (J3 _ _ _ (by omega) (by omega) (by omega) (by omega)).mono ?_;rintro e w' ⟨rfl,rfl⟩))
        exact bodyPost_ret (v:=.agg #[.int .i64 2,.int .u64 0,.int .i64 ((P:Int)+k+1)]) (by simp [results,Tryz.results118,go_sem]) rfl ⟨rfl,(Below.refl _ _).alloc (Nat.le_refl _) _⟩
      . cases hq:rok true c (B-7*(k:Int))
        . have e:=GB.o hlast (by omega) hq;subst e;have hE:JT true c (B-7*(k:Int))=3:=by unfold JT;rw [if_neg (by omega),if_neg hbig,hq];rfl
          clear hq
          go_wp2_with (first|(go_at_call 157;refine (Ga _ _ _ hb0 hb1 (by omega) (by omega)).mono ?_;rintro e w' ⟨rfl,rfl⟩)|(go_at_call 158;refine (J3 _ _ _ (by omega) (by omega) (by omega) (by omega)).mono ?_;rintro e w' ⟨rfl,rfl⟩))
          exact bodyPost_ret (v:=.agg #[.int .i64 3,.int .u64 0,.int .i64 ((P:Int)+k+1)]) (by simp [results,Tryz.results118,go_sem]) rfl ⟨rfl,(Below.refl _ _).alloc (Nat.le_refl _) _⟩
        . have hE:JT true c (B-7*(k:Int))=0:=by unfold JT;rw [if_neg (by omega),if_neg hbig,hq];rfl
          have e:=GE.o (by omega) (λ_=>hq);obtain ⟨x,hJ,hx0,hx1,hF⟩:=finS acc c k (by omega) ha0 HA.o hb0 (by omega) (λh9=>rok1S c hb0 (by omega) (by rwa [show B-7*(k:Int)=1 by omega] at hq));rw [<- hF] at e;subst e;clear hF GL GB GE GM HG
          go_wp2_with (first|(go_at_call 157;refine (Ga _ _ _ hb0 hb1 (by omega) (by omega)).mono ?_;rintro e w' ⟨rfl,rfl⟩)|(go_at_call 158;refine (J3 _ _ _ (by omega) (by omega) (by omega) (by omega)).mono ?_;rintro e w' ⟨rfl,rfl⟩))
          exact bodyPost_ret (v:=.agg #[.int .i64 0,.int .u64 (IntKind.u64.wrap (Xv x (7*((k:Int)+1)))),.int .i64 ((P:Int)+k+1)]) (by simp [results,Tryz.results118,go_sem]) rfl ⟨rfl,(Below.refl _ _).alloc (Nat.le_refl _) _⟩
    . have hE:JT true c (B-7*(k:Int))=0:=by unfold JT;rw [if_pos (by omega)]
      by_cases hbig:128<=c
      . have HM:=Hm (GM.o (by omega) hbig);have hs:=Jy acc c k ha0 HA.o;have hp63:=Gl (n:=7*((k+1:Nat):Int)) (by omega);have hJ:=join_i64 acc (c%128) k ha0 HA.o (by omega) (by omega) (by omega);clear GL GB GE GM HG;obtain ⟨acc',hacc⟩:∃ y,y=acc+c%128*P2 (7*(k:Int)):=⟨_,rfl⟩;rw [<- hacc] at hs hJ HM;have hs0:=hs.1;have HS:=Hm hs.2;have hs1:acc'<=9223372036854775807:=by omega
        clear hs hacc
        go_wp2_with (first|(go_at_call 157;refine (Ga _ _ _ hb0 hb1 (by omega) (by omega)).mono ?_;rintro e w' ⟨rfl,rfl⟩)|(go_at_call 158;refine (J3 _ _ _ (by omega) (by omega) (by omega) (by omega)).mono ?_;rintro e w' ⟨rfl,rfl⟩))
        go_round
        case rel =>
         cases f with
        |zero=>omega
        |succ f=>exact ⟨k+1,f,acc',rfl,by go_num,by omega,by omega,by omega,hs0,hs1,HS,HM.o.symm⟩
        case measure=>simp [intOf];omega
      . have e:=GE.o (by omega) (λh=>absurd h hlast);obtain ⟨x,hJ,hx0,hx1,hF⟩:=finS acc c k (by omega) ha0 HA.o hb0 (by omega) (λh9=>by omega);rw [<- hF] at e;subst e;clear hF GL GB GE GM HG
        go_wp2_with (first|(go_at_call 157;refine (Ga _ _ _ hb0 hb1 (by omega) (by omega)).mono ?_;rintro e w' ⟨rfl,rfl⟩)|(go_at_call 158;refine (J3 _ _ _ (by omega) (by omega) (by omega) (by omega)).mono ?_;rintro e w' ⟨rfl,rfl⟩))
        exact bodyPost_ret (v:=.agg #[.int .i64 0,.int .u64 (IntKind.u64.wrap (Xv x (7*((k:Int)+1)))),.int .i64 ((P:Int)+k+1)]) (by simp [results,Tryz.results118,go_sem]) rfl ⟨rfl,(Below.refl _ _).alloc (Nat.le_refl _) _⟩
  . have e:R=(1,0,(bs.length:Int)):=by rw [<- HG.o,XN (by omega)]
    subst e;have hne:((P:Int)+k==(bs.length:Int))=true:=beq_iff_eq.2 (by omega)
    go_wp2
    exact bodyPost_ret (v:=.agg #[.int .i64 1,.int .u64 0,.int .i64 bs.length]) (by simp [results,Tryz.results118,go_sem]) rfl ⟨rfl,(Below.refl _ _).alloc (Nat.le_refl _) _⟩
end Go.Proofs.YtipfjdogokanbaaGreatDoor.Ed.By
namespace Go.Proofs.YtipfjdogokanbaaGreatDoor.Ed.By
open Go.RowKit
theorem lebGetU_any (a:Option Addr)(cap:Nat)(bs:List Int)(p b:Int)(w:World)(hl:bs.length<=1099511627776)(ha:Has w a bs)(hB:Qt bs) :
    Calls Tryz.prog 156 #[.slice a bs.length cap,.int .i64 p,.int .i64 b] w λe w'=>e=.returned (RV (getA false bs p b))/\Below w.heap.size w w':=by
 by_cases hp:0<=p/\p<=bs.length
 . obtain ⟨P,rfl⟩:=Int.eq_ofNat_of_zero_le hp.1;have eA:getA false bs (P:Int) b=QR false bs P (Xq b) 10 0 0:=by unfold getA;rw [if_pos hp,Int.toNat_natCast]
   rw [eA]
   rcases ha with hx|⟨b1,o1,rfl,hc1⟩
   . subst hx;have hP:P=0:=by have:=hp.2;simp at this;omega
     subst hP
     show Calls Tryz.prog 156 #[.slice a 0 cap,.int .i64 0,.int .i64 b] w λe w'=>e=.returned (RV (1,0,0))/\Below w.heap.size w w'
     clear hl hB hp eA
     go_enter Tryz.func156,Tryz.ntmps156
     go_wp2
     all_goals
      refine wp_loop_rounds 1 ?_
      rw [rounds_succ]
      go_wp2
      exact bodyPost_ret (v:=.agg #[.int .i64 1,.int .u64 0,.int .i64 0]) (by simp [results,Tryz.results156,go_sem]) rfl ⟨rfl,(Below.refl _ _).alloc (Nat.le_refl _) _⟩
   . exact lebGetU_row b1 o1 cap bs P b w hl (by omega) (Xq b) rfl (normB_bd b).1 (normB_bd b).2 _ hc1 hB rfl
 . have eA:getA false bs p b=(1,0,(bs.length:Int)):=by unfold getA;rw [if_neg hp]
   rw [eA];clear eA ha hB
   rcases (show p<0\/(0<=p/\(bs.length:Int)<p) by omega) with h|⟨h,h'⟩
   all_goals
    go_enter Tryz.func156,Tryz.ntmps156
    go_wp2
    all_goals
     exact bodyPost_ret (v:=.agg #[.int .i64 1,.int .u64 0,.int .i64 bs.length]) (by simp [results,Tryz.results156,go_sem]) rfl ⟨rfl,(Below.refl _ _).alloc (Nat.le_refl _) _⟩
theorem lebGetS_any (a:Option Addr)(cap:Nat)(bs:List Int)(p b:Int)(w:World)(hl:bs.length<=1099511627776)(ha:Has w a bs)(hB:Qt bs) :
    Calls Tryz.prog 118 #[.slice a bs.length cap,.int .i64 p,.int .i64 b] w λe w'=>e=.returned (RV (getA true bs p b))/\Below w.heap.size w w':=by
 by_cases hp:0<=p/\p<=bs.length
 . obtain ⟨P,rfl⟩:=Int.eq_ofNat_of_zero_le hp.1;have eA:getA true bs (P:Int) b=QR true bs P (Xq b) 10 0 0:=by unfold getA;rw [if_pos hp,Int.toNat_natCast]
   rw [eA]
   rcases ha with hx|⟨b1,o1,rfl,hc1⟩
   . subst hx;have hP:P=0:=by have:=hp.2;simp at this;omega
     subst hP
     show Calls Tryz.prog 118 #[.slice a 0 cap,.int .i64 0,.int .i64 b] w λe w'=>e=.returned (RV (1,0,0))/\Below w.heap.size w w'
     clear hl hB hp eA
     go_enter Tryz.func118,Tryz.ntmps118
     go_wp2
     all_goals
      refine wp_loop_rounds 1 ?_
      rw [rounds_succ]
      go_wp2
      exact bodyPost_ret (v:=.agg #[.int .i64 1,.int .u64 0,.int .i64 0]) (by simp [results,Tryz.results118,go_sem]) rfl ⟨rfl,(Below.refl _ _).alloc (Nat.le_refl _) _⟩
   . exact lebGetS_row b1 o1 cap bs P b w hl (by omega) (Xq b) rfl (normB_bd b).1 (normB_bd b).2 _ hc1 hB rfl
 . have eA:getA true bs p b=(1,0,(bs.length:Int)):=by unfold getA;rw [if_neg hp]
   rw [eA];clear eA ha hB
   rcases (show p<0\/(0<=p/\(bs.length:Int)<p) by omega) with h|⟨h,h'⟩
   all_goals
    go_enter Tryz.func118,Tryz.ntmps118
    go_wp2
    all_goals
     exact bodyPost_ret (v:=.agg #[.int .i64 1,.int .u64 0,.int .i64 bs.length]) (by simp [results,Tryz.results118,go_sem]) rfl ⟨rfl,(Below.refl _ _).alloc (Nat.le_refl _) _⟩
theorem bcell {W w1:World}(hb:Below W.heap.size W w1):(∀ b o,b<W.heap.size->w1.cell? ⟨b,o,none⟩=W.cell? ⟨b,o,none⟩)/\(∀ b o,b<W.heap.size->w1.frozen? ⟨b,o,none⟩=W.frozen? ⟨b,o,none⟩) :=
 ⟨λb o h=>hb.cell (p:=⟨b,o,none⟩) h,λb o h=>hb.frozen (p:=⟨b,o,none⟩) h⟩
theorem below_three {w w1:World}{o:Obj}{x y z:Value}(hb:Below (w.alloc o).heap.size (w.alloc o) w1) :
    Below w.heap.size w (((w1.setCell ⟨w.heap.size,0,none⟩ x).setCell ⟨w.heap.size,1,none⟩ y).setCell ⟨w.heap.size,2,none⟩ z) :=
 (((((Below.refl _ _).alloc (Nat.le_refl _) o).trans (hb.mono (by simp))).setCell (Nat.le_refl _) _).setCell (Nat.le_refl _) _).setCell (Nat.le_refl _) _
theorem implGetU_any (a:Option Addr)(cap:Nat)(bs:List Int)(p b:Int)(w:World)(hl:bs.length<=1099511627776)(ha:Has w a bs)(hB:Qt bs) :
    Calls Tryz.prog 116 #[.slice a bs.length cap,.int .i64 p,.int .i64 b] w λe w'=>e=.returned (RV (getA false bs p b))/\Below w.heap.size w w':=by
 have C:=lebGetU_any a cap bs p b (w.alloc (Obj.cells #[Value.int .i64 0,Value.int .u64 0,Value.int .i64 0] 175)) hl (ha.below ((Below.refl _ _).alloc (Nat.le_refl _) _)) hB;obtain ⟨⟨r1,r2,r3⟩,hR⟩:∃ r,r=getA false bs p b:=⟨_,rfl⟩;rw [<- hR] at C⊢;have HC:=Hm C;clear C hR ha hB hl
 go_enter Tryz.func116,Tryz.ntmps116
 go_wp2_with fail
 refine HC.o.mono ?_
 rintro e w1 ⟨rfl,hb⟩
 simp only [RV]
 obtain ⟨hc,hf⟩:=bcell hb;clear HC
 go_wp2
 exact bodyPost_ret (v:=.agg #[.int .i64 r1,.int .u64 r2,.int .i64 r3]) (by simp [results,Tryz.results116,go_sem,hc]) rfl ⟨rfl,below_three hb⟩
theorem implGetS_any (a:Option Addr)(cap:Nat)(bs:List Int)(p b:Int)(w:World)(hl:bs.length<=1099511627776)(ha:Has w a bs)(hB:Qt bs) :
    Calls Tryz.prog 75 #[.slice a bs.length cap,.int .i64 p,.int .i64 b] w λe w'=>e=.returned (RV (getA true bs p b))/\Below w.heap.size w w':=by
 have C:=lebGetS_any a cap bs p b (w.alloc (Obj.cells #[Value.int .i64 0,Value.int .u64 0,Value.int .i64 0] 175)) hl (ha.below ((Below.refl _ _).alloc (Nat.le_refl _) _)) hB;obtain ⟨⟨r1,r2,r3⟩,hR⟩:∃ r,r=getA true bs p b:=⟨_,rfl⟩;rw [<- hR] at C⊢;have HC:=Hm C;clear C hR ha hB hl
 go_enter Tryz.func75,Tryz.ntmps75
 go_wp2_with fail
 refine HC.o.mono ?_
 rintro e w1 ⟨rfl,hb⟩
 simp only [RV]
 obtain ⟨hc,hf⟩:=bcell hb;clear HC
 go_wp2
 exact bodyPost_ret (v:=.agg #[.int .i64 r1,.int .u64 r2,.int .i64 r3]) (by simp [results,Tryz.results75,go_sem,hc]) rfl ⟨rfl,below_three hb⟩
end Go.Proofs.YtipfjdogokanbaaGreatDoor.Ed.By
namespace Go.Proofs.YtipfjdogokanbaaGreatDoor.Ed
open Go.RowKit Go.Sort
def RdP {α:Type}(M:Rs α)(kv:α->Value)(w:World)(q:Nat)(ba:Option Addr)(bc:Nat)(bs:List Int)(e:Ending)(w':World):Prop :=
 w.grownBy w' (some q)/\(match M with
 |.bad er at_=>e=.panicked [flt er at_]
  | .ok v p'=>e=.returned (kv v)/\Rd w' q ba bc bs p')
def posOf (q:Nat)(w:World):Int:=match w.cell? ⟨q,1,none⟩ with
|some v=>intOf v
|none=>0
theorem Rd.pos {w:World}{q:Nat}{ba:Option Addr}{bc:Nat}{bs:List Int}{p:Nat}(h:Rd w q ba bc bs p):posOf q w=p:=by
 unfold posOf;rw [h.c1];rfl
theorem allB_take {bs:List Int}(h:Qt bs)(m:Nat):Qt (bs.take m):=λi=>by
 by_cases hi:i<m
 . rw [take_getD bs m i hi];exact h i
 . have:(bs.take m).getD i 0=0:=by simp [List.getD,List.getElem?_take,hi]
   rw [this];omega
theorem normB_id {B:Int}(h0:1<=B)(h1:B<=64):By.Xq B=B:=by unfold By.Xq;rw [if_pos ⟨h0,h1⟩]
theorem has_prefix {w:World}{a:Option Addr}{xs:List Int}(h:By.Has w a xs)(m:Nat):By.Has w a (xs.take m):=by
 rcases h with h|⟨b,o,e,hc⟩
 . left;rw [h];simp
 . refine .inr ⟨b,o,e,λi hi=>?_⟩
   simp at hi
   rw [take_getD xs m i (by omega)]
   exact hc i (by omega)
theorem bel_drew {w:World}:Below w.heap.size w w.drew:=(Below.refl _ _).drew
theorem Gy {w:World}(o:Obj):Below w.heap.size w (w.alloc o).drew:=((Below.refl _ _).alloc (Nat.le_refl _) o).drew
theorem JJ {w:World}{q o:Nat}{v:Value}{ob:Obj}(h:w.cell? ⟨q,o,none⟩=some v):(w.alloc ob).cell? ⟨q,o,none⟩=some v:=by
 rw [World.cell?_alloc_past _ _ _ (World.block_lt_of_cell? w _ h)];exact h
theorem z3 {w w2:World}{a b c:Value}{t:TypeId}(hb:Below ((w.alloc (.cells #[a,b,c] t)).drew).heap.size ((w.alloc (.cells #[a,b,c] t)).drew) w2):w2.cell? ⟨w.heap.size,0,none⟩=some a/\w2.cell? ⟨w.heap.size,1,none⟩=some b/\w2.cell? ⟨w.heap.size,2,none⟩=some c/\∀ i,w2.frozen? ⟨w.heap.size,i,none⟩=false:=by
 have hl:w.heap.size<((w.alloc (.cells #[a,b,c] t)).drew).heap.size:=by show w.heap.size<(w.alloc _).heap.size;simp
 have cn:∀ i u,#[a,b,c][i]?=some u->((w.alloc (.cells #[a,b,c] t)).drew).cell? ⟨w.heap.size,i,none⟩=some u:=λi u hu=>Qi (w:=w) rfl hu
 refine ⟨?_,?_,?_,λi=>?_⟩
 . rw [hb.cell (p:=⟨w.heap.size,0,none⟩) hl];exact cn 0 a rfl
 . rw [hb.cell (p:=⟨w.heap.size,1,none⟩) hl];exact cn 1 b rfl
 . rw [hb.cell (p:=⟨w.heap.size,2,none⟩) hl];exact cn 2 c rfl
 . rw [hb.frozen (p:=⟨w.heap.size,i,none⟩) hl];exact World.frozen?_alloc_new w _ t i
theorem Gt {w:World}{q o g:Nat}{v:Value}(h:w.cell? ⟨q,o,none⟩=some v)(hne:q≠g)(a b c:Value):(((w.setCell ⟨g,0,none⟩ a).setCell ⟨g,1,none⟩ b).setCell ⟨g,2,none⟩ c).cell? ⟨q,o,none⟩=some v:=by
 have ne:∀ i,(⟨g,i,none⟩:Addr)≠⟨q,o,none⟩:=λi e=>hne (congrArg Addr.block e).symm;rw [World.cell?_setCell_other _ _ _ _ (ne 2),World.cell?_setCell_other _ _ _ _ (ne 1),World.cell?_setCell_other _ _ _ _ (ne 0)];exact h
theorem Qo {w w1:World}{r:Option Nat}(hb:Below w.heap.size w w1):w.grownBy w1 r:=⟨hb.os,hb.tape,hb.output,hb.size,λk hk _=>hb.block k hk⟩
end Go.Proofs.YtipfjdogokanbaaGreatDoor.Ed
