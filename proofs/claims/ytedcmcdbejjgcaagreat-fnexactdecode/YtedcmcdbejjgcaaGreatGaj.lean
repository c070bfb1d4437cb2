import Derived.Test.YtedcmcdbejjgcaaGreatGaa
import Derived.Test.YtedcmcdbejjgcaaGreatGai
import Derived.Deep.Cut
import Derived.Deep.RegionHeld3
set_option linter.all false
set_option maxHeartbeats 400000000
set_option maxRecDepth 100000
namespace Go.Proofs.YtedcmcdbejjgcaaGreat.By
open Go.RowKit
end Go.Proofs.YtedcmcdbejjgcaaGreat.By
namespace Go.Proofs.YtedcmcdbejjgcaaGreat.By
open Go.RowKit
theorem lebU:(∀ (b1 G:Nat) (cap:Nat) (bs:List Int) (P:Nat) (b:Int) (w:World) (hl:bs.length<=1099511627776) (hr:P<=bs.length) (B:Int) (HB:Hid (B=GI b)) (E:1<=B) (D:B<=64) (R:Int × Int × Int) (M:Hid (∀ i,i<bs.length->w.cell? ⟨b1,G+i,none⟩=some (.int .u8 (bs.getD i 0)))) (hB:Qm bs) (u:Hid (JK false bs P B (9+1) 0 0=R)),Calls Tryz.prog 317 #[.slice (some ⟨b1,G,none⟩) bs.length cap,.int .i64 P,.int .i64 b] w λe l=>e=.returned (RV R)/\Below w.heap.size w l)/\(∀ (b1 G:Nat) (cap:Nat) (bs:List Int) (P:Nat) (b:Int) (w:World) (hl:bs.length<=1099511627776) (hr:P<=bs.length) (B:Int) (HB:Hid (B=GI b)) (E:1<=B) (D:B<=64) (R:Int × Int × Int) (M:Hid (∀ i,i<bs.length->w.cell? ⟨b1,G+i,none⟩=some (.int .u8 (bs.getD i 0)))) (hB:Qm bs) (u:Hid (JK true bs P B (9+1) 0 0=R)),Calls Tryz.prog 357 #[.slice (some ⟨b1,G,none⟩) bs.length cap,.int .i64 P,.int .i64 b] w λe l=>e=.returned (RV R)/\Below w.heap.size w l):=by
 refine ⟨?c0,?c1⟩
 case' c0=>have a:=0
 case' c1=>have t1:=0
 all_goals
  intro b1 G cap bs P b w hl hr B HB E D R M hB u
  first|(replace a:=a;go_enter Tryz.func317,Tryz.ntmps317)|(go_enter Tryz.func357,Tryz.ntmps357)
  go_upto_region 2 with fail
  go_cut [20] from 13 (λv2 wc=>v2=.bool (!inB b 1 64)/\wc=w.alloc (Obj.cells #[Value.int .i64 0,Value.int .u64 0,Value.int .i64 0] 333))
  case first =>
   by_cases h1:b<1
   . go_wp2
     go_meet
     case rel=>exact ⟨by rw [show inB b 1 64=false by unfold inB;simp;omega];rfl,rfl⟩
   . by_cases h2:64<b
     . go_wp2
       go_meet
       case rel=>exact ⟨by rw [show inB b 1 64=false by unfold inB;simp;omega];simp,rfl⟩
     . go_wp2
       go_meet
       case rel=>exact ⟨by rw [show inB b 1 64=true by unfold inB;simp;omega];simp,rfl⟩
  case rest =>
  obtain ⟨rfl,rfl⟩:=hcut
  go_upto_if 20 with fail
  go_cut [2] from 13 (λv2 wc=>v2=.int .i64 B/\wc=w.alloc (Obj.cells #[Value.int .i64 0,Value.int .u64 0,Value.int .i64 0] 333))
  case first =>
   go_wp2
   . have t:(!inB b 1 64)=true:=by assumption
     have e:B=64:=by rw [HB.o];unfold GI;rw [if_neg (in_false t)]
     go_meet
     case rel=>exact ⟨by rw [e],rfl⟩
   . rename_i t
     have e:B=b:=by rw [HB.o];unfold GI;rw [if_pos (in_true (by simpa using t))]
     go_meet
     case rel=>exact ⟨by rw [e],rfl⟩
  case rest =>
  obtain ⟨rfl,rfl⟩:=hcut;have ap:decide ((P:Int)<0)=false:=decide_eq_false (by omega);have ao:decide (bs.length<P)=false:=decide_eq_false (by omega)
  go_wp2
  first|(replace a:=a;go_loop [8,9] (λxv kv=>∃ (k f:Nat) (d:Int),xv=.int .u64 d/\kv=.int .i64 k/\k+f=9/\P+k<=bs.length/\7*(k:Int)<B/\0<=d/\d<=9223372036854775807/\Hid (d<P2 (7*(k:Int)))/\Hid (JK false bs P B (f+1) k d=R)) (λ_ kv=>10-(intOf kv).toNat))|(go_loop [8,9] (λxv kv=>∃ (k f:Nat) (d:Int),xv=.int .i64 d/\kv=.int .i64 k/\k+f=9/\P+k<=bs.length/\7*(k:Int)<B/\0<=d/\d<=9223372036854775807/\Hid (d<P2 (7*(k:Int)))/\Hid (JK true bs P B (f+1) k d=R)) (λ_ kv=>10-(intOf kv).toNat))
  case atStart=>exact ⟨0,9,0,rfl,rfl,rfl,by omega,by omega,by omega,by omega,(by show (0:Int)<P2 _;have:=XO (7*((0:Nat):Int));omega),u⟩
  case round =>
   clear u;obtain ⟨k,f,d,rfl,rfl,ar,aq,au,q,av,z,L⟩:=hrel
   by_cases p:P+k<bs.length
   . have d0:=M.o (P+k) p;have d1:(w.alloc (Obj.cells #[Value.int .i64 0,Value.int .u64 0,Value.int .i64 0] 333)).cell? ⟨b1,G+(P+k),none⟩=some (.int .u8 (bs.getD (P+k) 0)):=(Below.cell (bF.alloc lR _) (World.block_lt_of_cell? w _ d0)).trans d0;clear d0;obtain ⟨c,X⟩:∃ c,c=bs.getD (P+k) 0:=⟨_,rfl⟩;have hb:=hB (P+k)
     first|(replace a:=a;have G1:=@Ge false bs P f k B d p)|(have G1:=@Ge true bs P f k B d p)
     first|(replace a:=a;have G2:=@Gf false bs P f k B d p)|(have G2:=@Gf true bs P f k B d p)
     first|(replace a:=a;have Z:=@GW false bs P f k B d p)|(have Z:=@GW true bs P f k B d p)
     first|(replace a:=a;have Y:=@Gd false bs P f k B d p)|(have Y:=@Gd true bs P f k B d p)
     rw [<- X] at d1 hb G1 G2 Z Y;rw [L.o] at G1 G2 Z Y;have U:=Hm G1;have V:=Hm G2;have O:=Hm Z;have S:=Hm Y;clear G1 G2 Z Y X;obtain ⟨g,m⟩:=hb;have ag:((P:Int)+k==(bs.length:Int))=false:=beq_eq_false_iff_ne.2 (by omega);have hN:bits .andNot .u8 c 128=c%128:=by have:=andNot128 c;rwa [show c%256=c by omega] at this
     by_cases s:B-7*(k:Int)<=7
     . by_cases j:128<=c
       . have e:=U.o s j;subst e
         first|(replace a:=a;have J:Xt false c (B-7*(k:Int))=2:=by unfold Xt;rw [if_neg (by omega),if_pos j])|(have J:Xt true c (B-7*(k:Int))=2:=by unfold Xt;rw [if_neg (by omega),if_pos j])
         first|(replace a:=a;go_wp2_with (first|(go_at_call 350;refine (GS _ _ _ g m (by omega) (by omega)).mono ?_;rintro e l ⟨rfl,rfl⟩)|(go_at_call 341;refine (Gw _ _ _ (by omega) (by omega) (by omega) (by omega)).mono ?_;rintro e l ⟨rfl,rfl⟩)))|(go_wp2_with (first|(go_at_call 364;refine (GT _ _ _ g m (by omega) (by omega)).mono ?_;rintro e l ⟨rfl,rfl⟩)|(go_at_call 365;refine (Gx _ _ _ (by omega) (by omega) (by omega) (by omega)).mono ?_;rintro e l ⟨rfl,rfl⟩)))
         first|(replace a:=a;exact bodyPost_ret (v:=.agg #[.int .i64 2,.int .u64 0,.int .i64 ((P:Int)+k+1)]) (by simp [results,Tryz.results317,go_sem]) rfl ⟨rfl,bF.alloc lR _⟩)|(exact bodyPost_ret (v:=.agg #[.int .i64 2,.int .u64 0,.int .i64 ((P:Int)+k+1)]) (by simp [results,Tryz.results357,go_sem]) rfl ⟨rfl,bF.alloc lR _⟩)
       . first|(replace a:=a;cases hq:rok false c (B-7*(k:Int)))|(cases hq:rok true c (B-7*(k:Int)))
         . have e:=V.o s (by omega) hq;subst e
           first|(replace a:=a;have J:Xt false c (B-7*(k:Int))=3:=by unfold Xt;rw [if_neg (by omega),if_neg j,hq];rfl)|(have J:Xt true c (B-7*(k:Int))=3:=by unfold Xt;rw [if_neg (by omega),if_neg j,hq];rfl)
           clear hq
           first|(replace a:=a;go_wp2_with (first|(go_at_call 350;refine (GS _ _ _ g m (by omega) (by omega)).mono ?_;rintro e l ⟨rfl,rfl⟩)|(go_at_call 341;refine (Gw _ _ _ (by omega) (by omega) (by omega) (by omega)).mono ?_;rintro e l ⟨rfl,rfl⟩)))|(go_wp2_with (first|(go_at_call 364;refine (GT _ _ _ g m (by omega) (by omega)).mono ?_;rintro e l ⟨rfl,rfl⟩)|(go_at_call 365;refine (Gx _ _ _ (by omega) (by omega) (by omega) (by omega)).mono ?_;rintro e l ⟨rfl,rfl⟩)))
           first|(replace a:=a;exact bodyPost_ret (v:=.agg #[.int .i64 3,.int .u64 0,.int .i64 ((P:Int)+k+1)]) (by simp [results,Tryz.results317,go_sem]) rfl ⟨rfl,bF.alloc lR _⟩)|(exact bodyPost_ret (v:=.agg #[.int .i64 3,.int .u64 0,.int .i64 ((P:Int)+k+1)]) (by simp [results,Tryz.results357,go_sem]) rfl ⟨rfl,bF.alloc lR _⟩)
         . first|(replace a:=a;have J:Xt false c (B-7*(k:Int))=0:=by unfold Xt;rw [if_neg (by omega),if_neg j,hq];rfl)|(have J:Xt true c (B-7*(k:Int))=0:=by unfold Xt;rw [if_neg (by omega),if_neg j,hq];rfl)
           have e:=O.o (by omega) (λ_=>hq)
           first
           | (replace a:=a
              have r:=finU d c k (by omega) q z.o g (by omega) (fun h9=>rok1U c g (by omega) (by rwa [show B-7*(k:Int)=1 by omega] at hq)))
           |skip
           first
           | (replace a:=a
              rw [<- r.2.2.2] at e)
           |skip
           first
           | (replace a:=a
              have C:=join_u64 d (c%128) k q z.o (by omega) (by omega) r.1)
           |skip
           first|(replace a:=a;obtain ⟨x,t⟩:∃ x,x=d+c%128*P2 (7*(k:Int)):=⟨_,rfl⟩)|(obtain ⟨x,C,I,H,r⟩:=finS d c k (by omega) q z.o g (by omega) (λh9=>rok1S c g (by omega) (by rwa [show B-7*(k:Int)=1 by omega] at hq)))
           first|(replace a:=a;rw [<- t] at r C e)|(rw [<- r] at e)
           subst e
           first
           | (replace a:=a
              have I:=r.2.1)
           |skip
           first
           | (replace a:=a
              have H:=r.2.2.1)
           |skip
           first|(replace a:=a;clear r t U V O S L)|(clear r U V O S L)
           first|(replace a:=a;go_wp2_with (first|(go_at_call 350;refine (GS _ _ _ g m (by omega) (by omega)).mono ?_;rintro e l ⟨rfl,rfl⟩)|(go_at_call 341;refine (Gw _ _ _ (by omega) (by omega) (by omega) (by omega)).mono ?_;rintro e l ⟨rfl,rfl⟩)))|(go_wp2_with (first|(go_at_call 364;refine (GT _ _ _ g m (by omega) (by omega)).mono ?_;rintro e l ⟨rfl,rfl⟩)|(go_at_call 365;refine (Gx _ _ _ (by omega) (by omega) (by omega) (by omega)).mono ?_;rintro e l ⟨rfl,rfl⟩)))
           first|(replace a:=a;exact bodyPost_ret (v:=.agg #[.int .i64 0,.int .u64 (GN x (7*((k:Int)+1))),.int .i64 ((P:Int)+k+1)]) (by simp [results,Tryz.results317,go_sem]) rfl ⟨rfl,bF.alloc lR _⟩)|(exact bodyPost_ret (v:=.agg #[.int .i64 0,.int .u64 (IntKind.u64.wrap (GF x (7*((k:Int)+1)))),.int .i64 ((P:Int)+k+1)]) (by simp [results,Tryz.results357,go_sem]) rfl ⟨rfl,bF.alloc lR _⟩)
     . first|(replace a:=a;have J:Xt false c (B-7*(k:Int))=0:=by unfold Xt;rw [if_pos (by omega)])|(have J:Xt true c (B-7*(k:Int))=0:=by unfold Xt;rw [if_pos (by omega)])
       by_cases j:128<=c
       . have HM:=Hm (S.o (by omega) j);have hs:=G6 d c k q z.o;have ai:=P2_63 (n:=7*((k+1:Nat):Int)) (by omega)
         first|(replace a:=a;have C:=join_u64 d (c%128) k q z.o (by omega) (by omega) (by omega))|(have C:=join_i64 d (c%128) k q z.o (by omega) (by omega) (by omega))
         clear U V O S L;obtain ⟨F,A⟩:∃ y,y=d+c%128*P2 (7*(k:Int)):=⟨_,rfl⟩;rw [<- A] at hs C HM;have af:=hs.1;have HS:=Hm hs.2;have ae:F<=9223372036854775807:=by omega
         clear hs A
         first|(replace a:=a;go_wp2_with (first|(go_at_call 350;refine (GS _ _ _ g m (by omega) (by omega)).mono ?_;rintro e l ⟨rfl,rfl⟩)|(go_at_call 341;refine (Gw _ _ _ (by omega) (by omega) (by omega) (by omega)).mono ?_;rintro e l ⟨rfl,rfl⟩)))|(go_wp2_with (first|(go_at_call 364;refine (GT _ _ _ g m (by omega) (by omega)).mono ?_;rintro e l ⟨rfl,rfl⟩)|(go_at_call 365;refine (Gx _ _ _ (by omega) (by omega) (by omega) (by omega)).mono ?_;rintro e l ⟨rfl,rfl⟩)))
         go_round
         case rel =>
          cases f with
          |zero=>omega
          |succ f=>exact ⟨k+1,f,F,rfl,by go_num,by omega,by omega,by omega,af,ae,HS,HM.o.symm⟩
         case measure=>simp [intOf];omega
       . have e:=O.o (by omega) (λh=>absurd h s)
         first
         | (replace a:=a
            have r:=finU d c k (by omega) q z.o g (by omega) (fun h9=>by omega))
         |skip
         first
         | (replace a:=a
            rw [<- r.2.2.2] at e)
         |skip
         first
         | (replace a:=a
            have C:=join_u64 d (c%128) k q z.o (by omega) (by omega) r.1)
         |skip
         first|(replace a:=a;obtain ⟨x,t⟩:∃ x,x=d+c%128*P2 (7*(k:Int)):=⟨_,rfl⟩)|(obtain ⟨x,C,I,H,r⟩:=finS d c k (by omega) q z.o g (by omega) (λh9=>by omega))
         first|(replace a:=a;rw [<- t] at r C e)|(rw [<- r] at e)
         subst e
         first
         | (replace a:=a
            have I:=r.2.1)
         |skip
         first
         | (replace a:=a
            have H:=r.2.2.1)
         |skip
         first|(replace a:=a;clear r t U V O S L)|(clear r U V O S L)
         first|(replace a:=a;go_wp2_with (first|(go_at_call 350;refine (GS _ _ _ g m (by omega) (by omega)).mono ?_;rintro e l ⟨rfl,rfl⟩)|(go_at_call 341;refine (Gw _ _ _ (by omega) (by omega) (by omega) (by omega)).mono ?_;rintro e l ⟨rfl,rfl⟩)))|(go_wp2_with (first|(go_at_call 364;refine (GT _ _ _ g m (by omega) (by omega)).mono ?_;rintro e l ⟨rfl,rfl⟩)|(go_at_call 365;refine (Gx _ _ _ (by omega) (by omega) (by omega) (by omega)).mono ?_;rintro e l ⟨rfl,rfl⟩)))
         first|(replace a:=a;exact bodyPost_ret (v:=.agg #[.int .i64 0,.int .u64 (GN x (7*((k:Int)+1))),.int .i64 ((P:Int)+k+1)]) (by simp [results,Tryz.results317,go_sem]) rfl ⟨rfl,bF.alloc lR _⟩)|(exact bodyPost_ret (v:=.agg #[.int .i64 0,.int .u64 (IntKind.u64.wrap (GF x (7*((k:Int)+1)))),.int .i64 ((P:Int)+k+1)]) (by simp [results,Tryz.results357,go_sem]) rfl ⟨rfl,bF.alloc lR _⟩)
   . have e:R=(1,0,(bs.length:Int)):=by rw [<- L.o,Oi (by omega)]
     subst e;have ag:((P:Int)+k==(bs.length:Int))=true:=beq_iff_eq.2 (by omega)
     go_wp2
     first|(replace a:=a;exact bodyPost_ret (v:=.agg #[.int .i64 1,.int .u64 0,.int .i64 bs.length]) (by simp [results,Tryz.results317,go_sem]) rfl ⟨rfl,bF.alloc lR _⟩)|(exact bodyPost_ret (v:=.agg #[.int .i64 1,.int .u64 0,.int .i64 bs.length]) (by simp [results,Tryz.results357,go_sem]) rfl ⟨rfl,bF.alloc lR _⟩)
def lebGetU_row:=lebU.1
def lebGetS_row:=lebU.2
end Go.Proofs.YtedcmcdbejjgcaaGreat.By
namespace Go.Proofs.YtedcmcdbejjgcaaGreat.By
open Go.RowKit
theorem lebGetU_any (a)(cap:Nat)(bs:List Int)(p b:Int)(w)(hl:bs.length<=1099511627776)(g:Has w a bs)(hB:Qm bs) :
    Calls Tryz.prog 317 #[.slice a bs.length cap,.int .i64 p,.int .i64 b] w λe w'=>e=.returned (RV (GD false bs p b))/\Below w.heap.size w w':=by
 by_cases c:0<=p/\p<=bs.length
 . obtain ⟨P,rfl⟩:=Int.eq_ofNat_of_zero_le c.1;have d:GD false bs (P:Int) b=JK false bs P (GI b) 10 0 0:=by unfold GD;rw [if_pos c,Int.toNat_natCast]
   rw [d]
   rcases g with k|⟨b1,j,rfl,f⟩
   . subst k;have l:P=0:=by have:=c.2;simp at this;omega
     subst l
     show Calls Tryz.prog 317 #[.slice a 0 cap,.int .i64 0,.int .i64 b] w λe w'=>e=.returned (RV (1,0,0))/\Below w.heap.size w w'
     clear hl hB c d
     go_enter Tryz.func317,Tryz.ntmps317
     go_wp2
     all_goals
      refine wp_loop_rounds 1 ?_
      rw [rounds_succ]
      go_wp2
      exact bodyPost_ret (v:=.agg #[.int .i64 1,.int .u64 0,.int .i64 0]) (by simp [results,Tryz.results317,go_sem]) rfl ⟨rfl,bF.alloc lR _⟩
   . exact lebGetU_row b1 j cap bs P b w hl (by omega) (GI b) rfl (normB_bd b).1 (normB_bd b).2 _ f hB rfl
 . have d:GD false bs p b=(1,0,(bs.length:Int)):=by unfold GD;rw [if_neg c]
   rw [d];clear d g hB
   rcases (show p<0\/(0<=p/\(bs.length:Int)<p) by omega) with h|⟨h,m⟩
   all_goals
    go_enter Tryz.func317,Tryz.ntmps317
    go_wp2
    all_goals
     exact bodyPost_ret (v:=.agg #[.int .i64 1,.int .u64 0,.int .i64 bs.length]) (by simp [results,Tryz.results317,go_sem]) rfl ⟨rfl,bF.alloc lR _⟩
theorem lebGetS_any (a)(cap:Nat)(bs:List Int)(p b:Int)(w)(hl:bs.length<=1099511627776)(g:Has w a bs)(hB:Qm bs) :
    Calls Tryz.prog 357 #[.slice a bs.length cap,.int .i64 p,.int .i64 b] w λe w'=>e=.returned (RV (GD true bs p b))/\Below w.heap.size w w':=by
 by_cases c:0<=p/\p<=bs.length
 . obtain ⟨P,rfl⟩:=Int.eq_ofNat_of_zero_le c.1;have d:GD true bs (P:Int) b=JK true bs P (GI b) 10 0 0:=by unfold GD;rw [if_pos c,Int.toNat_natCast]
   rw [d]
   rcases g with k|⟨b1,j,rfl,f⟩
   . subst k;have l:P=0:=by have:=c.2;simp at this;omega
     subst l
     show Calls Tryz.prog 357 #[.slice a 0 cap,.int .i64 0,.int .i64 b] w λe w'=>e=.returned (RV (1,0,0))/\Below w.heap.size w w'
     clear hl hB c d
     go_enter Tryz.func357,Tryz.ntmps357
     go_wp2
     all_goals
      refine wp_loop_rounds 1 ?_
      rw [rounds_succ]
      go_wp2
      exact bodyPost_ret (v:=.agg #[.int .i64 1,.int .u64 0,.int .i64 0]) (by simp [results,Tryz.results357,go_sem]) rfl ⟨rfl,bF.alloc lR _⟩
   . exact lebGetS_row b1 j cap bs P b w hl (by omega) (GI b) rfl (normB_bd b).1 (normB_bd b).2 _ f hB rfl
 . have d:GD true bs p b=(1,0,(bs.length:Int)):=by unfold GD;rw [if_neg c]
   rw [d];clear d g hB
   rcases (show p<0\/(0<=p/\(bs.length:Int)<p) by omega) with h|⟨h,m⟩
   all_goals
    go_enter Tryz.func357,Tryz.ntmps357
    go_wp2
    all_goals
     exact bodyPost_ret (v:=.agg #[.int .i64 1,.int .u64 0,.int .i64 bs.length]) (by simp [results,Tryz.results357,go_sem]) rfl ⟨rfl,bF.alloc lR _⟩
theorem bcell {W w1}(a:Below W.heap.size W w1):(∀ b o,b<W.heap.size->w1.cell? ⟨b,o,none⟩=W.cell? ⟨b,o,none⟩)/\(∀ b o,b<W.heap.size->w1.frozen? ⟨b,o,none⟩=W.frozen? ⟨b,o,none⟩) :=
 ⟨λb o h=>a.cell (p:=⟨b,o,none⟩) h,λb o h=>a.frozen (p:=⟨b,o,none⟩) h⟩
theorem below_three {w w1:World}{o:Obj}{x y z:Value}(a:Below (w.alloc o).heap.size (w.alloc o) w1) :
    Below w.heap.size w (((w1.setCell ⟨w.heap.size,0,none⟩ x).setCell ⟨w.heap.size,1,none⟩ y).setCell ⟨w.heap.size,2,none⟩ z) :=
 ((((bF.alloc lR o).trans (a.mono (by simp))).setCell lR _).setCell lR _).setCell lR _
theorem implGetU_any (a)(cap:Nat)(bs:List Int)(p b:Int)(w)(hl:bs.length<=1099511627776)(d:Has w a bs)(hB:Qm bs) :
    Calls Tryz.prog 288 #[.slice a bs.length cap,.int .i64 p,.int .i64 b] w λe w'=>e=.returned (RV (GD false bs p b))/\Below w.heap.size w w':=by
 have C:=lebGetU_any a cap bs p b (w.alloc (Obj.cells #[Value.int .i64 0,Value.int .u64 0,Value.int .i64 0] 333)) hl (d.below (bF.alloc lR _)) hB;obtain ⟨⟨l,k,j⟩,f⟩:∃ r,r=GD false bs p b:=⟨_,rfl⟩;rw [<- f] at C⊢;have g:=Hm C;clear C f d hB hl
 go_enter Tryz.func288,Tryz.ntmps288
 go_wp2_with fail
 refine g.o.mono ?_
 rintro e n ⟨rfl,c⟩
 simp only [RV]
 obtain ⟨m,q⟩:=bcell c;clear g
 go_wp2
 exact bodyPost_ret (v:=.agg #[.int .i64 l,.int .u64 k,.int .i64 j]) (by simp [results,Tryz.results288,go_sem,m]) rfl ⟨rfl,below_three c⟩
theorem implGetS_any (a)(cap:Nat)(bs:List Int)(p b:Int)(w)(hl:bs.length<=1099511627776)(d:Has w a bs)(hB:Qm bs) :
    Calls Tryz.prog 351 #[.slice a bs.length cap,.int .i64 p,.int .i64 b] w λe w'=>e=.returned (RV (GD true bs p b))/\Below w.heap.size w w':=by
 have C:=lebGetS_any a cap bs p b (w.alloc (Obj.cells #[Value.int .i64 0,Value.int .u64 0,Value.int .i64 0] 333)) hl (d.below (bF.alloc lR _)) hB;obtain ⟨⟨l,k,j⟩,f⟩:∃ r,r=GD true bs p b:=⟨_,rfl⟩;rw [<- f] at C⊢;have g:=Hm C;clear C f d hB hl
 go_enter Tryz.func351,Tryz.ntmps351
 go_wp2_with fail
 refine g.o.mono ?_
 rintro e n ⟨rfl,c⟩
 simp only [RV]
 obtain ⟨m,q⟩:=bcell c;clear g
 go_wp2
 exact bodyPost_ret (v:=.agg #[.int .i64 l,.int .u64 k,.int .i64 j]) (by simp [results,Tryz.results351,go_sem,m]) rfl ⟨rfl,below_three c⟩
end Go.Proofs.YtedcmcdbejjgcaaGreat.By
namespace Go.Proofs.YtedcmcdbejjgcaaGreat
open Go.RowKit Go.Sort
def RdP {α:Type}(M:Rs α)(kv:α->Value)(w:World)(q:Nat)(ba:Option Addr)(bc:Bf)(bs:List Int)(e:Ending)(w':World):Prop :=
 w.grownBy w' (some q)/\(match M with
  |.bad er at_=>e=.panicked [bc.flt er at_]
  | .ok v p'=>e=.returned (kv v)/\Rd w' q ba bc bs p')
def posOf (q:Nat)(w:World):Int:=match w.cell? ⟨q,1,none⟩ with
 |some v=>intOf v
 |none=>0
theorem Rd.pos {w q ba bc bs p}(h:Rd w q ba bc bs p):posOf q w=p:=by
 unfold posOf;rw [h.c1];rfl
theorem Gh {bs}(h:Qm bs)(m:Nat):Qm (bs.take m):=λi=>by
 by_cases a:i<m
 . rw [take_getD bs m i a];exact h i
 . have:(bs.take m).getD i 0=0:=by simp [List.getD,List.getElem?_take,a]
   rw [this];omega
theorem normB_id {B:Int}(h0:1<=B)(h1:B<=64):By.GI B=B:=by unfold By.GI;rw [if_pos ⟨h0,h1⟩]
theorem JS {w:World}{a:Option Addr}{xs:List Int}(h:By.Has w a xs)(m:Nat):By.Has w a (xs.take m):=by
 rcases h with h|⟨b,o,e,c⟩
 . left;rw [h];simp
 . refine .inr ⟨b,o,e,λi hi=>?_⟩
   simp at hi
   rw [take_getD xs m i (by omega)]
   exact c i (by omega)
theorem XV {w:World}:Below w.heap.size w w.drew:=bF.drew
theorem Xj {w:World}(o:Obj):Below w.heap.size w (w.alloc o).drew:=(bF.alloc lR o).drew
theorem Qg {w:World}{q o:Nat}{v:Value}{a:Obj}(h:w.cell? ⟨q,o,none⟩=some v):(w.alloc a).cell? ⟨q,o,none⟩=some v:=by
 rw [World.cell?_alloc_past _ _ _ (World.block_lt_of_cell? w _ h)];exact h
theorem z3 {w w2:World}{a b c:Value}{t:TypeId}(f:Below ((w.alloc (.cells #[a,b,c] t)).drew).heap.size ((w.alloc (.cells #[a,b,c] t)).drew) w2):w2.cell? ⟨w.heap.size,0,none⟩=some a/\w2.cell? ⟨w.heap.size,1,none⟩=some b/\w2.cell? ⟨w.heap.size,2,none⟩=some c/\∀ i,w2.frozen? ⟨w.heap.size,i,none⟩=false:=by
 have d:w.heap.size<((w.alloc (.cells #[a,b,c] t)).drew).heap.size:=by show w.heap.size<(w.alloc _).heap.size;simp
 have g:∀ i u,#[a,b,c][i]?=some u->((w.alloc (.cells #[a,b,c] t)).drew).cell? ⟨w.heap.size,i,none⟩=some u:=λi u hu=>Qw (w:=w) rfl hu
 refine ⟨?_,?_,?_,λi=>?_⟩
 . rw [f.cell (p:=⟨w.heap.size,0,none⟩) d];exact g 0 a rfl
 . rw [f.cell (p:=⟨w.heap.size,1,none⟩) d];exact g 1 b rfl
 . rw [f.cell (p:=⟨w.heap.size,2,none⟩) d];exact g 2 c rfl
 . rw [f.frozen (p:=⟨w.heap.size,i,none⟩) d];exact World.frozen?_alloc_new w _ t i
theorem Xh {w:World}{q o g:Nat}{v:Value}(h:w.cell? ⟨q,o,none⟩=some v)(d:q≠g)(a b c:Value):(((w.setCell ⟨g,0,none⟩ a).setCell ⟨g,1,none⟩ b).setCell ⟨g,2,none⟩ c).cell? ⟨q,o,none⟩=some v:=by
 have ne:∀ i,(⟨g,i,none⟩:Addr)≠⟨q,o,none⟩:=λi e=>d (congrArg Addr.block e).symm;rw [World.cell?_setCell_other _ _ _ _ (ne 2),World.cell?_setCell_other _ _ _ _ (ne 1),World.cell?_setCell_other _ _ _ _ (ne 0)];exact h
theorem Qi {w w1}{r:Option Nat}(a:Below w.heap.size w w1):w.grownBy w1 r:=⟨a.os,a.tape,a.output,a.size,λk hk _=>a.block k hk⟩
end Go.Proofs.YtedcmcdbejjgcaaGreat
