import Derived.Test.YtipfjdogokanbaaGreatDoorGaa
import Derived.Test.YtipfjdogokanbaaGreatDoorGbx
import Derived.Test.YtipfjdogokanbaaGreatDoorGbq
import Derived.Test.YtipfjdogokanbaaGreatDoorGaf
set_option linter.all false
set_option maxHeartbeats 400000000
set_option maxRecDepth 100000
set_option linter.all false
namespace Go.Proofs.YtipfjdogokanbaaGreatDoor.Yz
open Go.RowKit Go.Sort
attribute [-go_sem] run_index_string
def SwP (l:Wd)(w:World)(e:Ending)(w':World):Prop :=
 ∃ v,e=.returned (.tuple #[v,.bool (Q5 l).isSome])/\Below w.heap.size w w'/\∀ ws,Q5 l=some ws->w'.ownsRow w.heap.size 9 1 v ws.length (Sv ws)
def Wm (l0:Wd)(k:Nat)(r:List Wd):Prop:=Q5 l0=(Q5 (l0.drop k)).map (r++·)
theorem wm_none {l0:Wd}{k:Nat}{r:List Wd}(h:Wm l0 k r)(hn:wlen (l0.drop k)=none):Q5 l0=none:=by
 rw [h,Q5,hn];rfl
theorem wm_bad {l0:Wd}{k j:Nat}{r:List Wd}(h:Wm l0 k r)(hn:wlen (l0.drop k)=some (j-k))(hk:k<=j)(hj:j<l0.length)(hb:l0.getD j 0≠32):Q5 l0=none:=by
 have h1:j-k<(l0.drop k).length:=by simp;omega
 have h2:(l0.drop k)[j-k]?≠some 32:=by
  rw [List.getElem?_drop,show k+(j-k)=j by omega]
  intro e
  apply hb
  simp [List.getD,e]
 rw [h,Q5,hn]
 simp only
 rw [dif_pos h1,if_neg h2];rfl
theorem wm_end {l0:Wd}{k j:Nat}{r:List Wd}(h:Wm l0 k r)(hn:wlen (l0.drop k)=some (j-k))(hk:k<=j)(hj:j=l0.length):Q5 l0=some (r++[(l0.take j).drop k]):=by
 have h1:¬ j-k<(l0.drop k).length:=by simp;omega
 rw [h,Q5,hn]
 simp only
 rw [dif_neg h1,List.take_of_length_le (by omega)];rfl
theorem wm_more {l0:Wd}{k j:Nat}{r:List Wd}(h:Wm l0 k r)(hn:wlen (l0.drop k)=some (j-k))(hk:k<=j)(hj:j<l0.length)(hb:l0.getD j 0=32):Wm l0 (j+1) (r++[(l0.take j).drop k]):=by
 have h1:j-k<(l0.drop k).length:=by simp;omega
 have h2:(l0.drop k)[j-k]?=some 32:=by
  rw [List.getElem?_drop,show k+(j-k)=j by omega,List.getElem?_eq_getElem hj]
  simp [List.getD,List.getElem?_eq_getElem hj] at hb
  rw [hb]
 unfold Wm;rw [h,Q5,hn]
 simp only
 rw [dif_pos h1,if_pos h2,List.drop_drop,show k+(j-k+1)=j+1 by omega];rw [List.drop_take]
 cases Q5 (l0.drop (j+1))<;>simp
theorem sw_no {l0:Wd}{w w':World}{v:Value}(h:Q5 l0=none)(hb:Below w.heap.size w w'):SwP l0 w (.returned (.tuple #[v,.bool false])) w' :=
 ⟨v,by rw [h];rfl,hb,λws e=>by rw [h] at e;cases e⟩
theorem sw_yes {l0:Wd}{w w':World}{v:Value}{r:List Wd}{x:Wd}(h:Q5 l0=some (r++[x]))(hb:Below w.heap.size w w')(ho:w'.ownsRow w.heap.size 9 1 v (r.length+1) (Sv r++[.string (S x)])):SwP l0 w (.returned (.tuple #[v,.bool true])) w' :=
 ⟨v,by rw [h];rfl,hb,λws e=>by rw [h] at e;cases e;rw [Sv_app,List.length_append];exact ho⟩
theorem wl_q {l0:Wd}{k j:Nat}(hk:k<l0.length)(hq:l0.getD k 0=34)(hkj:k+1<=j)(hin:∀ i,k+1<=i->i<j->l0.getD i 0≠34)(hj:j<l0.length)(he:l0.getD j 0=34):wlen (l0.drop k)=some (j+1-k):=by
 have hd:l0.drop k=l0[k]::l0.drop (k+1):=List.drop_eq_getElem_cons hk;have h34:l0[k]=34:=by simpa [List.getD,List.getElem?_eq_getElem hk] using hq
 have hr:run nq (l0.drop (k+1))=j-(k+1):=by
  refine run_eq (λi c hi e=>?_) (.inr ⟨34,?_,by decide⟩) (by simp;omega)
  . rw [List.getElem?_drop] at e
    have:=hin (k+1+i) (by omega) (by omega)
    simp [List.getD,e] at this
    simp [nq,this]
  . rw [List.getElem?_drop,show k+1+(j-(k+1))=j by omega,List.getElem?_eq_getElem hj]
    simp [List.getD,List.getElem?_eq_getElem hj] at he
    rw [he]
 unfold wlen;rw [hd,if_pos (by simp [h34]),List.tail_cons,hr,if_pos (by simp;omega)]
 congr 1;omega
theorem wl_q0 {l0:Wd}{k j:Nat}(hk:k<l0.length)(hq:l0.getD k 0=34)(hin:∀ i,k+1<=i->i<j->l0.getD i 0≠34)(hj:j=l0.length):wlen (l0.drop k)=none:=by
 have hd:l0.drop k=l0[k]::l0.drop (k+1):=List.drop_eq_getElem_cons hk;have h34:l0[k]=34:=by simpa [List.getD,List.getElem?_eq_getElem hk] using hq
 have hr:run nq (l0.drop (k+1))=(l0.drop (k+1)).length:=by
  refine run_eq (λi c hi e=>?_) (.inl rfl) (Nat.le_refl _)
  rw [List.getElem?_drop] at e
  simp at hi
  have:=hin (k+1+i) (by omega) (by omega)
  simp [List.getD,e] at this
  simp [nq,this]
 unfold wlen;rw [hd,if_pos (by simp [h34]),List.tail_cons,hr,if_neg (by omega)]
theorem wl_run {l0:Wd}{k j:Nat}(hkj:k<=j)(hin:∀ i,k<=i->i<j->l0.getD i 0≠32/\l0.getD i 0≠34)(hj:j=l0.length\/(j<l0.length/\(l0.getD j 0=32\/l0.getD j 0=34)))(hjl:j<=l0.length):run nw (l0.drop k)=j-k:=by
 refine run_eq (λi c hi e=>?_) ?_ (by simp;omega)
 . rw [List.getElem?_drop] at e
   have:=hin (k+i) (by omega) (by omega)
   simp [List.getD,e] at this
   simp [nw,this]
 . rcases hj with h|⟨h,h2⟩
   . left;simp;omega
   . right
     refine ⟨l0.getD j 0,?_,?_⟩
     . rw [List.getElem?_drop,show k+(j-k)=j by omega,List.getElem?_eq_getElem h]
       simp [List.getD,List.getElem?_eq_getElem h]
     . rcases h2 with h2|h2<;>rw [h2]<;>decide
theorem wl_w {l0:Wd}{k j:Nat}(hq:k<l0.length->l0.getD k 0≠34)(hkj:k<=j)(hin:∀ i,k<=i->i<j->l0.getD i 0≠32/\l0.getD i 0≠34)(hj:j=l0.length\/(j<l0.length/\(l0.getD j 0=32\/l0.getD j 0=34)))(hjl:j<=l0.length):wlen (l0.drop k)=if j=k then none else some (j-k):=by
 have hh:(l0.drop k).head?≠some 34:=by
  rw [List.head?_drop]
  intro e
  have hk:k<l0.length:=by
   rcases Nat.lt_or_ge k l0.length with h|h
   . exact h
   . rw [List.getElem?_eq_none h] at e;cases e
  exact hq hk (by simp [List.getD,e])
 unfold wlen;rw [if_neg hh,wl_run hkj hin hj hjl]
 by_cases h:j=k
 . rw [if_pos (by omega),if_pos h]
 . rw [if_neg (by omega),if_neg h]
theorem wm_zero (l0:Wd):Wm l0 0 []:=by
 unfold Wm;rw [List.drop_zero]
 cases Q5 l0<;>rfl
theorem words_c (l0:Wd)(w:World)(hl:l0.length<=1048576):Calls Tryz.prog 41 #[.string (S l0)] w (SwP l0 w):=by
 obtain ⟨i0,hi,hz0,hz1,hz2⟩:=info_parts Tryz.info9;have hz:(S l0).size=l0.length:=Qn l0
 go_enter Tryz.func41,Tryz.ntmps41
 go_wp2
 go_loopw [4,5,6] (λvo vi vj wr=>∃ (k:Nat) (r:List Wd),vi=.int .i64 (k:Int)/\k<=l0.length/\r.length<=k/\Wm l0 k r/\wr.ownsRow w.heap.size 9 1 vo r.length (Sv r)/\Below w.heap.size w wr) (λ_ vi _ _=>l0.length+1-(intOf vi).toNat)
 case atStart=>exact ⟨0,[],rfl,Nat.zero_le _,Nat.le_refl _,wm_zero l0,⟨by simp [Sv],.inr ⟨w.heap.size,0,#[],rfl,Nat.le_refl _,Array.getElem?_push_size,Nat.le_refl _,Nat.zero_le _,rfl,rfl⟩⟩,(Below.refl _ _).alloc (Nat.le_refl _) _⟩
 case round =>
  obtain ⟨k,r,rfl,hk,hrk,hsp,ho,hb⟩:=hrel;have HS:=Hm hsp;have HB:=Hm hb;have hbs:=hb.size;obtain ⟨va,vc,rfl⟩:=JD ho;clear hsp hb
  by_cases hq:k<l0.length/\l0.getD k 0=34
  . obtain ⟨hkl,hc⟩:=hq;have hki:(k:Int)<(l0.length:Int):=by omega
    have hix34:∀ w,(Instr.index 9 (.string (S l0)) (.int .i64 (k:Int))).run Tryz.prog w=.ok (.int .u8 34) w:=λw=>by
     have:=Jg l0 k w hkl
     rw [hc] at this
     exact this
    have w1:IntKind.i64.wrap ((k:Int)+1)=(k:Int)+1:=by rw [IntKind.wrap_i64];omega
    have HC:=Hm hc;clear hc
    go_upto_region 6 with fail
    clear hix34
    go_loop [6] (λvj=>∃ j:Nat,vj=.int .i64 (j:Int)/\k+1<=j/\j<=l0.length/\Hid (∀ i,k+1<=i->i<j->l0.getD i 0≠34)) (λvj=>l0.length-(intOf vj).toNat)
    case atStart=>exact ⟨k+1,(by first|rfl|(congr 1;omega)),by omega,by omega,λi h1 h2=>by omega⟩
    case round =>
     obtain ⟨j,rfl,hj1,hj2,hh⟩:=hrel
     by_cases hjl:j<l0.length
     . have hji:(j:Int)<(l0.length:Int):=by omega
       by_cases hc:l0.getD j 0=34
       . have hge:¬ (l0.length:Int)<=(j:Int):=by omega
         obtain ⟨m,hm⟩:∃ m,m=j+1:=⟨_,rfl⟩;have hwm:IntKind.i64.wrap ((j:Int)+1)=((m:Nat):Int):=by rw [IntKind.wrap_i64];omega
         have HWL:=Hm (show wlen (l0.drop k)=some (m-k) by rw [hm];exact wl_q hkl HC.o hj1 hh.o hjl hc);have hml:m<=l0.length:=by omega
         have hkm:k+2<=m:=by omega
         have hix34:∀ w,(Instr.index 9 (.string (S l0)) (.int .i64 (j:Int))).run Tryz.prog w=.ok (.int .u8 34) w:=λw=>by
          have:=Jg l0 j w hjl
          rw [hc] at this
          exact this
         clear hc hm hh
         by_cases hend:m=l0.length
         . have HR:=Hm (wm_end HS.o HWL.o (by omega) hend);have hi9:((m:Int)==(l0.length:Int))=true:=by simp;omega
           have hsl1:(k:Int)<=(m:Int):=by omega
           clear hend HWL
           go_wp2_with (at_builtin;refine wpList_append_own_at _ rfl _ _ 71 rfl w.heap.size 9 i0 (.string ⟨#[]⟩) 1 16 Tryz.underlying71 hi hz0 hz1 hz2 rfl (by decide) _ _ _ rfl (ho.alloc _) ⟨wr.heap.size,0,none⟩ 1 1 [.string ((S l0).extract k m)] rfl rfl (cell_one_new _ _ _) (oneS _) (by unfold maxLen;omega) (by omega) (by simp;omega) ?_;intro v' w2 hown' hgrow hnn hloc;have HO2:=Hm (And.intro hown' hgrow);obtain ⟨va2,vc2,rfl⟩:=JD hown';clear hown' hgrow hnn hloc)
           go_ret2
           have h4:=HO2.o.1;rw [S_ext] at h4
           exact sw_yes HR.o (HB.o.alloc hbs _ |>.grown HO2.o.2 (by simp;omega) (λj hj=>(ho.lt j hj).1)) h4
         . have hlt:m<l0.length:=by omega
           clear hend
           by_cases h32:l0.getD m 0=32
           . have HR:=Hm (wm_more HS.o HWL.o (by omega) hlt h32);have hi9:¬ (m:Int)=(l0.length:Int):=by omega
             have hsl1:(k:Int)<=(m:Int):=by omega
             have hixe:∀ w,(Instr.index 9 (.string (S l0)) (.int .i64 (m:Int))).run Tryz.prog w=.ok (.int .u8 32) w:=λw=>by
              have:=Jg l0 m w hlt
              rw [h32] at this
              exact this
             have hwj:IntKind.i64.wrap ((m:Int)+1)=(m:Int)+1:=by rw [IntKind.wrap_i64];omega
             clear h32 HWL
             go_wp2_with (at_builtin;refine wpList_append_own_at _ rfl _ _ 71 rfl w.heap.size 9 i0 (.string ⟨#[]⟩) 1 16 Tryz.underlying71 hi hz0 hz1 hz2 rfl (by decide) _ _ _ rfl (ho.alloc _) ⟨wr.heap.size,0,none⟩ 1 1 [.string ((S l0).extract k m)] rfl rfl (cell_one_new _ _ _) (oneS _) (by unfold maxLen;omega) (by omega) (by simp;omega) ?_;intro v' w2 hown' hgrow hnn hloc;have HO2:=Hm (And.intro hown' hgrow);obtain ⟨va2,vc2,rfl⟩:=JD hown';clear hown' hgrow hnn hloc)
             refine ⟨⟨m+1,r++[(l0.take m).drop k],(by first|rfl|(congr 1;omega)),by omega,by simp;omega,HR.o,?_,(HB.o.alloc hbs _ |>.grown HO2.o.2 (by simp;omega) (λj hj=>(ho.lt j hj).1))⟩,by simp [intOf];omega⟩
             have h4:=HO2.o.1;rw [S_ext] at h4;rw [show (r++[(l0.take m).drop k]).length=r.length+1 by simp,Sv_app]
             exact h4
           . have HR:=Hm (wm_bad HS.o HWL.o (by omega) hlt h32);have hi9:¬ (m:Int)=(l0.length:Int):=by omega
             have hsl1:(k:Int)<=(m:Int):=by omega
             have hixj:=λw=>Jg l0 m w hlt;have hne:¬ ((l0.getD m 0).toNat:Int)=32:=λe=>h32 (UInt8.toNat_inj.1 (by have:(32:UInt8).toNat=32:=rfl;omega));generalize (l0.getD m 0).toNat=yn at hixj hne;clear h32 HWL
             go_wp2_with (at_builtin;refine wpList_append_own_at _ rfl _ _ 71 rfl w.heap.size 9 i0 (.string ⟨#[]⟩) 1 16 Tryz.underlying71 hi hz0 hz1 hz2 rfl (by decide) _ _ _ rfl (ho.alloc _) ⟨wr.heap.size,0,none⟩ 1 1 [.string ((S l0).extract k m)] rfl rfl (cell_one_new _ _ _) (oneS _) (by unfold maxLen;omega) (by omega) (by simp;omega) ?_;intro v' w2 hown' hgrow hnn hloc;have HO2:=Hm (And.intro hown' hgrow);obtain ⟨va2,vc2,rfl⟩:=JD hown';clear hown' hgrow hnn hloc)
             go_ret2
             exact sw_no HR.o (HB.o.alloc hbs _ |>.grown HO2.o.2 (by simp;omega) (λj hj=>(ho.lt j hj).1))
       . have hixj:=λw=>Jg l0 j w hjl;have hne:¬ ((l0.getD j 0).toNat:Int)=34:=λe=>hc (UInt8.toNat_inj.1 (by have:(34:UInt8).toNat=34:=rfl;omega))
         have HH:Hid (∀ i,k+1<=i->i<j+1->l0.getD i 0≠34):=λi h1 h2=>by
          by_cases e:i=j
          . rw [e];exact hc
          . exact hh.o i h1 (by omega)
         have w2:IntKind.i64.wrap ((j:Int)+1)=(j:Int)+1:=by rw [IntKind.wrap_i64];omega
         generalize (l0.getD j 0).toNat=yn at hixj hne;clear hc hh
         go_wp2
         exact ⟨⟨j+1,(by first|rfl|(congr 1;omega)),by omega,by omega,HH⟩,by simp [intOf];omega⟩
     . have ej:j=l0.length:=by omega
       have HR:=Hm (wm_none HS.o (wl_q0 hkl HC.o hh.o ej));have hji:¬ (j:Int)<(l0.length:Int):=by omega
       have hge:(l0.length:Int)<=(j:Int):=by omega
       clear ej hh
       go_wp2
       go_ret2
       exact sw_no HR.o HB.o
  . by_cases hkl:k<l0.length
    . have hc:l0.getD k 0≠34:=λe=>hq ⟨hkl,e⟩;have HC:=Hm hc;have hki:(k:Int)<(l0.length:Int):=by omega
      have hixk:=λw=>Jg l0 k w hkl;have hnk:¬ ((l0.getD k 0).toNat:Int)=34:=λe=>hc (UInt8.toNat_inj.1 (by have:(34:UInt8).toNat=34:=rfl;omega));obtain ⟨yk,hyk⟩:∃ yk,yk=(l0.getD k 0).toNat:=⟨_,rfl⟩;rw [<- hyk] at hixk hnk;clear hc hq hyk
      go_upto_region 11 with fail
      clear hixk hnk
      go_loop [6] (λvj=>∃ j:Nat,vj=.int .i64 (j:Int)/\k<=j/\j<=l0.length/\Hid (∀ i,k<=i->i<j->l0.getD i 0≠32/\l0.getD i 0≠34)) (λvj=>l0.length-(intOf vj).toNat)
      case atStart=>exact ⟨k,rfl,by omega,by omega,λi h1 h2=>by omega⟩
      case round =>
       obtain ⟨j,rfl,hj1,hj2,hh⟩:=hrel
       by_cases hjl:j<l0.length
       . have hji:(j:Int)<(l0.length:Int):=by omega
         by_cases hc:l0.getD j 0=32
         . have HWL:=Hm (wl_w (λ_=>HC.o) hj1 hh.o (.inr ⟨hjl,.inl hc⟩) hj2);have h32:=hc
           have hix32:∀ w,(Instr.index 9 (.string (S l0)) (.int .i64 (j:Int))).run Tryz.prog w=.ok (.int .u8 32) w:=λw=>by
            have:=Jg l0 j w hjl
            rw [hc] at this
            exact this
           clear hc hh
           by_cases hjk:j=k
           . have HR:=Hm (wm_none HS.o (HWL.o.trans (if_pos hjk)));have hjki:((j:Int)==(k:Int))=true:=by simp;omega
             clear hjk h32 HWL
             go_wp2
             go_ret2
             exact sw_no HR.o HB.o
           . have HWL:=Hm (HWL.o.trans (if_neg hjk));have hjki:¬ (j:Int)=(k:Int):=by omega
             have hlt:=hjl;have HR:=Hm (wm_more HS.o HWL.o (by omega) hlt h32);have hi9:¬ (j:Int)=(l0.length:Int):=by omega
             have hsl1:(k:Int)<=(j:Int):=by omega
             have hixe2:∀ w,(Instr.index 9 (.string (S l0)) (.int .i64 (j:Int))).run Tryz.prog w=.ok (.int .u8 32) w:=λw=>by
              have:=Jg l0 j w hlt
              rw [h32] at this
              exact this
             have hwj:IntKind.i64.wrap ((j:Int)+1)=(j:Int)+1:=by rw [IntKind.wrap_i64];omega
             clear h32 HWL
             go_wp2_with (at_builtin;refine wpList_append_own_at _ rfl _ _ 71 rfl w.heap.size 9 i0 (.string ⟨#[]⟩) 1 16 Tryz.underlying71 hi hz0 hz1 hz2 rfl (by decide) _ _ _ rfl (ho.alloc _) ⟨wr.heap.size,0,none⟩ 1 1 [.string ((S l0).extract k j)] rfl rfl (cell_one_new _ _ _) (oneS _) (by unfold maxLen;omega) (by omega) (by simp;omega) ?_;intro v' w2 hown' hgrow hnn hloc;have HO2:=Hm (And.intro hown' hgrow);obtain ⟨va2,vc2,rfl⟩:=JD hown';clear hown' hgrow hnn hloc)
             refine ⟨⟨j+1,r++[(l0.take j).drop k],(by first|rfl|(congr 1;omega)),by omega,by simp;omega,HR.o,?_,(HB.o.alloc hbs _ |>.grown HO2.o.2 (by simp;omega) (λj hj=>(ho.lt j hj).1))⟩,by simp [intOf];omega⟩
             have h4:=HO2.o.1;rw [S_ext] at h4;rw [show (r++[(l0.take j).drop k]).length=r.length+1 by simp,Sv_app]
             exact h4
         . by_cases h34:l0.getD j 0=34
           . have HWL:=Hm (wl_w (λ_=>HC.o) hj1 hh.o (.inr ⟨hjl,.inr h34⟩) hj2);have h32:=hc;clear hh
             have hixq:∀ w,(Instr.index 9 (.string (S l0)) (.int .i64 (j:Int))).run Tryz.prog w=.ok (.int .u8 34) w:=λw=>by
              have:=Jg l0 j w hjl
              rw [h34] at this
              exact this
             have hjk:¬ j=k:=λe=>HC.o (by rw [<- e];exact h34);have HWL:=Hm (HWL.o.trans (if_neg hjk));have hjki:¬ (j:Int)=(k:Int):=by omega
             have hlt:=hjl;have HR:=Hm (wm_bad HS.o HWL.o (by omega) hlt h32);have hi9:¬ (j:Int)=(l0.length:Int):=by omega
             have hsl1:(k:Int)<=(j:Int):=by omega
             clear h32 HWL hc h34
             go_wp2_with (at_builtin;refine wpList_append_own_at _ rfl _ _ 71 rfl w.heap.size 9 i0 (.string ⟨#[]⟩) 1 16 Tryz.underlying71 hi hz0 hz1 hz2 rfl (by decide) _ _ _ rfl (ho.alloc _) ⟨wr.heap.size,0,none⟩ 1 1 [.string ((S l0).extract k j)] rfl rfl (cell_one_new _ _ _) (oneS _) (by unfold maxLen;omega) (by omega) (by simp;omega) ?_;intro v' w2 hown' hgrow hnn hloc;have HO2:=Hm (And.intro hown' hgrow);obtain ⟨va2,vc2,rfl⟩:=JD hown';clear hown' hgrow hnn hloc)
             go_ret2
             exact sw_no HR.o (HB.o.alloc hbs _ |>.grown HO2.o.2 (by simp;omega) (λj hj=>(ho.lt j hj).1))
           . have hixj:=λw=>Jg l0 j w hjl;have hne:¬ ((l0.getD j 0).toNat:Int)=32:=λe=>hc (UInt8.toNat_inj.1 (by have:(32:UInt8).toNat=32:=rfl;omega));have hne2:¬ ((l0.getD j 0).toNat:Int)=34:=λe=>h34 (UInt8.toNat_inj.1 (by have:(34:UInt8).toNat=34:=rfl;omega))
             have HH:Hid (∀ i,k<=i->i<j+1->l0.getD i 0≠32/\l0.getD i 0≠34):=λi h1 h2=>by
              by_cases e:i=j
              . rw [e];exact ⟨hc,h34⟩
              . exact hh.o i h1 (by omega)
             have w2:IntKind.i64.wrap ((j:Int)+1)=(j:Int)+1:=by rw [IntKind.wrap_i64];omega
             generalize (l0.getD j 0).toNat=yn at hixj hne hne2;have hb1:((yn:Int) != 32)=true:=by simpa using hne
             have hb2:((yn:Int) != 34)=true:=by simpa using hne2
             clear hc h34 hh hne hne2
             go_wp2
             exact ⟨⟨j+1,(by first|rfl|(congr 1;omega)),by omega,by omega,HH⟩,by simp [intOf];omega⟩
       . have hend:j=l0.length:=by omega
         have HWL:=Hm (wl_w (λ_=>HC.o) hj1 hh.o (.inl hend) hj2);have hjk:¬ j=k:=by omega
         have HWL:=Hm (HWL.o.trans (if_neg hjk));have hji:¬ (j:Int)<(l0.length:Int):=by omega
         have hjki:¬ (j:Int)=(k:Int):=by omega
         clear hh hjl;have HR:=Hm (wm_end HS.o HWL.o (by omega) hend);have hi9:((j:Int)==(l0.length:Int))=true:=by simp;omega
         have hsl1:(k:Int)<=(j:Int):=by omega
         clear hend HWL
         go_wp2_with (at_builtin;refine wpList_append_own_at _ rfl _ _ 71 rfl w.heap.size 9 i0 (.string ⟨#[]⟩) 1 16 Tryz.underlying71 hi hz0 hz1 hz2 rfl (by decide) _ _ _ rfl (ho.alloc _) ⟨wr.heap.size,0,none⟩ 1 1 [.string ((S l0).extract k j)] rfl rfl (cell_one_new _ _ _) (oneS _) (by unfold maxLen;omega) (by omega) (by simp;omega) ?_;intro v' w2 hown' hgrow hnn hloc;have HO2:=Hm (And.intro hown' hgrow);obtain ⟨va2,vc2,rfl⟩:=JD hown';clear hown' hgrow hnn hloc)
         go_ret2
         have h4:=HO2.o.1;rw [S_ext] at h4
         exact sw_yes HR.o (HB.o.alloc hbs _ |>.grown HO2.o.2 (by simp;omega) (λj hj=>(ho.lt j hj).1)) h4
    . have ek:k=l0.length:=by omega
      have HR:=Hm (wm_none HS.o ((wl_w (l0:=l0) (k:=k) (j:=k) (λh=>absurd h hkl) (Nat.le_refl _) (λi h1 h2=>by omega) (.inl ek) hk).trans (if_pos rfl)));have hki:¬ (k:Int)<(l0.length:Int):=by omega
      clear ek hq
      go_upto_region 11 with fail
      go_loop [6] (λvj=>vj=.int .i64 (k:Int)) (λvj=>0)
      case atStart=>exact rfl
      case round =>
       subst hrel
       go_wp2
       go_ret2
       exact sw_no HR.o HB.o
end Go.Proofs.YtipfjdogokanbaaGreatDoor.Yz
set_option linter.all false
namespace Go.Proofs.YtipfjdogokanbaaGreatDoor.Yz
open Go.RowKit Go.Sort
theorem words_len:∀ (n:Nat) (l:Wd) (ws:List Wd),l.length<=n->Q5 l=some ws->ws≠[]/\ws.length<=l.length+1/\∀ x ∈ ws,x.length<=l.length
 |n,l,ws,hn,hw=>by
  rw [Q5] at hw
  cases hj:wlen l with
  |none=>rw [hj] at hw;cases hw
  |some j =>
   rw [hj] at hw
   simp only at hw
   by_cases h:j<l.length
   . rw [dif_pos h] at hw
     split at hw
     . cases hr:Q5 (l.drop (j+1)) with
       |none=>rw [hr] at hw;cases hw
       |some r =>
        rw [hr] at hw
        simp at hw
        subst hw;have hd:(l.drop (j+1)).length=l.length-(j+1):=by simp
        obtain ⟨h0,h1,h2⟩:=words_len (n-1) (l.drop (j+1)) r (by rw [hd];omega) hr;rw [hd] at h1 h2
        refine ⟨by simp,by simp only [List.length_cons];omega,λx hx=>?_⟩
        simp only [List.mem_cons] at hx
        rcases hx with rfl|hx
        . simp;omega
        . have:=h2 x hx;omega
     . cases hw
   . rw [dif_neg h] at hw
     cases hw
     exact ⟨by simp,by simp,λx hx=>by simp at hx;subst hx;exact Nat.le_refl _⟩
termination_by n l=>l.length
decreasing_by simp;omega
def PsP (l:Wd)(w:World)(e:Ending)(w':World):Prop:=∃ (ok:Bool) (x:In) (la:Option Addr) (lc:Nat),e=.returned (itV ok x la lc)/\Has w' la x.l/\Below w.heap.size w w'/\(ok=true->∃ ws,Q5 l=some ws/\Prs ws x)/\(ok=false->x=⟨0,0,0,0,[]⟩/\∀ ws,Q5 l=some ws->¬ ∃ y,Prs ws y)
theorem has_six {V:World}{B:Nat}{la:Option Addr}{xs:List Int}(h:Has V la xs)(hne:∀ p,la=some p->B<p.block)(u0 u1 u2 u3 u4 u5:Value):Has (Six V B u0 u1 u2 u3 u4 u5) la xs:=by
 rcases h with h|⟨b,o,rfl,hc⟩
 . exact .inl h
 . refine .inr ⟨b,o,rfl,λi hi=>?_⟩
   have hb:B<b:=hne _ rfl
   have hh:∀ k,(⟨B,k,none⟩:Addr).block≠(⟨b,o+i,none⟩:Addr).block:=λk=>λe=>by
    have:B=b:=e
    omega
   unfold Six;rw [World.cell?_setCell_other _ _ _ _ (λe=>hh _ (congrArg Addr.block e)),World.cell?_setCell_other _ _ _ _ (λe=>hh _ (congrArg Addr.block e)),World.cell?_setCell_other _ _ _ _ (λe=>hh _ (congrArg Addr.block e)),World.cell?_setCell_other _ _ _ _ (λe=>hh _ (congrArg Addr.block e)),World.cell?_setCell_other _ _ _ _ (λe=>hh _ (congrArg Addr.block e)),World.cell?_setCell_other _ _ _ _ (λe=>hh _ (congrArg Addr.block e))]
   exact hc i hi
theorem has_low {V U:World}{la:Option Addr}{xs:List Int}(h:Has V la xs)(hb:Below V.heap.size V U):Has U la xs:=by
 rcases h with h|⟨b,o,rfl,hc⟩
 . exact .inl h
 . exact .inr ⟨b,o,rfl,λi hi=>(hb.cell (p:=⟨b,o+i,none⟩) (World.block_lt_of_cell? V _ (hc i hi))).trans (hc i hi)⟩
theorem spar_c (a:Option Addr)(c:Nat)(xs:List Int)(w:World)(h:By.Has w a xs)(hl:xs.length<=1048576) :
    Calls Tryz.prog 14 #[.slice a xs.length c] w (PsP (Qv xs) w):=by
 obtain ⟨W,hW⟩:∃ W,W=w.alloc (.cells #[.bool false,.int .i64 0,.int .i64 0,.int .i64 0,.int .u64 0,.slice none 0 0] 33):=⟨_,rfl⟩;have hbW:Below w.heap.size w W:=by rw [hW];exact (Below.refl _ _).alloc (Nat.le_refl _) _
 have hsW:W.heap.size=w.heap.size+1:=by rw [hW];simp
 have hcv:(convert 22 9 (.slice a xs.length c)).run Tryz.prog W=.ok (.string (S (Qv xs))) W:=by
  by_cases hx:xs=[]
  . subst hx
    cases a with
    |none=>exact run_convert_bytes_nil W 22 5 Tryz.underlying22 Tryz.underlying5 _ _ 9 Tryz.underlying9
    |some p=>exact run_convert_bytes_back W 22 9 5 p c [] Tryz.underlying22 Tryz.underlying5 Tryz.underlying9 (λj hj=>by simp at hj)
  . rcases h with h|⟨b,o,rfl,hc⟩
    . exact absurd h hx
    . exact run_convert_bytes_arg W 22 5 Tryz.underlying22 Tryz.underlying5 b o _ c xs rfl (λi hi=>(hbW.cell (p:=⟨b,o+i,none⟩) (World.block_lt_of_cell? w _ (hc i hi))).trans (hc i hi)) 9 Tryz.underlying9
 have h6:C6 W w.heap.size (.bool false) (.int .i64 0) (.int .i64 0) (.int .i64 0) (.int .u64 0) (.slice none 0 0):=by
  rw [hW]
  exact ⟨Qi rfl rfl,Qi rfl rfl,Qi rfl rfl,Qi rfl rfl,Qi rfl rfl,Qi rfl rfl,λi=>World.frozen?_alloc_new w _ _ i⟩
 have hbl:(Qv xs).length<=1048576:=by simpa [Qv] using hl
 have KS:=Hm (words_c (Qv xs) W hbl);have HLE:=Hm (λws=>words_len _ (Qv xs) ws (Nat.le_refl _));have HBL:=Hm hbl;have HBW:=Hm hbW;have H6:=Hm h6;have HW:=Hm hW;have HSW:=Hm hsW;clear h hbW h6 hbl hW hsW;generalize Qv xs=l at *
 go_enter Tryz.func14,Tryz.ntmps14
 go_upto_region 1 with fail
 rw [<- HW.o]
 cases hm:Q5 l with
 |none =>
  have HM:=Hm hm;unfold SwP at KS;rw [hm] at KS;clear hm
  go_wp2_with fail
  refine KS.o.mono ?_
  rintro e w1 ⟨v,rfl,hb1,-⟩;have h6:=H6.o.low hb1 (by have:=HSW.o;omega);have HF:=Hm (h6.fin (HBW.o.trans (hb1.mono (by have:=HSW.o;omega))) (World.ownsRow_nil w1 (w.heap.size+1) 2 1));obtain ⟨z0,z1,z2,z3,z4,z5,zf⟩:=h6;have zf0:=zf 0;have zf1:=zf 1;have zf2:=zf 2;have zf3:=zf 3;have zf4:=zf 4;have zf5:=zf 5;clear zf H6 HBW hb1 HSW KS HLE HBL HW hcv
  go_wp2
  refine Qf (λU=>C6 U w.heap.size (.bool false) (.int .i64 0) (.int .i64 0) (.int .i64 0) (.int .u64 0) (.slice none 0 0)/\Below w.heap.size w U/\U.ownsRow w.heap.size 2 1 (.slice none 0 0) 0 []) (HF.o _ _ _ _ _ _) ?_
  rintro U ⟨⟨t0,t1,t2,t3,t4,t5,-⟩,bU,-⟩;have HU:=Hm bU;clear bU
  exact bodyPost_ret (v:=itV false ⟨0,0,0,0,[]⟩ none 0) (by simp [results,Tryz.results14,go_sem,t0,t1,t2,t3,t4,t5]) rfl ⟨false,⟨0,0,0,0,[]⟩,none,0,rfl,.inl rfl,HU.o,λh=>absurd h (by decide),λ_=>⟨rfl,λws e=>by rw [HM.o] at e;cases e⟩⟩
 |some ws =>
  have HM:=Hm hm;obtain ⟨hpn,hpl,hpw⟩:=HLE.o ws hm;unfold SwP at KS;rw [hm] at KS;have hll:∀ x ∈ ws,x.length<=1099511627776:=λx hx=>by have:=hpw x hx;have:=HBL.o;omega
  have hlp:ws.length<=1099511627776:=by have:=HBL.o;omega
  obtain ⟨s,r,rfl⟩:∃ s r,ws=s::r:=by
   cases ws with
   |nil=>exact absurd rfl hpn
   |cons s r=>exact ⟨s,r,rfl⟩
  have HLL:=Hm hll;clear hm hpl hpw hll
  go_wp2_with fail
  refine KS.o.mono ?_
  rintro e w1 ⟨v,rfl,hb1,hO⟩;obtain ⟨g,gc,rfl,hg,hgc,hw⟩:=own_words (hO _ rfl) hpn;have h6:=H6.o.low hb1 (by have:=HSW.o;omega);have H61:=Hm h6;have HB1:=Hm (HBW.o.trans (hb1.mono (by have:=HSW.o;omega)));have hs1:w.heap.size<w1.heap.size:=by have:=HSW.o;have:=hb1.size;omega
  have HWS:=Hm hw;clear KS hO hb1 hcv H6 HBW HSW HW HLE HBL h6 hw
  go_upto_region 5 with fail
  refine Qj (λU=>Pb U w1.heap.size false/\Below w1.heap.size w1 U) ⟨⟨Qi rfl (by simp),World.frozen?_alloc_new w1 _ _ 19⟩,(Below.refl _ _).alloc (Nat.le_refl _) _⟩ ?_
  rintro U ⟨pU,bU⟩;have KR:=Hm (sri_c w1.heap.size g 0 gc s r U pU hg (λi hi=>(bU.cell (p:=⟨g,0+i,none⟩) hg).trans (HWS.o i hi)) hgc HLL.o (by simp at hlp;omega));have BU:=Hm bU;have hpU:=pU.lt;clear pU bU HWS hgc
  go_wp2_with fail
  refine KR.o.mono ?_
  rintro e w2 ⟨x,la,lc,bd,rfl,hxo,hz,pb,gb,A1,A2⟩;have HPR:=Hm (sip_prs hxo A1 A2);have hb2:Below w1.heap.size w1 w2:=BU.o.trans ((QU gb hpU).mono (Nat.le_refl _));have TX:=Hm (show Pb (w2.alloc (.cells #[.int .i64 x.op,.int .i64 x.a,.int .i64 x.b,.int .u64 x.v,.slice la x.l.length lc] 26)) w1.heap.size bd/\Below w1.heap.size w1 (w2.alloc (.cells #[.int .i64 x.op,.int .i64 x.a,.int .i64 x.b,.int .u64 x.v,.slice la x.l.length lc] 26))/\Has (w2.alloc (.cells #[.int .i64 x.op,.int .i64 x.a,.int .i64 x.b,.int .u64 x.v,.slice la x.l.length lc] 26)) la x.l/\C5 (w2.alloc (.cells #[.int .i64 x.op,.int .i64 x.a,.int .i64 x.b,.int .u64 x.v,.slice la x.l.length lc] 26)) w2.heap.size 0 (.int .i64 x.op) (.int .i64 x.a) (.int .i64 x.b) (.int .u64 x.v) (.slice la x.l.length lc) from ⟨pb.keep ((Below.refl _ _).alloc (Nat.le_refl _) _),hb2.alloc hb2.size _,has_low hz.1 ((Below.refl _ _).alloc (Nat.le_refl _) _),C5.new⟩);have HZ:=Hm hz.2;clear hxo A1 A2 hz pb gb KR hb2 BU
  go_upto_region 6 with fail
  refine Qj (λU=>Pb U w1.heap.size bd/\Below w1.heap.size w1 U/\Has U la x.l/\C5 U w2.heap.size 0 (.int .i64 x.op) (.int .i64 x.a) (.int .i64 x.b) (.int .u64 x.v) (.slice la x.l.length lc)) TX.o ?_
  rintro V ⟨pV,bV,oV,xV⟩;have h6:=H61.o.low bV hs1;have HF:=Hm (h6.fin (HB1.o.trans (bV.mono (Nat.le_of_lt hs1))) (World.ownsRow_nil V (w.heap.size+1) 2 1));have HH:=Hm (λu0 u1 u2 u3 u4 u5=>has_six (B:=w.heap.size) oV (λp e=>by have:=HZ.o p e;omega) u0 u1 u2 u3 u4 u5);obtain ⟨z0,z1,z2,z3,z4,z5,zf⟩:=h6;obtain ⟨⟨x0,x1,x2,x3,x4⟩,-⟩:=xV;obtain ⟨p1,-⟩:=pV
  simp only [Nat.zero_add] at x0 x1 x2 x3 x4
  have zf0:=zf 0;have zf1:=zf 1;have zf2:=zf 2;have zf3:=zf 3;have zf4:=zf 4;have zf5:=zf 5;clear zf TX H61 HB1 bV oV HZ hpU hs1 hlp HLL
  cases bd with
  |true =>
   go_wp2
   refine Qf (λU=>C6 U w.heap.size (.bool false) (.int .i64 0) (.int .i64 0) (.int .i64 0) (.int .u64 0) (.slice none 0 0)/\Below w.heap.size w U/\U.ownsRow w.heap.size 2 1 (.slice none 0 0) 0 []) (HF.o _ _ _ _ _ _) ?_
   rintro U ⟨⟨t0,t1,t2,t3,t4,t5,-⟩,bU,-⟩;have HU:=Hm bU;clear bU
   exact bodyPost_ret (v:=itV false ⟨0,0,0,0,[]⟩ none 0) (by simp [results,Tryz.results14,go_sem,t0,t1,t2,t3,t4,t5]) rfl ⟨false,⟨0,0,0,0,[]⟩,none,0,rfl,.inl rfl,HU.o,λh=>absurd h (by decide),λ_=>⟨rfl,λws e=>by rw [HM.o] at e;cases e;exact HPR.o.2 trivial⟩⟩
  |false =>
   go_wp2
   refine Qf (λU=>(C6 U w.heap.size (.bool true) (.int .i64 x.op) (.int .i64 x.a) (.int .i64 x.b) (.int .u64 x.v) (.slice la x.l.length lc)/\Below w.heap.size w U/\U.ownsRow w.heap.size 2 1 (.slice none 0 0) 0 [])/\Has U la x.l) ⟨HF.o _ _ _ _ _ _,HH.o _ _ _ _ _ _⟩ ?_
   rintro U ⟨⟨⟨t0,t1,t2,t3,t4,t5,-⟩,bU,-⟩,oU⟩;have HU:=Hm (And.intro bU oU);clear bU oU
   exact bodyPost_ret (v:=itV true x la lc) (by simp [results,Tryz.results14,go_sem,t0,t1,t2,t3,t4,t5]) rfl ⟨true,x,la,lc,rfl,HU.o.2,HU.o.1,λ_=>⟨s::r,HM.o,HPR.o.1 trivial⟩,λh=>absurd h (by decide)⟩
end Go.Proofs.YtipfjdogokanbaaGreatDoor.Yz
set_option linter.all false
namespace Go.Proofs.YtipfjdogokanbaaGreatDoor.Yz
open Go.RowKit Go.Sort
def nmL (op:Int):List UInt8:=(Qb op).nm.data.toList
theorem w32_eq (x:Int):wrap32 x=(x+2147483648)%4294967296-2147483648:=by unfold wrap32;rfl
theorem w64_eq (x:Int):wrap64 x=(x+9223372036854775808)%18446744073709551616-9223372036854775808:=by unfold wrap64;rfl
def fld (f:Int)(x:In):List (List UInt8) :=
 if f=1 then (if x.a=64 then [] else [typT x.a]) else if f=2 then [Lib.itoa x.a] else if f=3 then x.l.map Lib.itoa++[Lib.itoa x.a] else if f=4 then [Lib.itoa x.a]
 else if f=5 then [Lib.itoa x.a,Lib.itoa x.b] else if f=7 then [Lib.itoa (wrap32 x.v)] else if f=8 then [Lib.itoa (wrap64 x.v)]
 else if f=9 then [QF 8 x.v.toNat] else if f=10 then [QF 16 x.v.toNat] else []
theorem psplit_join:∀ (n:Nat) (l:Wd),l.length<=n->∃ s r,Q3 l=s::r/\s++tl r=l
 |n,l,hn=>by
  by_cases h:Jd l<l.length
  . obtain ⟨s,r,e1,e2⟩:=psplit_join (n-1) (l.drop (Jd l+1)) (by simp;omega)
    refine ⟨l.take (Jd l),s::r,by rw [Ju h,e1],?_⟩
    rw [XW,List.cons_append,e2];have hat:=end_at l h;rw [List.getElem?_eq_getElem h] at hat
    simp at hat
    rw [<- hat]
    conv=>rhs;rw [<- List.take_append_drop (Jd l) l,List.drop_eq_getElem_cons h]
  . exact ⟨l,[],Jv h,by simp [Gq]⟩
termination_by n l=>l.length
decreasing_by simp;omega
def Pln (t:Wd):Prop:=t≠[]/\(34:UInt8) ∉ t/\(32:UInt8) ∉ t
theorem end_first {s r:Wd}(hs:Pln s)(h:r=[]\/∃ u,r=32::u):Jd (s++r)=s.length:=by
 have hh:(s++r).head?≠some 34:=by
  obtain ⟨h1,h2,h3⟩:=hs
  cases s with
  |nil=>exact absurd rfl h1
  |cons a s =>
   intro e
   simp at e
   exact h2 (by simp [e])
 have hno:∀ k:Nat,k<s.length->(s++r)[k]?≠some 32:=λk hk e=>by
  rw [List.getElem?_append_left hk] at e
  exact hs.2.2 (List.mem_of_getElem? e)
 rcases end_plain hh with ⟨e1,e2⟩|⟨e1,e2⟩
 . rcases h with rfl|⟨u,rfl⟩
   . simpa using e1
   . exact absurd (by rw [List.getElem?_append_right (Nat.le_refl _)];simp) (e2 s.length)
 . rcases Nat.lt_trichotomy (Jd (s++r)) s.length with h1|h1|h1
   . exact absurd e1 (hno _ h1)
   . exact h1
   . rcases h with rfl|⟨u,rfl⟩
     . have:=end_le (s++[]);simp at this h1;omega
     . exact absurd (by rw [List.getElem?_append_right (Nat.le_refl _)];simp) (e2 s.length h1)
theorem split_join:∀ (r:List Wd) (s:Wd),Pln s->(∀ t ∈ r,Pln t)->Q3 (s++tl r)=s::r
 |[],s,hs,_=>by
  rw [Gq,List.append_nil]
  have:=end_first (r:=[]) hs (.inl rfl)
  rw [List.append_nil] at this
  exact Jv (by omega)
 |t::r,s,hs,hr=>by
  have he:=end_first (r:=tl (t::r)) hs (.inr ⟨t++tl r,by rw [XW];rfl⟩);have hlt:Jd (s++tl (t::r))<(s++tl (t::r)).length:=by rw [he,XW];simp
  rw [Ju hlt,he,List.take_left]
  congr 1
  have ih:=split_join r t (hr t (by simp)) (λu hu=>hr u (by simp [hu]))
  have hd:(s++tl (t::r)).drop (s.length+1)=t++tl r:=by
   rw [XW,<- List.drop_drop,List.drop_left]
   rfl
  rw [hd,ih]
end Go.Proofs.YtipfjdogokanbaaGreatDoor.Yz
set_option linter.all false
namespace Go.Proofs.YtipfjdogokanbaaGreatDoor.Yz
open Go.RowKit Go.Sort
theorem u32I (x:Int):Ji x=true ↔ 0<=x/\x<=4294967295:=by simp [Ji]
theorem nm32 (s:Wd)(v:Int):Nm 0 4294967295 s v ↔ (s=Lib.itoa v/\Ji v=true):=by
 rw [nm_iff _ _ _ _ (by decide) (by decide),u32I]
 exact ⟨λ⟨a,b,c⟩=>⟨a.symm,b,c⟩,λ⟨a,b,c⟩=>⟨a.symm,b,c⟩⟩
theorem nms_fld:∀ (ss:List Wd) (vs:List Int),Nms ss vs ↔ (ss=vs.map Lib.itoa/\vs.all Ji=true)
 |[],[]=>by simp [Nms]
 |[],_::_=>by simp [Nms]
 |_::_,[]=>by simp [Nms]
 |s::ss,v::vs=>by
  simp only [Nms,List.map_cons,List.cons.injEq,List.all_cons,Bool.and_eq_true]
  rw [nm32,nms_fld ss vs]
  constructor
  . rintro ⟨⟨a,b⟩,c,d⟩;exact ⟨⟨a,c⟩,b,d⟩
  . rintro ⟨⟨a,c⟩,b,d⟩;exact ⟨⟨a,b⟩,c,d⟩
theorem ty_typ {t:Wd}(h:tyN t≠0):t=typT (tyN t)/\tyB (tyN t)=true/\tyN t≠64:=by
 unfold tyN at h⊢
 split
 . rename_i e;subst e;decide
 . split
   . rename_i e;subst e;decide
   . split
     . rename_i e;subst e;decide
     . split
       . rename_i e;subst e;decide
       . simp_all
theorem typ_ty {a:Int}(h:tyB a=true):tyN (typT a)=a/\a≠64:=by
 have h':124<=a/\a<=127:=by simpa [tyB] using h
 have:a=124\/a=125\/a=126\/a=127:=by omega
 rcases this with rfl|rfl|rfl|rfl<;>decide
theorem arg_to (f:Int)(r:List Wd)(x:In)(h0:0<=f)(h10:f<=10)(h:Arg f r x):Qg f x=true/\0<=x.v/\x.v<=18446744073709551615/\r=fld f x:=by
 obtain ⟨op,a,b,v,l⟩:=x;have hf:f=0\/f=1\/f=2\/f=3\/f=4\/f=5\/f=6\/f=7\/f=8\/f=9\/f=10:=by omega
 rcases hf with rfl|rfl|rfl|rfl|rfl|rfl|rfl|rfl|rfl|rfl|rfl
 . simp [Arg] at h
   obtain ⟨rfl,rfl,rfl,rfl,rfl⟩:=h
   simp [Qg,fld]
 . simp [Arg] at h
   rcases h with ⟨rfl,rfl,rfl,rfl,rfl⟩|⟨t,rfl,hn,rfl,rfl,rfl,rfl⟩
   . simp [Qg,fld]
   . obtain ⟨e1,e2,e3⟩:=ty_typ hn
     simp [Qg,fld,e2,e3,<- e1]
 . simp [Arg] at h
   obtain ⟨s,rfl,v',hn,rfl,rfl,rfl,rfl⟩:=h;rw [nm32] at hn
   simp [Qg,fld,hn]
 . simp [Arg] at h
   obtain ⟨ss,s,rfl,vs,hs,v',hn,rfl,rfl,rfl,rfl⟩:=h;rw [nms_fld] at hs;rw [nm32] at hn
   refine ⟨?_,by simp,by simp,?_⟩
   . simp only [Qg]
     simp [hn.2]
     have:=hs.2
     simpa using this
   . simp [fld,hs.1,hn.1]
 . simp [Arg] at h
   obtain ⟨s,rfl,v',hn,rfl,rfl,rfl,rfl⟩:=h;rw [nm32] at hn
   simp [Qg,fld,hn]
 . simp [Arg] at h
   obtain ⟨s,t,rfl,v',hn,u,hm,rfl,rfl,rfl,rfl⟩:=h;rw [nm32] at hn hm
   simp [Qg,fld,hn,hm]
 . simp [Arg] at h
   obtain ⟨rfl,rfl,rfl,rfl,rfl⟩:=h
   simp [Qg,fld]
 . simp [Arg] at h
   obtain ⟨s,rfl,v',hn,rfl,rfl,rfl,rfl⟩:=h;rw [nm_iff _ _ _ _ (by decide) (by decide)] at hn;obtain ⟨rfl,h1,h2⟩:=hn
   refine ⟨?_,by simp only;omega,by simp only;omega,?_⟩
   . simp [Qg];omega
   . have:wrap32 (v'%4294967296)=v':=by rw [w32_eq];omega
     simp [fld,this]
 . simp [Arg] at h
   obtain ⟨s,rfl,v',hn,rfl,rfl,rfl,rfl⟩:=h;rw [nm_iff _ _ _ _ (by decide) (by decide)] at hn;obtain ⟨rfl,h1,h2⟩:=hn
   refine ⟨?_,by simp only;omega,by simp only;omega,?_⟩
   . simp [Qg]
   . have:wrap64 (v'%18446744073709551616)=v':=by rw [w64_eq];omega
     simp [fld,this]
 . simp [Arg] at h
   obtain ⟨s,rfl,hb,u,h1,h2,rfl,rfl,rfl,rfl⟩:=h
   refine ⟨by simp [Qg];omega,by simp only;omega,by simp only;omega,by simp [fld,h2]⟩
 . simp [Arg] at h
   obtain ⟨s,rfl,hb,u,h1,h2,rfl,rfl,rfl,rfl⟩:=h
   refine ⟨by simp [Qg],by simp only;omega,by simp only;omega,by simp [fld,h2]⟩
theorem arg_of (f:Int)(x:In)(h:Qg f x=true)(hv0:0<=x.v)(hv1:x.v<=18446744073709551615):Arg f (fld f x) x:=by
 obtain ⟨op,a,b,v,l⟩:=x
 simp only at hv0 hv1
 have hf:f=0\/f=1\/f=2\/f=3\/f=4\/f=5\/f=6\/f=7\/f=8\/f=9\/f=10:=by
  unfold Qg at h
  split at h
  . omega
  . split at h
    . omega
    . split at h
      . omega
      . split at h
        . omega
        . split at h
          . omega
          . split at h
            . omega
            . split at h
              . omega
              . cases h
 rcases hf with rfl|rfl|rfl|rfl|rfl|rfl|rfl|rfl|rfl|rfl|rfl
 . simp [Qg] at h
   obtain ⟨⟨⟨rfl,rfl⟩,rfl⟩,rfl⟩:=h
   simp [Arg,fld]
 . simp [Qg] at h
   obtain ⟨⟨⟨h1,rfl⟩,rfl⟩,rfl⟩:=h
   rcases h1 with rfl|h1
   . simp [Arg,fld]
   . obtain ⟨e1,e2⟩:=typ_ty h1;have h124:124<=a/\a<=127:=by simpa [tyB] using h1
     simp [Arg,fld,e2,e1]
     omega
 . simp [Qg] at h
   obtain ⟨⟨⟨h1,rfl⟩,rfl⟩,rfl⟩:=h
   simp [Arg,fld,nm32,h1]
 . simp only [Qg] at h
   simp at h
   obtain ⟨⟨⟨h1,h2⟩,rfl⟩,rfl⟩:=h
   simp only [Arg,fld]
   simp
   exact ⟨l.map Lib.itoa,Lib.itoa a,⟨rfl,rfl⟩,l,(nms_fld _ _).2 ⟨rfl,by simpa using h1⟩,a,(nm32 _ _).2 ⟨rfl,h2⟩,rfl,rfl⟩
 . simp [Qg] at h
   obtain ⟨⟨⟨h1,rfl⟩,rfl⟩,rfl⟩:=h
   simp [Arg,fld,nm32,h1]
 . simp [Qg] at h
   obtain ⟨⟨⟨h1,h2⟩,rfl⟩,rfl⟩:=h
   simp [Arg,fld,nm32,h1,h2]
 . simp [Qg] at h
   obtain ⟨⟨⟨rfl,rfl⟩,rfl⟩,rfl⟩:=h
   simp [Arg,fld]
 . simp [Qg] at h
   obtain ⟨⟨⟨rfl,rfl⟩,h1⟩,rfl⟩:=h
   simp [Arg,fld]
   refine ⟨wrap32 v,(nm_iff _ _ _ _ (by decide) (by decide)).2 ⟨rfl,by rw [w32_eq];omega,by rw [w32_eq];omega⟩,by rw [w32_eq];omega⟩
 . simp [Qg] at h
   obtain ⟨⟨rfl,rfl⟩,rfl⟩:=h
   simp [Arg,fld]
   refine ⟨wrap64 v,(nm_iff _ _ _ _ (by decide) (by decide)).2 ⟨rfl,by rw [w64_eq];omega,by rw [w64_eq];omega⟩,by rw [w64_eq];omega⟩
 . simp [Qg] at h
   obtain ⟨⟨⟨rfl,rfl⟩,h1⟩,rfl⟩:=h
   have hb:okB 8 4294967295 (QF 8 v.toNat)=true:=by
    rw [okB_iff 8 4294967295 _ (by decide) (by decide) (by decide),(Xm 8 _ v.toNat).2 ⟨by omega,rfl⟩];rfl
   simp [Arg,fld,hb]
   exact ⟨v.toNat,by omega,rfl,by omega⟩
 . simp [Qg] at h
   obtain ⟨⟨rfl,rfl⟩,rfl⟩:=h
   have hb:okB 16 18446744073709551615 (QF 16 v.toNat)=true:=by
    rw [okB_iff 16 18446744073709551615 _ (by decide) (by decide) (by decide),(Xm 16 _ v.toNat).2 ⟨by omega,rfl⟩];rfl
   simp [Arg,fld,hb]
   exact ⟨v.toNat,by omega,rfl,by omega⟩
end Go.Proofs.YtipfjdogokanbaaGreatDoor.Yz
set_option linter.all false
namespace Go.Proofs.YtipfjdogokanbaaGreatDoor.Yz
open Go.RowKit Go.Sort
theorem decD_no (u:Nat):(32:UInt8) ∉ Lib.decDigits u:=by
 induction u using Nat.strongRecOn with
 |_ u ih =>
  have hd:∀ i,i<10->(32:UInt8)≠UInt8.ofNat (48+i):=by
   have:∀ i:Fin 10,(32:UInt8)≠UInt8.ofNat (48+i.val):=by decide
   exact λi hi=>this ⟨i,hi⟩
  rw [Lib.decDigits]
  split
  . rename_i h;simp only [List.mem_singleton];exact hd u h
  . rename_i h
    simp only [List.mem_append,List.mem_singleton,not_or]
    exact ⟨ih (u / 10) (by omega),hd _ (by omega)⟩
theorem Gb (v:Int):Pln (Lib.itoa v):=by
 refine ⟨(itoa_cln v).1,(itoa_cln v).2,?_⟩
 unfold Lib.itoa
 split
 . have:=decD_no v.natAbs
   simp;exact this
 . exact decD_no _
theorem hexN_no:∀ (n u:Nat),(32:UInt8) ∉ Jo n u
 |0,_=>by simp [Jo]
 |n+1,u=>by
  have hd:∀ i:Fin 16,(32:UInt8)≠hx i.val:=by decide
  rw [Jo]
  simp only [List.mem_append,List.mem_singleton,not_or]
  exact ⟨hexN_no n _,hd ⟨u%16,by omega⟩⟩
theorem bits_pln (n u:Nat):Pln (QF n u):=⟨(bits_cln n u).1,(bits_cln n u).2,by
 unfold QF
 simp only [List.mem_append,not_or]
 exact ⟨by decide,hexN_no n u⟩⟩
theorem typ_pln (a:Int):Pln (typT a):=by
 unfold typT
 split
 . exact ⟨by decide,by decide,by decide⟩
 . split
   . exact ⟨by decide,by decide,by decide⟩
   . split
     . exact ⟨by decide,by decide,by decide⟩
     . exact ⟨by decide,by decide,by decide⟩
theorem fld_pln (f:Int)(x:In):∀ t ∈ fld f x,Pln t:=by
 intro t ht
 unfold fld at ht
 repeat' split at ht
 all_goals simp at ht
 . rw [ht];exact typ_pln _
 . rw [ht];exact Gb _
 . rcases ht with ⟨a,_,rfl⟩|rfl<;>exact Gb _
 . rw [ht];exact Gb _
 . rcases ht with rfl|rfl<;>exact Gb _
 . rw [ht];exact Gb _
 . rw [ht];exact Gb _
 . rw [ht];exact bits_pln _ _
 . rw [ht];exact bits_pln _ _
theorem name_pln (op:Int)(h:0<=Qd (Qb op)):Pln (nmL op)/\Qz (nmL op)=op/\0<=op:=by
 have hr:0<=op/\op<192:=by
  by_cases hc:0<=op/\op<192
  . exact hc
  . have er:Qb op=Z0:=by simp only [Qb,hc,if_false]
    rw [er] at h
    exact absurd h (by decide)
 have er:Qb op=tbl.getD op.toNat Z0:=by simp only [Qb,hr,and_self,if_true]
 have e:=of_decide_eq_true (rng 0 192 (λi=>decide (0<=Qd (tbl.getD i Z0)->(tbl.getD i Z0).nm.data.toList≠[]/\(34:UInt8) ∉ (tbl.getD i Z0).nm.data.toList/\(32:UInt8) ∉ (tbl.getD i Z0).nm.data.toList)) (by decide +kernel) op (by omega) (by omega));rw [<- er] at e;have hp:=e h
 refine ⟨hp,?_,hr.1⟩
 obtain ⟨j,rfl⟩:=Int.eq_ofNat_of_zero_le hr.1;have hf:=find_at j (nmL (j:Int)) (show (nm j).data.toList=nmL (j:Int) from rfl) hp.1 192 (by omega) (by omega)
 simp [Qz,hf]
def gd (x:In):Bool:=Qg (Qd (Qb x.op)) x
theorem gd_form {x:In}(h:gd x=true):0<=Qd (Qb x.op):=by
 rcases QA x.op with e|e|e|e|e|e|e|e|e|e|e|e
 . unfold gd at h;rw [e] at h;simp [Qg] at h
 all_goals omega
def lnX (x:In):List UInt8:=nmL x.op++tl (fld (Qd (Qb x.op)) x)
theorem prs_line (x:In)(h:gd x=true)(hv0:0<=x.v)(hv1:x.v<=18446744073709551615):Prs (Q3 (lnX x)) x:=by
 have hf:=gd_form h;obtain ⟨hp,hc,h0⟩:=name_pln x.op hf;unfold lnX;rw [split_join _ _ hp (fld_pln _ _)]
 exact ⟨_,_,rfl,h0,hc,arg_of _ _ h hv0 hv1⟩
theorem line_prs (l:Wd)(x:In)(h:Prs (Q3 l) x):gd x=true/\0<=x.v/\x.v<=18446744073709551615/\lnX x=l:=by
 obtain ⟨s,r,e1,e2⟩:=psplit_join l.length l (Nat.le_refl _);obtain ⟨s',r',e3,h0,hc,ha⟩:=h;rw [e1] at e3
 cases e3
 obtain ⟨j1,j,j2,j3,j4,j5⟩:=code_form s (by rw [hc];exact h0);rw [hc] at j1 j2
 have h10:Qd (Qb x.op)<=10:=by
  rcases QA x.op with e|e|e|e|e|e|e|e|e|e|e|e<;>omega
 obtain ⟨k1,k2,k3,k4⟩:=arg_to _ r x j1 h10 ha
 refine ⟨k1,k2,k3,?_⟩
 unfold lnX;rw [<- k4,show nmL x.op=s by rw [j2];exact j4,e2]
end Go.Proofs.YtipfjdogokanbaaGreatDoor.Yz
set_option linter.all false
set_option linter.all false
namespace Go.Proofs.YtipfjdogokanbaaGreatDoor.Yz
open Go.RowKit Go.Sort
theorem arg_len {f:Int}{r:List Wd}{x:In}(h:Arg f r x):x.l.length<=r.length:=by
 have nl:∀ (ss:List Wd) (vs:List Int),Nms ss vs->vs.length=ss.length:=by
  intro ss
  induction ss with
  |nil=>intro vs h;cases vs with
   |nil=>rfl
   |cons v vs=>exact h.elim
  |cons s ss ih=>intro vs h;cases vs with
   |nil=>exact h.elim
   |cons v vs=>simp [ih vs h.2]
 unfold Arg at h
 split at h
 . rcases h with ⟨_,h⟩|⟨t,_,_,h⟩<;>rw [h]<;>simp
 . split at h
   . obtain ⟨s,v,_,_,h⟩:=h;rw [h];simp
   . split at h
     . obtain ⟨ss,s,vs,v,rfl,hn,_,h⟩:=h;rw [h];have:=nl ss vs hn;simp;omega
     . split at h
       . obtain ⟨s,t,v,u,_,_,_,h⟩:=h;rw [h];simp
       . split at h
         . obtain ⟨s,v,_,_,h⟩:=h;rw [h];simp
         . split at h
           . obtain ⟨s,v,_,_,h⟩:=h;rw [h];simp
           . split at h
             . obtain ⟨s,u,_,_,_,_,h⟩:=h;rw [h];simp
             . split at h
               . obtain ⟨s,u,_,_,_,_,h⟩:=h;rw [h];simp
               . rw [h.2];simp
theorem prs_len {ws:List Wd}{x:In}(h:Prs ws x):x.l.length<=ws.length:=by
 obtain ⟨s,r,rfl,_,_,ha⟩:=h
 have:=arg_len ha
 simp;omega
theorem one_ans (l:Wd)(hl:l.length<=1048576):∃ (ok:Bool) (x:In),x.l.length<=1099511627776 /\
    (∀ ok1 x1,(ok1=true->Prs (Q3 l) x1)->(ok1=false->x1=⟨0,0,0,0,[]⟩/\¬ ∃ y,Prs (Q3 l) y)->ok1=ok/\x1=x) /\
    (∀ ok0 x0,(ok0=true->∃ ws,Q5 l=some ws/\Prs ws x0)->(ok0=false->x0=⟨0,0,0,0,[]⟩/\∀ ws,Q5 l=some ws->¬ ∃ y,Prs ws y)->ok0=ok/\x0=x):=by
 by_cases h:∃ y,Prs (Q3 l) y
 . obtain ⟨y,hy⟩:=h;have hw:=words_cln l.length l (Nat.le_refl _) (prs_cln hy)
   refine ⟨true,y,?_,λok1 x1 h1 h2=>?_,λok0 x0 h1 h2=>?_⟩
   . have:=prs_len hy
     have:=(XI l.length l (Nat.le_refl _)).1
     omega
   . cases ok1 with
     |true=>exact ⟨rfl,prs_uniq (h1 rfl) hy⟩
     |false=>exact absurd ⟨y,hy⟩ (h2 rfl).2
   . cases ok0 with
     |true =>
      obtain ⟨ws,e,hx⟩:=h1 rfl;rw [hw] at e
      cases e
      exact ⟨rfl,prs_uniq hx hy⟩
     |false=>exact absurd ⟨y,hy⟩ ((h2 rfl).2 _ hw)
 . refine ⟨false,⟨0,0,0,0,[]⟩,by simp,λok1 x1 h1 h2=>?_,λok0 x0 h1 h2=>?_⟩
   . cases ok1 with
     |true=>exact absurd ⟨x1,h1 rfl⟩ h
     |false=>exact ⟨rfl,(h2 rfl).1⟩
   . cases ok0 with
     |true =>
      obtain ⟨ws,e,hx⟩:=h1 rfl
      have:=words_back l.length l ws (Nat.le_refl _) e (prs_cln hx)
      rw [<- this] at hx
      exact absurd ⟨x0,hx⟩ h
     |false=>exact ⟨rfl,(h2 rfl).1⟩
theorem prs_bd (l:Wd)(x:In)(h:Prs (Q3 l) x):x.l.length<=l.length+1:=by
 have:=prs_len h
 have:=(XI l.length l (Nat.le_refl _)).1
 omega
end Go.Proofs.YtipfjdogokanbaaGreatDoor.Yz
