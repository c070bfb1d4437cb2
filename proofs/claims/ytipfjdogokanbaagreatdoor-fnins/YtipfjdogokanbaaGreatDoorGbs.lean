import Derived.Test.YtipfjdogokanbaaGreatDoorGaa
import Derived.Test.YtipfjdogokanbaaGreatDoorGaw
import Derived.Maps.Own
import Derived.Maps.OwnOps
import Derived.Maps.OwnSet
set_option linter.all false
set_option maxHeartbeats 400000000
set_option maxRecDepth 100000
set_option linter.all false
namespace Go.Proofs.YtipfjdogokanbaaGreatDoor
open Go.RowKit Go.WideMaps Go.Maps
def nm (k:Nat):ByteArray:=(Qb k).nm
def Xu:Nat->List UInt8->Option Nat
|0,_=>none
|k+1,s=>if (nm k).data.toList=s/\s≠[] then some k else Xu k s
def Good (D:DataW Unit)(k:Nat):Prop:=IsMap D/\∀ s,has D (.string s)=(Xu k s).isSome/\∀ z,D.atKey (.string s) z=(match Xu k s with|some j=>.lit (.int .i64 (j:Int))|none=>z)
theorem Good.start:Good (.map []) 0:=⟨isMap_empty,λs=>⟨rfl,λz=>rfl⟩⟩
theorem Good.put {D:DataW Unit}{k:Nat}(h:Good D k)(hn:(nm k).data.toList≠[]):Good (D.put (.string (nm k).data.toList) (.lit (.int .i64 (k:Int)))) (k+1):=by
 refine ⟨h.1.put _ _,λs=>?_⟩
 by_cases e:(nm k).data.toList=s
 . have hf:Xu (k+1) s=some k:=by simp only [Xu,e];rw [if_pos ⟨trivial,e ▸ hn⟩]
   rw [hf,e]
   exact ⟨has_put_same h.1 (by simp [WideAt.IsKeyLit]) _,λz=>atKey_put_same h.1 (by simp [WideAt.IsKeyLit]) _ _⟩
 . have hf:Xu (k+1) s=Xu k s:=by simp only [Xu];rw [if_neg (λx=>e x.1)]
   have hne:(Lit.string s)≠Lit.string (nm k).data.toList:=λx=>e (by injection x with x;exact x.symm);rw [hf]
   exact ⟨(has_put_other hne _).trans (h.2 s).1,λz=>(atKey_put_other hne _ _).trans ((h.2 s).2 z)⟩
theorem Good.skip {D:DataW Unit}{k:Nat}(h:Good D k)(hn:(nm k).data.toList=[]):Good D (k+1):=by
 refine ⟨h.1,λs=>?_⟩
 have hf:Xu (k+1) s=Xu k s:=by
  simp only [Xu];rw [if_neg];rintro ⟨a,b⟩;exact b (a ▸ hn)
 rw [hf];exact h.2 s
theorem owns_below {P:Program}{kt:TypeId}{R:Value->Option (DataW Unit × List MemPlace)}{b n:Nat}{D:DataW Unit}{w w':World}(h:w.ownsMap P kt R b n D)(hb:b<w.heap.size)(hB:Below w.heap.size w w'):w'.ownsMap P kt R b n D:=by
 obtain ⟨es,clock,e,r⟩:=h
 exact ⟨es,clock,(hB.block b hb).trans e,r⟩
theorem owns_more {P:Program}{kt:TypeId}{R:Value->Option (DataW Unit × List MemPlace)}{b n:Nat}{D:DataW Unit}{w:World}(h:w.ownsMap P kt R b n D):w.ownsMap P kt R b (n+1) D:=by
 obtain ⟨es,clock,e,r1,r2,r3⟩:=h
 exact ⟨es,clock,e,r1,by omega,r3⟩
theorem owns_lt {P:Program}{kt:TypeId}{R:Value->Option (DataW Unit × List MemPlace)}{b n:Nat}{D:DataW Unit}{w:World}(h:w.ownsMap P kt R b n D):b<w.heap.size:=by
 obtain ⟨es,clock,e,r⟩:=h
 rcases Nat.lt_or_ge b w.heap.size with h'|h'
 . exact h'
 . rw [Array.getElem?_eq_none h'] at e;cases e
theorem law9:Keyed Tryz.prog 9:=string_keyed Tryz.underlying9
theorem zero2 (w:World):(zeroValue 2).run Tryz.prog w=.ok (.int .i64 0) w:=by kernel_rfl
theorem nm_size (k:Nat):(nm k).size<=100:=by
 by_cases h:k<192
 . have e:=of_decide_eq_true (rng 0 192 (λi=>decide ((tbl.getD i Z0).nm.size<=100)) (by decide +kernel) (k:Int) (by omega) (by omega))
   simpa only [nm,Qb,show (0:Int)<=k/\(k:Int)<192 by omega,and_self,if_true] using e
 . simp only [nm,Qb,show ¬ ((0:Int)<=k/\(k:Int)<192) by omega,if_false];decide
abbrev mapT:TypeId:=137
theorem opNames_c (w:World):Calls Tryz.prog 80 #[] w λe w'=>∃ D:DataW Unit,e=.returned (.map (some w.heap.size))/\w'.ownsMap Tryz.prog 9 (plainElem Tryz.prog 2) w.heap.size 192 D/\Good D 192/\Below w.heap.size w w':=by
 have hmm:=@run_makeMap Tryz.prog
 go_enter Tryz.func80,Tryz.ntmps80
 go_wp2
 go_loopw [5] (λi wr=>∃ k:Nat,k<=192/\i=.int .i64 k/\∃ D:DataW Unit,wr.ownsMap Tryz.prog 9 (plainElem Tryz.prog 2) w.heap.size k D/\Good D k/\Below w.heap.size w wr)
  (λi _=>192-(intOf i).toNat)
 case atStart=>exact ⟨0,Nat.zero_le _,rfl,.map [],World.ownsMap_made _ _ _ _,Good.start,(Below.refl _ _).alloc (Nat.le_refl _) _⟩
 case round =>
  obtain ⟨k,hk,rfl,D,hown,hgood,hnx⟩:=hrel
  by_cases hlt:k<192
  . have hki:(k:Int)<192:=by omega
    have hlo:=owns_lt hown;obtain ⟨s,hs⟩:∃ s,s=(Qb (k:Int)).nm:=⟨_,rfl⟩;have hc:=Hm (iname_c (k:Int) wr);rw [<- hs] at hc;have hsz:s.size<=100:=by rw [hs];exact nm_size k
    have hkey:keyOf Tryz.prog 9 (.string s)=some (.string s.data.toList):=keyOf_string_mk Tryz.underlying9 (by unfold maxLen;omega);have hnm:nm k=s:=hs.symm;clear hs
    by_cases he:s.data.toList=[]
    . have h0:s.toList.isEmpty=true:=by rw [ByteArray.toList_eq,he];rfl
      have hg1:=hgood.skip (by rw [hnm];exact he);clear he
      go_wp2_with fail
      refine hc.o.mono ?_
      rintro e w1 ⟨rfl,hb⟩;have hown1:=owns_below hown hlo hb;have hnx1:Below w.heap.size w w1:=hnx.trans (hb.mono (by omega));clear hb hnx hown hgood
      go_wp2
      go_roundw
      case rel=>exact ⟨k+1,by omega,by go_num,D,owns_more hown1,hg1,hnx1⟩
      case measure=>simp [intOf];omega
    . have h0:s.toList.isEmpty=false:=by rw [ByteArray.toList_eq];simpa using he
      have hg1:=hgood.put (by rw [hnm];exact he);rw [hnm] at hg1;clear he
      go_wp2_with fail
      refine hc.o.mono ?_
      rintro e w1 ⟨rfl,hb⟩;have hown1:=owns_below hown hlo hb;have hnx1:Below w.heap.size w w1:=hnx.trans (hb.mono (by omega));clear hb hnx hown hgood
      go_wp2_with (first
      |(at_mapUpdate;refine wpList_mapUpdate_own _ rfl _ _ _ mapT rfl 9 2 law9 Tryz.underlying137 _ w.heap.size k _ rfl hown1 (by unfold maxLen;omega) _ _ _ rfl rfl hkey _ [] (plainElem_int Tryz.underlying2 (WalkArith.wf_i64 (by omega))) ?_)
       | go_in)
      intro w2 hown2 hgrow2
      have hnx2:=hnx1.grown hgrow2 hnx1.size (λj hj=>by cases hj;exact Nat.le_refl _);clear hown1 hnx1 hgrow2
      go_wp2
      go_roundw
      case rel=>exact ⟨k+1,by omega,by go_num,_,hown2,hg1,hnx2⟩
      case measure=>simp [intOf];omega
  . have hk2:k=192:=by omega
    subst hk2
    go_wp2
    go_ret
    exact ⟨D,rfl,hown,hgood,hnx⟩
end Go.Proofs.YtipfjdogokanbaaGreatDoor
set_option linter.all false
namespace Go.Proofs.YtipfjdogokanbaaGreatDoor
open Go.RowKit Go.WideMaps Go.Maps
def Qz (s:List UInt8):Int:=match Xu 192 s with|some j=>(j:Int)|none=>-1
theorem icode_c (s:ByteArray)(w:World)(hs:s.size<=maxLen):Calls Tryz.prog 28 #[.string s] w λe w'=>e=.returned (.int .i64 (Qz s.data.toList))/\Below w.heap.size w w':=by
 have hkey:keyOf Tryz.prog 9 (.string s)=some (.string s.data.toList):=keyOf_string_mk Tryz.underlying9 hs
 cases hf:Xu 192 s.data.toList with
|none =>
  have hcI:Qz s.data.toList=-1:=by simp [Qz,hf]
  rw [hcI]
  go_enter Tryz.func28,Tryz.ntmps28
  go_wp2_with fail
  refine (opNames_c w).mono ?_
  rintro e w1 ⟨D,rfl,hown,hgood,hb⟩;have h1:=(hgood.2 s.data.toList).1;rw [hf] at h1
  go_wp2_with (first
  |(at_lookup;refine wpList_lookup_own_ok_int _ rfl _ _ mapT rfl 9 2 .i64 law9 Tryz.underlying137 Tryz.underlying2 (zero2 _) w.heap.size 192 _ rfl hown _ _ rfl hkey ?_;intro c hat hwc;rw [h1])
   | go_in)
  go_ret
  exact ⟨rfl,hb⟩
|some j =>
  have hcI:Qz s.data.toList=j:=by simp [Qz,hf]
  rw [hcI]
  go_enter Tryz.func28,Tryz.ntmps28
  go_wp2_with fail
  refine (opNames_c w).mono ?_
  rintro e w1 ⟨D,rfl,hown,hgood,hb⟩;have h1:=(hgood.2 s.data.toList).1;have h2:=(hgood.2 s.data.toList).2 (.lit (.int .i64 0));rw [hf] at h1 h2
  go_wp2_with (first
  |(at_lookup;refine wpList_lookup_own_ok_int _ rfl _ _ mapT rfl 9 2 .i64 law9 Tryz.underlying137 Tryz.underlying2 (zero2 _) w.heap.size 192 _ rfl hown _ _ rfl hkey ?_;intro c hat hwc;rw [h1];obtain rfl:c=j:=by (rw [h2] at hat;injection hat with hat;injection hat with _ hat;exact hat.symm))
   | go_in)
  go_ret
  exact ⟨rfl,hb⟩
theorem find_none (k:Nat)(s:List UInt8)(h:∀ j,j<k->(nm j).data.toList≠s):Xu k s=none:=by
 induction k with
|zero=>rfl
|succ k ih=>simp only [Xu];rw [if_neg (λx=>h k (by omega) x.1)];exact ih (λj hj=>h j (by omega))
def distinct:List Row->Bool
|[]=>true
|r::l=>l.all (λx=>decide (x.nm.data.toList=[]\/x.nm.data.toList≠r.nm.data.toList))&&distinct l
theorem distinct_tbl:distinct tbl=true:=by decide +kernel
theorem distinct_at (l:List Row)(h:distinct l=true)(i j:Nat)(hij:i<j)(hj:j<l.length):(l.getD j Z0).nm.data.toList=[]\/(l.getD j Z0).nm.data.toList≠(l.getD i Z0).nm.data.toList:=by
 induction l generalizing i j with
|nil=>simp at hj
|cons r l ih =>
  simp only [distinct,Bool.and_eq_true,List.all_eq_true,decide_eq_true_eq] at h
  cases j with
 |zero=>omega
 |succ j =>
   have hj':j<l.length:=by simpa using hj
   cases i with
  |zero =>
    have:=h.1 l[j] (List.getElem_mem hj')
    simpa [List.getD,List.getElem?_eq_getElem hj'] using this
  |succ i=>simpa using ih h.2 i j (by omega) hj'
theorem nm_tbl (k:Nat)(h:k<192):nm k=(tbl.getD k Z0).nm:=by
 simp only [nm,Qb,show (0:Int)<=k/\(k:Int)<192 by omega,and_self,if_true,Int.toNat_natCast]
theorem nm_dist (i j:Nat)(hij:i<j)(hj:j<192):(nm j).data.toList=[]\/(nm j).data.toList≠(nm i).data.toList:=by
 rw [nm_tbl i (by omega),nm_tbl j hj]
 exact distinct_at tbl distinct_tbl i j hij hj
theorem find_at (i:Nat)(s:List UInt8)(hi:(nm i).data.toList=s)(hs:s≠[]):∀ k,i<k->k<=192->Xu k s=some i
|0,h,_=>by omega
|k+1,h,hk=>by
  by_cases e:i=k
  . subst e;simp only [Xu];rw [if_pos ⟨hi,hs⟩]
  . simp only [Xu]
    rw [if_neg]
    . exact find_at i s hi hs k (by omega) (by omega)
    . rintro ⟨a,b⟩
      rcases nm_dist i k (by omega) (by omega) with c|c
      . exact b (a ▸ c)
      . exact c (a.trans hi.symm)
theorem scode_c (s:ByteArray)(w:World):Calls Tryz.prog 95 #[.string s] w λe w'=>e=.returned (.int .i64 (Qz s.data.toList))/\Below w.heap.size w w':=by
 by_cases he:s.data.toList=[]
 . have h0:s.toList.isEmpty=true:=by rw [ByteArray.toList_eq,he];rfl
   have hcI:Qz s.data.toList=-1:=by
    have:Xu 192 s.data.toList=none:=by
     have:∀ k,Xu k s.data.toList=none:=by
      intro k;induction k with
     |zero=>rfl
     |succ k ih=>simp only [Xu];rw [if_neg (λx=>x.2 he)];exact ih
     exact this _
    simp [Qz,this]
   rw [hcI]
   go_enter Tryz.func95,Tryz.ntmps95
   go_wp2
   refine wp_loop_rounds 1 ?_
   rw [rounds_succ]
   go_wp2
   go_ret
   exact ⟨rfl,Below.refl _ _⟩
 . have h0:s.toList.isEmpty=false:=by rw [ByteArray.toList_eq];simpa using he
   go_enter Tryz.func95,Tryz.ntmps95
   go_wp2
   go_loopw [3] (λi wr=>∃ k:Nat,k<=192/\i=.int .i64 k/\(∀ j,j<k->(nm j).data.toList≠s.data.toList)/\Below w.heap.size w wr) (λi _=>192-(intOf i).toNat)
   case atStart=>exact ⟨0,Nat.zero_le _,rfl,λj h=>by omega,Below.refl _ _⟩
   case round =>
    obtain ⟨k,hk,rfl,hno,hnx⟩:=hrel
    by_cases hlt:k<192
    . have hki:(k:Int)<=191:=by omega
      have hc:=Hm (JG (k:Int) wr)
      by_cases hm:(nm k).data.toList=s.data.toList
      . have hcI:Qz s.data.toList=k:=by
          simp [Qz,find_at k _ hm he 192 hlt (by omega)]
        have HcI:=Hm hcI;clear hcI;have hq:((nm k).toList==s.toList)=true:=by rw [ByteArray.toList_eq,ByteArray.toList_eq];simpa using hm
        change Hid (Calls Tryz.prog 129 #[.int .i64 k] wr λe w'=>e=.returned (.string (nm k))/\Below wr.heap.size wr w') at hc
        generalize nm k=t at *;have H1:=Hm hno;clear hm hno he
        go_wp2_with fail
        refine hc.o.mono ?_
        rintro e w1 ⟨rfl,hb⟩;have hnx1:Below w.heap.size w w1:=hnx.trans (hb.mono hnx.size);clear hb hnx
        go_wp2
        go_ret
        exact ⟨by rw [HcI.o];rfl,hnx1⟩
      . have hno1:∀ j,j<k+1->(nm j).data.toList≠s.data.toList:=λj hj=>by
          rcases (by omega:j<k\/j=k) with h|h
          . exact hno j h
          . subst h;exact hm
        have hq:((nm k).toList==s.toList)=false:=by rw [ByteArray.toList_eq,ByteArray.toList_eq];simpa using hm
        change Hid (Calls Tryz.prog 129 #[.int .i64 k] wr λe w'=>e=.returned (.string (nm k))/\Below wr.heap.size wr w') at hc
        have H1:=Hm hno1;clear hno hno1 hm he;generalize nm k=t at hq hc
        go_wp2_with fail
        refine hc.o.mono ?_
        rintro e w1 ⟨rfl,hb⟩;have hnx1:Below w.heap.size w w1:=hnx.trans (hb.mono hnx.size);clear hb hnx
        go_wp2
        go_roundw
        case rel=>exact ⟨k+1,by omega,by go_num,H1.o,hnx1⟩
        case measure=>simp [intOf];omega
    . have hk2:k=192:=by omega
      subst hk2;have hcI:Qz s.data.toList=-1:=by simp [Qz,find_none 192 _ hno]
      have HcI:=Hm hcI;clear hcI;have H1:=Hm hno;clear hno
      go_wp2
      go_ret
      exact ⟨by rw [HcI.o];rfl,hnx⟩
end Go.Proofs.YtipfjdogokanbaaGreatDoor
