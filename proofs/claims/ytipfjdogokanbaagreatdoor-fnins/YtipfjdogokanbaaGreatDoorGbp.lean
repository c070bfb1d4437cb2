import Derived.Test.YtipfjdogokanbaaGreatDoorGaa
import Derived.Test.YtipfjdogokanbaaGreatDoorGbo
import Derived.Test.YtipfjdogokanbaaGreatDoorGaz
import Derived.Lib.AppendStr
import Derived.Lib.QuietBelow
import Derived.Laws.BytesArg
set_option linter.all false
set_option maxHeartbeats 400000000
set_option maxRecDepth 100000
set_option linter.all false
namespace Go.Proofs.YtipfjdogokanbaaGreatDoor.An
open Go.RowKit Go.Sort
theorem step_append_str {P:Program}{w:World}{ops:Array Oper}{o:Oper}{a:Act}{K:Act->World->Prop}{Q:Exit->Act->World->Prop}{E:Prop}(hgd:o.guard=none)(sl x:Operand)(t u:TypeId)
    (ho:o.op=.call { callee:=.builtin .append,args:=#[sl,x],argTypes:=#[t,u] })
    (base:Nat) (e:TypeId) (i:TypeInfo) (ht:P.underlying t=some (.slice e)) (hu:P.underlying u=some .string) (hi:P.info? e=some i) (hz:i.zero=some (.int .u8 0))
    (hsize:i.size=1) (hby:i.bytes=1)
    (v:Value) (n:Nat) (xs:List Value) (hs:a.eval sl=v) (hown:w.ownsRow base e 1 v n xs) (s:ByteArray) (hx:a.eval x=.string s)
    (h63:n+s.size<=maxLen) (hbytes:n+s.size<=140737488355328) (hbase:base<=w.heap.size)
    (h:∀ v' w',w'.ownsRow base e 1 v' (n+s.size) (xs++Lib.strCells s)->w.grownBy w' v.ownBlock->K (a.put o.dst v') w') :
    if Region.wanted o (yielded ops a.tmps)=true then Oper.wp P o a w K Q else E:=by
 have hw:Region.wanted o (yielded ops a.tmps)=true:=by simp [Region.wanted,hgd]
 rw [if_pos hw];obtain ⟨v',w',hr,h2,h3,h4⟩:=Lib.run_append_own_string (P:=P) w base t u o.type e i ht hu hi hz hsize hby v n xs hown s h63 hbytes hbase;unfold Oper.wp execOp
 simp only [ho,resolve,invoke,builtin,Sem.run_bind,Sem.run_pure,Result.andThen_ok,List.map_toArray,List.map_cons,List.map_nil,hs,hx,hr]
 exact h v' w' h2 h3
structure Dq (w:World)(g:Nat)(a:Option Addr)(cap:Nat)(xs:List Int)(pa pc:Nat)(L:List Int)(V:World):Prop where
 c:L3.Cur V g a cap xs
 be:Below w.heap.size w V
 ce:∀ i,i<L.length->V.cell? ⟨pa,i,none⟩=some (.int .u8 (L.getD i 0))
 pl:pa<V.heap.size
 hg:w.heap.size<=g
 hp:g<pa
 ab:L3.Qt L
 ln:L.length<=1000
 lc:L.length<=pc
theorem Dq.step {w:World}{g:Nat}{a:Option Addr}{cap:Nat}{xs:List Int}{pa pc:Nat}{L:List Int}{V V':World}(h:Dq w g a cap xs pa pc L V)(hc:L3.Cur V' g a cap xs)(hg:V.grownBy V' (some g)):Dq w g a cap xs pa pc L V':=by
 have h1:=h.hp;have h2:=h.hg;have hb:V'.heap[pa]?=V.heap[pa]?:=hg.block pa h.pl (λe=>by injection e with e;omega)
 exact ⟨hc,Jq h.be hg (λq hq=>by injection hq with hq;omega),λi hi=>(World.cell?_of_block (a:=⟨pa,i,none⟩) hb).trans (h.ce i hi),Nat.lt_of_lt_of_le h.pl hg.size,h2,h1,h.ab,h.ln,h.lc⟩
theorem Dq.below {w:World}{g:Nat}{a:Option Addr}{cap:Nat}{xs:List Int}{pa pc:Nat}{L:List Int}{V V':World}(h:Dq w g a cap xs pa pc L V)(hb:Below V.heap.size V V'):Dq w g a cap xs pa pc L V':=by
 have h1:=h.hp;have h2:=h.pl
 exact h.step (h.c.below hb (by omega)) ⟨hb.os,hb.tape,hb.output,hb.size,λk hk _=>hb.block k hk⟩
def DpP (w:World)(e:Ending)(w':World):Prop:=∃ (bs:List Int) (a':Option Addr) (c':Nat),e=.returned (.slice a' bs.length c')/\L3.Qt bs/\bs.length<=10000/\L3.Has w' a' bs/\Below w.heap.size w w'
theorem Dq.pre {w:World}{g:Nat}{a:Option Addr}{cap:Nat}{xs:List Int}{pa pc:Nat}{L:List Int}{V:World}(h:Dq w g a cap xs pa pc L V)(n:Nat)(hn:n<=L.length)(c':Nat):DpP w (.returned (.slice (some ⟨pa,0,none⟩) n c')) V:=by
 have hl:(L.take n).length=n:=by simp;omega
 have hln:=h.ln
 refine ⟨L.take n,some ⟨pa,0,none⟩,c',by rw [hl],GA h.ab n,by omega,.inr ⟨pa,0,rfl,λi hi=>?_⟩,h.be⟩
 rw [hl] at hi;rw [Nat.zero_add,h.ce i (by omega)]
 simp [List.getD,hi]
theorem one_U (l:List Int):∀ u ∈ U l,u.oneCell'=true:=by
 intro u hu
 simp only [U,List.mem_map] at hu
 obtain ⟨x,_,rfl⟩:=hu
 rfl
theorem str_cells (s:ByteArray):∃ l:List Int,Lib.strCells s=U l/\L3.Qt l/\l.length=s.size:=by
 refine ⟨s.data.toList.map (λb=>(b.toNat:Int)),?_,?_,?_⟩
 . simp [Lib.strCells,U]
 . intro i
   by_cases hi:i<s.data.toList.length
   . have e:(s.data.toList.map (λb=>(b.toNat:Int))).getD i 0=((s.data.toList[i]'hi).toNat:Int):=by
       rw [List.getD_eq_getElem?_getD,List.getElem?_map,List.getElem?_eq_getElem hi];rfl
     rw [e]
     have:=(s.data.toList[i]'hi).toNat_lt
     omega
   . rw [List.getD_eq_getElem?_getD,List.getElem?_eq_none (by simpa using hi)];simp
 . simp
theorem dp_c (a:Option Addr)(cap:Nat)(xs:List Int)(w:World)(hl:xs.length<=1099511627776)(hB:L3.Qt xs)(ha:L3.Has w a xs) :
    Calls Tryz.prog 13 #[.slice a xs.length cap] w (DpP w):=by
 obtain ⟨i5,hi5,ht0,ht1,ht2⟩:=info_parts infoB;have KN:=Hm (L3.new_any a cap xs w hl hB ha);have KA:=Hm (λ(g:Nat) W (hC:L3.Cur W g a cap xs)=>any_c g a cap xs W hl hB hC);have KB:=Hm (λ(g:Nat) (n:Int) (h1:1<=n) (h2:n<=1099511627776) W (hC:L3.Cur W g a cap xs)=>below2 g a cap xs n W hl hB hC h1 h2);clear ha hB
 go_enter Tryz.func13,Tryz.ntmps13
 go_wp2_with fail
 refine KN.o.mono ?_
 rintro e w1 ⟨rfl,hc1,hb1,hs1⟩;obtain ⟨g,hgw⟩:∃ g,g=w.heap.size:=⟨_,rfl⟩;rw [<- hgw] at hc1 hs1;rw [<- hgw];have HW:=Hm hgw;have H1:=Hm (And.intro hc1 hb1);clear KN hc1 hb1 hgw
 go_wp2_with fail
 refine (KA.o g _ H1.o.1).mono ?_
 rintro e w3 ⟨x,la,lc,rfl,hib,hlv,hc3,hg3⟩;have hb3:Below w.heap.size w w3:=Jq H1.o.2 hg3 (λq hq=>by have:=HW.o;injection hq with hq;omega);have KE:=Hm (Pr.sprt2_c x la lc w3 hib.1 hib.2.1 (by have:=hib.2.2;omega) hlv.has);have hsh:=Pr.prt_short x hib.1 hib.2.1 hib.2.2;have hby:L3.Qt (Pr.JH x):=Pr.prt_bytes x;have hg4:g<w3.heap.size:=by have:=hg3.size;omega
 have H3:=Hm (And.intro hc3 hb3);generalize Pr.JH x=L at *;clear hib hlv hc3 hg3 hb3 H1
 go_wp2_with fail
 refine KE.o.mono ?_
 rintro e w4 ⟨pa,pc,rfl,hpc,hce,hpa,hpl,b5⟩;have HD:Hid (Dq w g a cap xs pa pc L w4):=⟨H3.o.1.below b5 hg4,H3.o.2.trans (b5.mono H3.o.2.size),hce,hpl,Nat.le_of_eq HW.o.symm,by omega,hby,hsh,hpc⟩;clear KE H3 hce b5 hby KA
 go_wp2_with fail
 refine (KB.o g 6 (by decide) (by decide) _ HD.o.c).mono ?_
 rintro e V1 ⟨k,rfl,hk0,hk1,hc,hg⟩;have HD:=Hm (HD.o.step hc hg);clear hc hg
 go_wp2_with fail
 refine (KB.o g ((L.length:Int)+1) (by omega) (by omega) _ HD.o.c).mono ?_
 rintro e V2 ⟨at_,rfl,ha0,ha1,hc,hg⟩;have HD:=Hm (HD.o.step hc hg);clear hc hg;obtain ⟨n,rfl⟩:∃ n:Nat,at_=(n:Int):=⟨at_.toNat,by omega⟩;have hnl:n<=L.length:=by omega
 have hni:(n:Int)<=(pc:Int):=by omega
 have hnj:(n:Int)<=(L.length:Int):=by omega
 by_cases hka:k=0
 . subst hka;obtain ⟨lb,hlb⟩:∃ lb,lb=V2.heap.size:=⟨_,rfl⟩;have HLT:Hid (∀ t,(λV=>Bk V lb [.string { data:=#[32] },.string { data:=#[48] },.string { data:=#[45] },.string { data:=#[120] },.string { data:=#[49] },.string { data:=#[105,54,52] }]/\Dq w g a cap xs pa pc L V) (V2.alloc (.cells #[.string { data:=#[32] },.string { data:=#[48] },.string { data:=#[45] },.string { data:=#[120] },.string { data:=#[49] },.string { data:=#[105,54,52] }] t))):=λt=>⟨by rw [hlb];exact Bk.new,HD.o.below ((Below.refl _ _).alloc (Nat.le_refl _) _)⟩;have hlg:g<lb:=by have:=HD.o.pl;have:=HD.o.hp;omega
   clear HD
   go_wp2_with fail
   refine (KB.o g 6 (by decide) (by decide) _ (HLT.o _).2.c).mono ?_
   rintro e V3 ⟨y,rfl,hy0,hy1,hc,hg⟩;have hB5:=(HLT.o _).1.grown hg (by simp;omega);have HD:=Hm ((HLT.o _).2.step hc hg);obtain ⟨yn,rfl⟩:∃ yn:Nat,y=(yn:Int):=⟨y.toNat,by omega⟩;have hyi:(yn:Int)<6:=hy1
   obtain ⟨s,hz,hss⟩:∃ s:ByteArray,V3.cell? ⟨lb,yn,none⟩=some (.string s)/\s.size<=3:=by
    rcases (by omega:yn=0\/yn=1\/yn=2\/yn=3\/yn=4\/yn=5) with rfl|rfl|rfl|rfl|rfl|rfl
    . exact ⟨_,hB5.2.1 0 _ rfl,by decide⟩
    . exact ⟨_,hB5.2.1 1 _ rfl,by decide⟩
    . exact ⟨_,hB5.2.1 2 _ rfl,by decide⟩
    . exact ⟨_,hB5.2.1 3 _ rfl,by decide⟩
    . exact ⟨_,hB5.2.1 4 _ rfl,by decide⟩
    . exact ⟨_,hB5.2.1 5 _ rfl,by decide⟩
   have hpl3:=HD.o.pl;have hce:∀ W:World,W.heap[pa]?=V3.heap[pa]?->∀ i,i<L.length->W.cell? ⟨pa,i,none⟩=some (.int .u8 (L.getD i 0)):=λW hW i hi=>(World.cell?_of_block (a:=⟨pa,i,none⟩) hW).trans (HD.o.ce i hi)
   have HC1:Hid (∀ W:World,W.heap[pa]?=V3.heap[pa]?->∀ j u,(U (L.take n))[j]?=some u->W.cell? ((⟨pa,0,none⟩:Addr).add j)=some u):=by
    intro W hW j u hu
    rw [show (⟨pa,0,none⟩:Addr).add j=⟨pa,0+j,none⟩ by unfold Addr.add;split<;>simp_all];have hj:j<n:=by have:=(List.getElem?_eq_some_iff.1 hu).1;simp [U] at this;omega
    rw [Nat.zero_add,hce W hW j (by omega),<- hu]
    simp [U,List.getD,hj,show j<L.length by omega]
   have hcd:∀ W:World,W.heap[pa]?=V3.heap[pa]?->∀ j u,(U (L.drop n))[j]?=some u->W.cell? ((⟨pa,n,none⟩:Addr).add j)=some u:=by
    intro W hW j u hu
    rw [show (⟨pa,n,none⟩:Addr).add j=⟨pa,n+j,none⟩ by unfold Addr.add;split<;>simp_all];have hj:n+j<L.length:=by have:=(List.getElem?_eq_some_iff.1 hu).1;simp [U] at this;omega
    rw [hce W hW (n+j) hj,<- hu]
    simp [U,List.getD,hj]
   obtain ⟨sl,hsl,hsb,hsn⟩:=str_cells s
   have HFN:Hid (∀ (W6:World) (v6:Value),Below V3.heap.size V3 W6->W6.ownsRow V3.heap.size 5 1 v6 (0+n+s.size+(L.length-n)) (([]++U (L.take n)++Lib.strCells s)++U (L.drop n))->DpP w (.returned v6) W6/\∃ a c,v6=.slice a (0+n+s.size+(L.length-n)) c):=by
    intro W6 v6 k1 k2
    obtain ⟨a',c',rfl⟩:=Ql k2;rw [hsl,List.nil_append,show U (L.take n)++U sl++U (L.drop n)=U (L.take n++sl++L.drop n) by simp [U]] at k2;obtain ⟨h1,h2,h3,h4⟩:=X6 k2
    refine ⟨⟨_,a',c',by rw [h1],Gk (Gk (GA HD.o.ab n) hsb) (λi=>by have:=HD.o.ab (n+i);simp only [List.getD,List.getElem?_drop] at this⊢;exact this),by simp;omega,h2,HD.o.be.trans (k1.mono HD.o.be.size)⟩,_,_,rfl⟩
   rw [hlb] at hz;have hlc:=HD.o.lc;clear hc hg hB5 hy0 hy1 HLT HD hlb hce hsl hsb hsn KB
   by_cases hpn:pc=n
   . have hpn':n=pc:=hpn.symm;clear hpn;subst hpn';have hLn:L.length=n:=by omega
     have HC2:Hid (∀ W:World,W.heap[pa]?=V3.heap[pa]?->∀ j u,(U (L.drop n))[j]?=some u->W.cell? ((⟨pa,0,none⟩:Addr).add j)=some u):=by
      intro W hW j u hu
      rw [List.drop_of_length_le (by omega)] at hu
      simp [U] at hu
     clear hcd hLn
     go_upto_region 7 with fail
     go_region_law (first
      |(refine QX rfl (.tmp 27) (.tmp 30) 22 rfl V3.heap.size 5 i5 (.int .u8 0) 1 1 Tryz.underlying22 hi5 ht0 ht1 ht2 rfl (by decide) (.slice (some ⟨V3.heap.size,0,none⟩) 0 0) 0 [] (by simp [Act.eval,Act.put]) (show World.ownsRow _ _ _ _ _ _ _ from World.ownsRow_lit V3 #[] 0 (Nat.le_refl _) (Nat.zero_le _) rfl) ⟨pa,0,none⟩ n n (U (L.take n)) (by simp [Act.eval,Act.put]) (by simp [U];omega) ?hcl (one_U _) (by simp [maxLen];omega) (by omega) (by simp) ?_;(case hcl=>exact HC1.o _ (QC _ _ _ hpl3));intro v1 W1 o1 g1 h1;have HB1:=Hm (bel_grown (V:=V3) (by first|exact ((Below.refl _ _).alloc (Nat.le_refl _) _).drew|exact (Below.refl _ _).alloc (Nat.le_refl _) _) g1 (Nat.le_refl _));have HO1:=Hm o1;have s1:=HB1.o.size;obtain ⟨v1a,v1c,rfl⟩:=Ql o1;clear o1 g1 h1)
      |(refine step_append_str rfl (.tmp 31) (.tmp 32) 22 9 rfl V3.heap.size 5 i5 Tryz.underlying22 Tryz.underlying9 hi5 ht0 ht1 ht2 (.slice v1a (0+n) v1c) (0+n) ([]++U (L.take n)) (by simp [Act.eval,Act.put]) (show World.ownsRow _ _ _ _ _ _ _ from HO1.o) s (by simp [Act.eval,Act.put]) (by simp [maxLen];omega) (by omega) (by omega) ?_;intro v2 W2 o2 g2;have HB2:=Hm (Jq HB1.o g2 (λq hq=>(HO1.o.lt q hq).1));have HO2:=Hm o2;have s2:=HB2.o.size;obtain ⟨v2a,v2c,rfl⟩:=Ql o2;clear o2 g2)
      | (refine QX rfl (.tmp 33) (.tmp 36) 22 rfl V3.heap.size 5 i5 (.int .u8 0) 1 1 Tryz.underlying22 hi5 ht0 ht1 ht2 rfl (by decide) (.slice v2a (0+n+s.size) v2c) (0+n+s.size) ([]++U (L.take n)++Lib.strCells s) (by simp [Act.eval,Act.put]) (show World.ownsRow _ _ _ _ _ _ _ from HO2.o) ⟨pa,0,none⟩ 0 (n-n) (U (L.drop n)) (by simp [Act.eval,Act.put]) (by simp [U];omega) ?hcl (one_U _) (by simp [maxLen];omega) (by omega) (by omega) ?_;(case hcl=>exact HC2.o _ (HB2.o.block pa hpl3));intro v6 W6 o6 g6 h6;have hh:=HFN.o W6 v6 (Jq HB2.o g6 (fun q hq=>(HO2.o.lt q hq).1)) (by have e:L.length-n=0:=(by omega);rw [e];exact o6);have HP:=Hm hh.1;obtain ⟨v6a,v6c,rfl⟩:=Ql o6;clear o6 g6 h6 hh))
     all_goals
      go_simp
      go_wp2
      go_ret
      have hq:=HP.o
     simp only [Nat.zero_add,Nat.add_zero] at hq
     exact hq
   . have HC2:=Hm hcd;clear hcd
     go_upto_region 7 with fail
     go_region_law (first
      |(refine QX rfl (.tmp 27) (.tmp 30) 22 rfl V3.heap.size 5 i5 (.int .u8 0) 1 1 Tryz.underlying22 hi5 ht0 ht1 ht2 rfl (by decide) (.slice (some ⟨V3.heap.size,0,none⟩) 0 0) 0 [] (by simp [Act.eval,Act.put]) (show World.ownsRow _ _ _ _ _ _ _ from World.ownsRow_lit V3 #[] 0 (Nat.le_refl _) (Nat.zero_le _) rfl) ⟨pa,0,none⟩ n pc (U (L.take n)) (by simp [Act.eval,Act.put]) (by simp [U];omega) ?hcl (one_U _) (by simp [maxLen];omega) (by omega) (by simp) ?_;(case hcl=>exact HC1.o _ (QC _ _ _ hpl3));intro v1 W1 o1 g1 h1;have HB1:=Hm (bel_grown (V:=V3) (by first|exact ((Below.refl _ _).alloc (Nat.le_refl _) _).drew|exact (Below.refl _ _).alloc (Nat.le_refl _) _) g1 (Nat.le_refl _));have HO1:=Hm o1;have s1:=HB1.o.size;obtain ⟨v1a,v1c,rfl⟩:=Ql o1;clear o1 g1 h1)
      |(refine step_append_str rfl (.tmp 31) (.tmp 32) 22 9 rfl V3.heap.size 5 i5 Tryz.underlying22 Tryz.underlying9 hi5 ht0 ht1 ht2 (.slice v1a (0+n) v1c) (0+n) ([]++U (L.take n)) (by simp [Act.eval,Act.put]) (show World.ownsRow _ _ _ _ _ _ _ from HO1.o) s (by simp [Act.eval,Act.put]) (by simp [maxLen];omega) (by omega) (by omega) ?_;intro v2 W2 o2 g2;have HB2:=Hm (Jq HB1.o g2 (λq hq=>(HO1.o.lt q hq).1));have HO2:=Hm o2;have s2:=HB2.o.size;obtain ⟨v2a,v2c,rfl⟩:=Ql o2;clear o2 g2)
      | (refine QX rfl (.tmp 33) (.tmp 36) 22 rfl V3.heap.size 5 i5 (.int .u8 0) 1 1 Tryz.underlying22 hi5 ht0 ht1 ht2 rfl (by decide) (.slice v2a (0+n+s.size) v2c) (0+n+s.size) ([]++U (L.take n)++Lib.strCells s) (by simp [Act.eval,Act.put]) (show World.ownsRow _ _ _ _ _ _ _ from HO2.o) ⟨pa,n,none⟩ (L.length-n) (pc-n) (U (L.drop n)) (by simp [Act.eval,Act.put,hpn]) (by simp [U]) ?hcl (one_U _) (by simp [maxLen];omega) (by omega) (by omega) ?_;(case hcl=>exact HC2.o _ (HB2.o.block pa hpl3));intro v6 W6 o6 g6 h6;have hh:=HFN.o W6 v6 (Jq HB2.o g6 (fun q hq=>(HO2.o.lt q hq).1)) o6;have HP:=Hm hh.1;obtain ⟨v6a,v6c,rfl⟩:=hh.2;clear o6 g6 h6 hh))
     all_goals
      go_simp
      go_wp2
      go_ret
      have hq:=HP.o
      simp only [Nat.zero_add] at hq
      exact hq
 . have hk1':(k==0)=false:=by simpa using hka
   by_cases hkb:k=1
   . subst hkb;have HF:=Hm (HD.o.pre n hnl);clear HD KB
     go_wp2
     go_ret
     exact HF.o _
   . have hk2':(k==1)=false:=by simpa using hkb
     have HF:=Hm (HD.o.pre L.length (Nat.le_refl _));clear HD KB
     go_wp2
     go_ret
     exact HF.o _
end Go.Proofs.YtipfjdogokanbaaGreatDoor.An
set_option linter.all false
namespace Go.Proofs.YtipfjdogokanbaaGreatDoor.An
open Go.RowKit Go.Sort
theorem lwI_any (a b:Option Addr)(ca cb:Nat)(xs:List Int)(w:World)(hl:xs.length<=1099511627776)(ha:Has w a xs)(hb:Has w b xs) :
    Calls Tryz.prog 32 #[.slice a xs.length ca,.slice b xs.length cb] w λe w'=>e=.returned (.bool true)/\∃ n,w'=w.drewN n:=by
 by_cases hx:xs=[]
 . subst hx;clear ha hb hl
   go_enter Tryz.func32,Tryz.ntmps32
   go_wp2
   refine wp_loop_rounds 1 ?_
   rw [rounds_succ]
   go_wp2
   go_ret
   exact ⟨rfl,0,rfl⟩
 . have hpos:0<xs.length:=List.length_pos_iff.2 hx
   rcases ha with h|⟨b1,o1,rfl,hc1⟩
   . exact absurd h hx
   rcases hb with h|⟨b2,o2,rfl,hc2⟩
   . exact absurd h hx
   clear hx
   go_enter Tryz.func32,Tryz.ntmps32
   go_wp2
   go_loopw [5] (λi wr=>∃ k:Nat,k<=xs.length/\i=.int .i64 k/\∃ m,wr=w.drewN m) (λi _=>xs.length-(intOf i).toNat)
   case atStart=>exact ⟨0,Nat.zero_le _,rfl,0,rfl⟩
   case round =>
    obtain ⟨k,hk,rfl,m,rfl⟩:=hrel
    by_cases hlt:k<xs.length
    . have d1:(w.drewN m).cell? ⟨b1,o1+k,none⟩=some (.int .i64 (xs.getD k 0)):=hc1 k hlt;have hki:(k:Int)<(xs.length:Int):=by omega
      go_wp2
      go_quiet (fail)
      go_wp2
      go_roundw
      case rel=>exact ⟨k+1,by omega,by go_num,_,rfl⟩
      case measure=>simp [intOf];omega
    . go_wp2
      go_ret
      exact ⟨rfl,m,rfl⟩
theorem lwL_c (ba bb ca cb:Nat)(x:In)(la lb:Option Addr)(lca lcb:Nat)(w:World)(h0:∀ j,j<5->w.cell? ⟨ba,j,none⟩=(cI x (.slice la x.l.length lca))[j]?)(h1:∀ j,j<5->w.cell? ⟨bb,j,none⟩=(cI x (.slice lb x.l.length lcb))[j]?)(ha:Has w la x.l)(hb:Has w lb x.l)(hl:x.l.length<=1099511627776) :
    Calls Tryz.prog 10 #[.slice (some ⟨ba,0,none⟩) 1 ca,.slice (some ⟨bb,0,none⟩) 1 cb] w λe w'=>e=.returned (.bool true)/\Below w.heap.size w w':=by
 have H0:=Hm (And.intro h0 h1);have HH:=Hm (And.intro ha hb);clear h0 h1 ha hb
 go_enter Tryz.func10,Tryz.ntmps10
 go_wp2
 go_loopw [5] (λi wr=>∃ k:Nat,k<=1/\i=.int .i64 k/\Below w.heap.size w wr) (λi _=>1-(intOf i).toNat)
 case atStart=>exact ⟨0,Nat.zero_le _,rfl,Below.refl _ _⟩
 case round =>
  obtain ⟨k,hk,rfl,hbl⟩:=hrel
  rcases (by omega:k=0\/k=1) with rfl|rfl
  . have c0:∀ j v,j<5->(cI x (.slice la x.l.length lca))[j]?=some v->wr.cell? ⟨ba,j,none⟩=some v:=λj v hj hv=>(hbl.cell (p:=⟨ba,j,none⟩) (World.block_lt_of_cell? w _ ((H0.o.1 j hj).trans hv))).trans ((H0.o.1 j hj).trans hv);have d0:∀ j v,j<5->(cI x (.slice lb x.l.length lcb))[j]?=some v->wr.cell? ⟨bb,j,none⟩=some v:=λj v hj hv=>(hbl.cell (p:=⟨bb,j,none⟩) (World.block_lt_of_cell? w _ ((H0.o.2 j hj).trans hv))).trans ((H0.o.2 j hj).trans hv);have k0:=cell_regrown (c0 0 _ (by omega) rfl);have k1:=cell_regrown (c0 1 _ (by omega) rfl);have k2:=cell_regrown (c0 2 _ (by omega) rfl);have k3:=cell_regrown (c0 3 _ (by omega) rfl);have k4:=cell_regrown (c0 4 _ (by omega) rfl);have m0:=cell_regrown (d0 0 _ (by omega) rfl);have m1:=cell_regrown (d0 1 _ (by omega) rfl);have m2:=cell_regrown (d0 2 _ (by omega) rfl);have m3:=cell_regrown (d0 3 _ (by omega) rfl);have m4:=cell_regrown (d0 4 _ (by omega) rfl);have cE:∀ d os,Calls Tryz.prog 32 #[.slice la x.l.length lca,.slice lb x.l.length lcb] (grow (redrawn wr d) os) λe w''=>e=.returned (.bool true)/\∃ p:Regrown,w''=grow (redrawn wr p.d) p.os:=λd os=>Calls.regrown_of ((lwI_any la lb lca lcb x.l _ hl ((HH.o.1.keep hbl).keep (below_regrown wr d os)) ((HH.o.2.keep hbl).keep (below_regrown wr d os))).mono (λe w' h=>⟨h.1,by obtain ⟨n,e⟩:=h.2;rw [e];exact below_drewN' (Below.refl _ _) n⟩));have HE:=Hm cE;have HBL:=Hm hbl;clear c0 d0 cE hbl HH H0
    go_wp2_with fail
    refine wp_region_quiet_below (by kernel_rfl) (by kernel_rfl) ?_
    repeat (quiet_step (exact HE.o _ _))
    refine wpQuiet_nil ?_
    intro _ hw'
    obtain ⟨⟨dq,osq⟩,hw''⟩:=hw';subst hw'';have hw5:=HBL.o.trans ((below_regrown wr dq osq).mono HBL.o.size);clear k0 k1 k2 k3 k4 m0 m1 m2 m3 m4;generalize grow (redrawn wr dq) osq=w5 at *
    show Exit.then _ _ Exit.normal _ w5
    go_wp2
    go_roundw
    case rel=>exact ⟨1,by omega,by go_num,hw5⟩
    case measure=>simp [intOf]
  . go_wp2
    go_ret
    exact ⟨rfl,hbl⟩
theorem lwB_c (v v':Value)(L:List Int)(w:World)(hv:(convert 22 9 v).run Tryz.prog w=.ok (.string (strOfNums L)) w)(hv':(convert 22 9 v').run Tryz.prog w=.ok (.string (strOfNums L)) w) :
    Calls Tryz.prog 15 #[v,v'] w λe w'=>e=.returned (.bool true)/\w=w':=by
 go_enter Tryz.func15,Tryz.ntmps15
 go_wp2
 go_ret
 exact ⟨by simp,rfl⟩
theorem conv_own {w:World}{B:Nat}{v:Value}{L:List Int}(h:w.ownsRow B 5 1 v L.length (U L)):(convert 22 9 v).run Tryz.prog w=.ok (.string (strOfNums L)) w:=by
 rcases h.2 with ⟨h0,h1⟩|⟨g,cap,cur,hv,hB,hh,_⟩
 . have e:L=[]:=List.eq_nil_of_length_eq_zero h1;subst h0 e
   rfl
 . subst hv
   exact run_convert_bytes_arg w 22 5 Tryz.underlying22 Tryz.underlying5 g 0 L.length cap L rfl (λi hi=>by rw [Nat.zero_add,h.cellAt i (by omega)];simp [U,List.getD,hi]) 9 Tryz.underlying9
end Go.Proofs.YtipfjdogokanbaaGreatDoor.An
