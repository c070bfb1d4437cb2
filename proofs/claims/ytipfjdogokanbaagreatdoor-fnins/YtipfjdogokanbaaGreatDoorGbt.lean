import Derived.Test.YtipfjdogokanbaaGreatDoorGaa
import Derived.Test.YtipfjdogokanbaaGreatDoorGak
import Derived.Maps.AppendAt
import Derived.Deep.Onto
import Derived.Deep.RegionLaw
import Derived.Test.YtipfjdogokanbaaGreatDoorGbs
import Derived.Test.YtipfjdogokanbaaGreatDoorGae
import Derived.Laws.BytesArg
import Derived.Test.YtipfjdogokanbaaGreatDoorGbr
set_option linter.all false
set_option maxHeartbeats 400000000
set_option maxRecDepth 100000
set_option linter.all false
namespace Go.Proofs.YtipfjdogokanbaaGreatDoor.Yz
open Go.RowKit Go.Sort
theorem QG {P:Program}{w:World}{ops:Array Oper}{o:Oper}{a:Act}{K:Act->World->Prop}{Q:Exit->Act->World->Prop}{E:Prop}(hgd:o.guard=none)(s x:Operand)(t:TypeId)
    (ho:o.op=.call { callee:=.builtin .append,args:=#[s,x],argTypes:=#[t,t] })
    (base:Nat) (e:TypeId) (i:TypeInfo) (z:Value) (size bytes:Nat) (ht:P.underlying t=some (.slice e)) (hi:P.info? e=some i) (hz:i.zero=some z)
    (hsize:i.size=size) (hby:i.bytes=bytes) (hzs:z.cells.size=size) (hsz:0<size)
    (v:Value) (n:Nat) (xs:List Value) (hs:a.eval s=v) (hown:w.ownsRow base e size v n xs)
    (ad:Addr) (m c:Nat) (news:List Value) (hx:a.eval x=.slice (some ad) m c) (hl:news.length=m*size) (hn:∀ j u,news[j]?=some u->w.cell? (ad.add j)=some u) (h1:∀ u ∈ news,u.oneCell'=true)
    (h63:n+m<=maxLen) (hbytes:(n+m)*bytes<=140737488355328) (hbase:base<=w.heap.size)
    (h:∀ v' w',w'.ownsRow base e size v' (n+m) (xs++news)->w.grownBy w' v.ownBlock->(v'.ownBlock=v.ownBlock\/v'.ownBlock=some w.heap.size)->K (a.put o.dst v') w') :
    if Region.wanted o (yielded ops a.tmps)=true then Oper.wp P o a w K Q else E:=by
 have hw:Region.wanted o (yielded ops a.tmps)=true:=by simp [Region.wanted,hgd]
 rw [if_pos hw];obtain ⟨v',w',hr,h2,h3,h4,h5⟩:=run_append_own_at (P:=P) w base t o.type e i z size bytes ht hi hz hsize hby hzs hsz v n xs hown ad m c news hl hn h1 h63 hbytes hbase;unfold Oper.wp execOp
 simp only [ho,resolve,invoke,builtin,Sem.run_bind,Sem.run_pure,Result.andThen_ok,List.map_toArray,List.map_cons,List.map_nil,hs,hx,hr]
 exact h v' w' h2 h3 h5
theorem Qw {w:World}{B e:Nat}{v:Value}{n:Nat}{zs:List Value}(h:w.ownsRow B e 1 v n zs):∃ a c,v=.slice a n c:=by
 rcases h.2 with ⟨e,h0⟩|⟨g,cap,cur,hv,_⟩
 . rw [h0];exact ⟨_,_,e⟩
 . exact ⟨_,_,hv⟩
theorem JC {w w':World}{B e n:Nat}{v:Value}{r:Option Nat}{xs:List Value}(h:w.ownsRow B e 1 v n xs)(hg:w.grownBy w' r)(hne:∀ k,v.ownBlock=some k->r≠some k):w'.ownsRow B e 1 v n xs:=by
 refine ⟨h.1,?_⟩
 rcases h.2 with h0|⟨g,cap,cur,hv,hB,hh,rr⟩
 . exact .inl h0
 . subst hv
   exact .inr ⟨g,cap,cur,rfl,hB,(hg.block g (h.lt g rfl).2 (λe=>hne g rfl e.symm)).trans hh,rr⟩
theorem oneI (x:Int):∀ u ∈ [Value.int .i64 x],u.oneCell'=true:=by
 intro u hu;simp at hu;subst hu;rfl
def lenOf (q:Nat)(w:World):Nat:=match w.cell? ⟨q,0,none⟩ with|some (.slice _ n _)=>n|_=>0
theorem Tw.len {w:World}{q:Nat}{ws:List Wd}{bd:Bool}(h:Tw w q ws bd):lenOf q w=ws.length:=by
 obtain ⟨a,c,h0,-⟩:=h.c0
 simp [lenOf,h0]
theorem Tw.low {w w1:World}{q n:Nat}{ws:List Wd}{bad:Bool}(h:Tw w q ws bad)(hb:Below n w w1)(hn:q<n):Tw w1 q ws bad:=by
 obtain ⟨a,c,h0,h1⟩:=h.c0
 refine ⟨⟨a,c,(hb.cell (p:=⟨q,0,none⟩) hn).trans h0,?_⟩,(hb.cell (p:=⟨q,1,none⟩) hn).trans h.c1,λi=>(hb.frozen (p:=⟨q,i,none⟩) hn).trans (h.fz i),h.le⟩
 rcases h1 with h1|⟨b,o,e,hne,hc,hw⟩
 . exact .inl h1
 . exact .inr ⟨b,o,e,hne,hc,λi hi=>(hb.cell (p:=⟨b,o+i,none⟩) (show b<n by omega)).trans (hw i hi)⟩
theorem c5_low {V V':World}{B n:Nat}{a b c d e:Value}(h:C5 V B 0 a b c d e)(hb:Below n V V')(hn:B<n):C5 V' B 0 a b c d e:=by
 obtain ⟨⟨h0,h1,h2,h3,h4⟩,hf⟩:=h
 exact ⟨⟨(hb.cell (p:=⟨B,_,none⟩) hn).trans h0,(hb.cell (p:=⟨B,_,none⟩) hn).trans h1,(hb.cell (p:=⟨B,_,none⟩) hn).trans h2,(hb.cell (p:=⟨B,_,none⟩) hn).trans h3,(hb.cell (p:=⟨B,_,none⟩) hn).trans h4⟩,λi=>(hb.frozen (p:=⟨B,i,none⟩) hn).trans (hf i)⟩
theorem Bx.low {w:World}{q:Nat}{ws:List Wd}{bd:Bool}{a b c d e:Value}{V V':World}(h:Bx w q ws bd a b c d e V)(hb:Below (w.heap.size+2) V V'):Bx w q ws bd a b c d e V' :=
 have hq:=h.qq
 ⟨c5_low h.x hb (by omega),c5_low h.z hb (by omega),h.t.low hb (by omega),⟨hb.os.trans h.g.os,hb.tape.trans h.g.tape,hb.output.trans h.g.output,Nat.le_trans h.g.size hb.size,λk hk hne=>(hb.block k (by omega)).trans (h.g.block k hk hne)⟩,h.v.keep (hb.mono (by omega)),hq⟩
theorem Bx.sz {w:World}{q:Nat}{ws:List Wd}{bd:Bool}{a b c d e:Value}{V:World}(h:Bx w q ws bd a b c d e V):w.heap.size+2<=V.heap.size:=by
 have h2:=World.block_lt_of_cell? V _ h.x.1.1;have h3:w.heap.size+1<V.heap.size:=h2
 omega
theorem nms_snoc {s:Wd}{v:Int}(h:Nm 0 4294967295 s v):∀ (ss:List Wd) (vs:List Int),Nms ss vs->Nms (ss++[s]) (vs++[v])
|[],[],_=>⟨h,trivial⟩
|[],_::_,g=>g.elim
|_::_,[],g=>g.elim
|_::ss,_::vs,g=>⟨g.1,nms_snoc h ss vs g.2⟩
theorem nms_ok:∀ (ss:List Wd) (vs:List Int),Nms ss vs->∀ s ∈ ss,okN 0 4294967295 s=true
|[],_,_,s,hs=>by cases hs
|_::_,[],g,_,_=>g.elim
|a::ss,v::vs,g,s,hs=>by
  rcases List.mem_cons.1 hs with rfl|hs
  . exact g.1.1
  . exact nms_ok ss vs g.2 s hs
structure Iv3 (w:World)(q:Nat)(ws:List Wd)(op:Int)(k:Nat)(acc:List Int)(la:Option Addr)(lc:Nat)(bd:Bool)(V:World):Prop where
 al:acc.length=k
 kl:k=0\/k<ws.length
 b:Bx w q (ws.drop k) bd (.int .i64 op) (.int .i64 0) (.int .i64 0) (.int .u64 0) (.slice la acc.length lc) V
 o:V.ownsRow (w.heap.size+2) 2 1 (.slice la acc.length lc) acc.length (I acc)
 n:bd=false->Nms (ws.take k) acc
 f:(∀ s ∈ ws.take k,okN 0 4294967295 s=true)->bd=false
theorem Iv3.next {w:World}{q:Nat}{ws:List Wd}{op:Int}{k:Nat}{acc:List Int}{la la':Option Addr}{lc lc':Nat}{bd:Bool}{V W:World}{s:Wd}{r:List Wd}{v:Int}(h:Iv3 w q ws op k acc la lc bd V)(e:ws.drop k=s::r)(hr:r≠[])
    (hx:okN 0 4294967295 s=true->okP s=some v) (hb:Bx w q r ((bd || false) || !okN 0 4294967295 s) (.int .i64 op) (.int .i64 0) (.int .i64 0) (.int .u64 0) (.slice la' (acc.length+1) lc') W) (ho:W.ownsRow (w.heap.size+2) 2 1 (.slice la' (acc.length+1) lc') (acc.length+1) (I acc++[.int .i64 v])):Iv3 w q ws op (k+1) (acc++[v]) la' lc' ((bd || false) || !okN 0 4294967295 s) W:=by
 have ed:ws.drop (k+1)=r:=by rw [<- List.tail_drop,e];rfl
 have hlk:k<ws.length:=by
  have:=congrArg List.length e
  simp at this;omega
 have et:ws.take (k+1)=ws.take k++[s]:=by
  rw [List.take_succ,show ws[k]?=some s by rw [<- List.head?_drop,e];rfl];rfl
 have hl2:k+1<ws.length:=by
  have:=congrArg List.length e
  have h2:0<r.length:=List.length_pos_iff.2 hr
  simp at this;omega
 refine ⟨by simp [h.al],.inr hl2,by rw [ed];simpa using hb,by simpa [I] using ho,λhbd=>?_,λhf=>?_⟩
 . simp at hbd
   rw [et]
   exact nms_snoc ⟨hbd.2,hx hbd.2⟩ _ _ (h.n hbd.1)
 . rw [et] at hf;have h1:=h.f (λt ht=>hf t (by simp [ht]));have h2:=hf s (by simp)
   simp [h1,h2]
theorem Bx.fin3 {w:World}{q:Nat}{ws:List Wd}{bd:Bool}{a b c d e:Value}{V:World}(h:Bx w q ws bd a b c d e V){rv:Value}{n:Nat}{xs:List Value}(ho:V.ownsRow (w.heap.size+2) 2 1 rv n xs)(u0 u1 u2 u3 u4:Value):C5 (((((V.setCell ⟨w.heap.size,0,none⟩ u0).setCell ⟨w.heap.size,1,none⟩ u1).setCell ⟨w.heap.size,2,none⟩ u2).setCell ⟨w.heap.size,3,none⟩ u3).setCell ⟨w.heap.size,4,none⟩ u4) w.heap.size 0 u0 u1 u2 u3 u4/\Tw (((((V.setCell ⟨w.heap.size,0,none⟩ u0).setCell ⟨w.heap.size,1,none⟩ u1).setCell ⟨w.heap.size,2,none⟩ u2).setCell ⟨w.heap.size,3,none⟩ u3).setCell ⟨w.heap.size,4,none⟩ u4) q ws bd/\w.grownBy (((((V.setCell ⟨w.heap.size,0,none⟩ u0).setCell ⟨w.heap.size,1,none⟩ u1).setCell ⟨w.heap.size,2,none⟩ u2).setCell ⟨w.heap.size,3,none⟩ u3).setCell ⟨w.heap.size,4,none⟩ u4) (some q)/\(((((V.setCell ⟨w.heap.size,0,none⟩ u0).setCell ⟨w.heap.size,1,none⟩ u1).setCell ⟨w.heap.size,2,none⟩ u2).setCell ⟨w.heap.size,3,none⟩ u3).setCell ⟨w.heap.size,4,none⟩ u4).ownsRow w.heap.size 2 1 rv n xs:=by
 have hh:∀ o,(⟨w.heap.size,o,none⟩:Addr).block<w.heap.size+2:=λo=>by show w.heap.size<_;omega
 have o0:=ownsRow_setCell_below ho (hh 0) u0;have o1:=ownsRow_setCell_below o0 (hh 1) u1;have o2:=ownsRow_setCell_below o1 (hh 2) u2;have o3:=ownsRow_setCell_below o2 (hh 3) u3;have o4:=ownsRow_setCell_below o3 (hh 4) u4;obtain ⟨f0,f1,f2⟩:=h.fin u0 u1 u2 u3 u4
 exact ⟨f0,f1,f2,o4.mono (by omega)⟩
theorem there_3 {w:World}{q:Nat}{ws:List Wd}{op:Int}{k:Nat}{acc:List Int}{la:Option Addr}{lc:Nat}{bd:Bool}{V:World}{v:Int}(h:Iv3 w q ws op k acc la lc bd V)(hx:okN 0 4294967295 ((ws.drop k).headD [])=true->okP ((ws.drop k).headD [])=some v)(hb:((bd || (ws.drop k).isEmpty) || !okN 0 4294967295 ((ws.drop k).headD []))=false)(ht:(ws.drop k).tail=[]):Arg 3 ws ⟨op,v,0,0,acc⟩:=by
 rw [arg_3]
 cases hbd:bd with
|true=>rw [hbd] at hb;simp at hb
|false =>
  rw [hbd] at hb;obtain ⟨s,e,hk⟩:=one_ok hb ht
  refine ⟨ws.take k,s,acc,v,by rw [<- e];exact (List.take_append_drop k ws).symm,h.n hbd,?_,rfl⟩
  rw [e] at hk hx
  exact ⟨hk,hx hk⟩
theorem back_3 {w:World}{q:Nat}{ws:List Wd}{op:Int}{k:Nat}{acc:List Int}{la:Option Addr}{lc:Nat}{bd:Bool}{V:World}(h:Iv3 w q ws op k acc la lc bd V)(hl:¬ 1<(ws.drop k).length)(hy:∃ y,Arg 3 ws y):((bd || (ws.drop k).isEmpty) || !okN 0 4294967295 ((ws.drop k).headD []))=false/\(ws.drop k).tail=[]:=by
 obtain ⟨y,hy⟩:=hy;rw [arg_3] at hy;obtain ⟨ss,s,vs,v,rfl,hn,hs,-⟩:=hy
 have hk:k=ss.length:=by
  have h1:=h.kl
  simp at hl h1;omega
 subst hk;have hbd:bd=false:=h.f (by rw [List.take_left'];exact nms_ok _ _ hn;rfl);rw [List.drop_left' rfl]
 exact ⟨by simp [hbd,hs.1],rfl⟩
theorem ins_3 (q:Nat)(ws:List Wd)(op:Int)(w:World)(hf:Qd (Qb op)=3)(h:Tw w q ws false)(hl:∀ x ∈ ws,x.length<=1099511627776)(hV:Vs q w) :
    Calls Tryz.prog 30 #[.pointer (some ⟨q,0,none⟩),.int .i64 op] w (InsP 3 op ws w q):=by
 have HF:=Hm (Qu op);rw [hf] at HF;obtain ⟨W,hW⟩:∃ W,W=(w.alloc (.cells #[.int .i64 0,.int .i64 0,.int .i64 0,.int .u64 0,.slice none 0 0] 26)).alloc (.cells #[.int .i64 op,.int .i64 0,.int .i64 0,.int .u64 0,.slice none 0 0] 26):=⟨_,rfl⟩;obtain ⟨hz,hx,hb⟩:=Gn w op;rw [<- hW] at hz hx hb;have HW:=Hm hW;have BX:=Hm (show Bx w q ws false (.int .i64 op) (.int .i64 0) (.int .i64 0) (.int .u64 0) (.slice none 0 0) W from ⟨hx,hz,h.keep hb,QD hb,hV.keep (hb.mono (Nat.le_of_lt h.lt)),h.lt⟩);have hq:=h.lt;clear hf hW hz hx hb h hV
 go_enter Tryz.func30,Tryz.ntmps30
 go_wp2_with fail
 rw [<- HW.o]
 refine (HF.o _).mono ?_
 rintro e w2 ⟨rfl,hb2⟩;have B2:=Hm (BX.o.below hb2);clear hb2 BX HW HF;obtain ⟨i0,hi,hz0,hz1,hz2⟩:=info_parts Tryz.info2;have HIV:=Hm (show Iv3 w q ws op 0 [] none 0 false w2 from ⟨rfl,.inl rfl,B2.o,JI _ _,λ_=>trivial,λ_=>rfl⟩);have hwl:=B2.o.t.le;clear B2
 go_upto_region 11 with fail
 go_loopw [] (λwr=>∃ (k:Nat) (acc:List Int) (la:Option Addr) (lc:Nat) (bd:Bool),Iv3 w q ws op k acc la lc bd wr) (λwr=>lenOf q wr)
 case atStart=>exact ⟨_,_,_,_,_,HIV.o⟩
 case round =>
  obtain ⟨k,acc,la,lc,bd,hI⟩:=hrel;have HI:=Hm hI;obtain ⟨a,c,h0,-⟩:=hI.b.t.c0;have hll:∀ x ∈ ws.drop k,x.length<=1099511627776:=λx hx=>hl x (List.mem_of_mem_drop hx);have hkk:acc.length<=1099511627776:=by have:=hI.kl;have:=hI.al;omega
  clear hI HIV
  by_cases hlt:1<(ws.drop k).length
  . obtain ⟨s,r,e⟩:∃ s r,ws.drop k=s::r:=by
      cases hd:ws.drop k with
     |nil=>rw [hd] at hlt;simp at hlt
     |cons s r=>exact ⟨s,r,rfl⟩
    have hr:r≠[]:=by rintro rfl;rw [e] at hlt;simp at hlt
    have HB:=Hm (HI.o.b.below (Below.refl _ _).drew);rw [e] at HB;have K:=Hm (Xg q (s::r) bd wr.drew HB.o.t (by rw [<- e];exact hll) HB.o.v);have HO:=Hm HI.o.o;have x4:=HI.o.b.x.1.2.2.2.2;have xf4:=HI.o.b.x.2 4;rw [e] at h0 hlt
    simp only [List.length_cons] at h0 hlt
    simp only [Nat.zero_add] at x4 xf4
    have hki:(1:Int)<(r.length:Int)+1:=by omega
    have HEr:=Hm (And.intro e hr);clear e hr hlt hll
    go_upto_region 12 with fail
    go_region_law (first
     | (refine QG rfl (.tmp 33) (.tmp 36) 24 rfl (w.heap.size+2) 2 i0 (.int .i64 0) 1 8 Tryz.underlying24 hi hz0 hz1 hz2 rfl (by decide) (.slice la acc.length lc) acc.length (I acc) (by simp [Act.eval,Act.put]) (O1.o.alloc _) ⟨w1.heap.size,0,none⟩ 1 1 [.int .i64 v] (by simp [Act.eval,Act.put]) rfl (cell_one_new _ _ _) (oneI _) (by unfold maxLen;omega) (by omega) (by simp;omega) ?_
        intro v2 w3 own2 gr2 hloc
        have B3:=Hm (B1.o.low (((Below.refl _ _).alloc (by omega) _).grown gr2 (by simp;omega) (λj hj=>(O1.o.lt j hj).1)));obtain ⟨va,vc,rfl⟩:=Qw own2;have O3:=Hm own2;have y4:=B3.o.x.1.2.2.2.2;have yf4:=B3.o.x.2 4
        simp only [Nat.zero_add] at y4 yf4
        clear own2 gr2 hloc)
     | (go_simp
        refine (K.o).mono ?_
        rintro e w1 ⟨v,rfl,ht1,hg1,hx1⟩;have B1:=Hm (HB.o.call hg1 ht1);have O1:=Hm (JC (w:=wr.drew) (w':=w1) (HO.o) hg1 (λj hj=>by have:=(HO.o.lt j hj).1;simp;omega));have HX:=Hm hx1;have z4:=B1.o.x.1.2.2.2.2;have zf4:=B1.o.x.2 4;have hs1:=B1.o.sz
        simp only [Nat.zero_add] at z4 zf4
        have z4a:∀ o,(w1.alloc o).cell? ⟨w.heap.size+1,4,none⟩=some (.slice la acc.length lc):=fun o=>(World.cell?_of_block (QC w1 o _ (by show w.heap.size+1<_;omega))).trans z4;clear ht1 hg1 hx1))
    all_goals
     go_simp
     go_roundw
     case rel=>exact ⟨_,_,_,_,_,_,_,_,_,_,_,_,_,⟨k+1,acc++[v],va,vc,_,HI.o.next HEr.o.1 HEr.o.2 HX.o B3.o.set4 (ownsRow_setCell_below O3.o (show w.heap.size+1<_ by omega) _)⟩,rfl⟩
     case measure =>
      have m1:=(B3.o.set4 (u:=.slice va (acc.length+1) vc)).t.len;have m0:=HI.o.b.t.len;rw [HEr.o.1] at m0;rw [m1,m0]
      simp
  . have HC:=Hm (Xg q (ws.drop k) bd wr HI.o.b.t hll HI.o.b.v);have hln:=Hm hlt;obtain ⟨D,hD⟩:∃ D,D=(ws.drop k).length:=⟨_,rfl⟩;rw [<- hD] at h0 hlt;have hki:¬ (1:Int)<(D:Int):=by omega
    clear hll hlt hD
    go_wp2_with fail
    refine HC.o.mono ?_
    rintro e w3 ⟨v,rfl,ht3,hg3,hx3⟩;have B3:=Hm (And.intro (HI.o.b.call hg3 ht3) (JC HI.o.o hg3 (λj hj=>by have:=(HI.o.o.lt j hj).1;simp;omega)));have hx:=Hm hx3;have x1:=B3.o.1.x.1.2.1;have xf1:=B3.o.1.x.2 1
    simp only [Nat.zero_add] at x1 xf1
    clear ht3 hg3 hx3 HC h0
    go_upto_region 25 with fail
    refine Qj (λU=>Bx w q (ws.drop k).tail ((bd || (ws.drop k).isEmpty) || !okN 0 4294967295 ((ws.drop k).headD [])) (.int .i64 op) (.int .i64 v) (.int .i64 0) (.int .u64 0) (.slice la acc.length lc) U/\U.ownsRow (w.heap.size+2) 2 1 (.slice la acc.length lc) acc.length (I acc)) ⟨B3.o.1.set1,ownsRow_setCell_below B3.o.2 (show w.heap.size+1<_ by omega) _⟩ ?_
    rintro U4 ⟨BU0,OU0⟩;have BU:=Hm BU0;have OU:=Hm OU0;clear BU0 OU0 x1 xf1 B3;obtain ⟨⟨x0,x1,x2,x3,x4⟩,xf⟩:=BU.o.x;obtain ⟨⟨z0,z1,z2,z3,z4⟩,zf⟩:=BU.o.z
    simp only [Nat.zero_add] at x0 x1 x2 x3 x4 z0 z1 z2 z3 z4
    have zf0:=zf 0;have zf1:=zf 1;have zf2:=zf 2;have zf3:=zf 3;have zf4:=zf 4;clear xf zf
    go_wp2
    refine Qf (λU=>C5 U w.heap.size 0 (.int .i64 op) (.int .i64 v) (.int .i64 0) (.int .u64 0) (.slice la acc.length lc)/\Tw U q (ws.drop k).tail ((bd || (ws.drop k).isEmpty) || !okN 0 4294967295 ((ws.drop k).headD []))/\w.grownBy U (some q)/\U.ownsRow w.heap.size 2 1 (.slice la acc.length lc) acc.length (I acc)) (BU.o.fin3 OU.o _ _ _ _ _) ?_
    rintro U ⟨⟨⟨t0,t1,t2,t3,t4⟩,-⟩,tU,gU,oU⟩
    simp only [Nat.zero_add] at t0 t1 t2 t3 t4
    have HU:=Hm (And.intro tU (And.intro gU oU));clear tU gU oU x0 x1 x2 x3 x4 z0 z1 z2 z3 z4 zf0 zf1 zf2 zf3 zf4
    exact bodyPost_ret (v:=inV ⟨op,v,0,0,acc⟩ la lc) (by simp [results,Tryz.results30,go_sem,t0,t1,t2,t3,t4]) rfl ⟨⟨op,v,0,0,acc⟩,la,lc,_,_,rfl,rfl,HU.o.2.2,HU.o.1,HU.o.2.1,λh ht=>there_3 HI.o hx.o h ht,λhy=>back_3 HI.o hln.o hy⟩
end Go.Proofs.YtipfjdogokanbaaGreatDoor.Yz
set_option linter.all false
namespace Go.Proofs.YtipfjdogokanbaaGreatDoor.Yz
open Go.RowKit Go.Sort
theorem QA (op:Int):Qd (Qb op)=-1\/Qd (Qb op)=0\/Qd (Qb op)=1\/Qd (Qb op)=2\/Qd (Qb op)=3\/Qd (Qb op)=4\/Qd (Qb op)=5\/Qd (Qb op)=6\/Qd (Qb op)=7\/Qd (Qb op)=8\/Qd (Qb op)=9\/Qd (Qb op)=10:=by
 by_cases h:0<=op/\op<192
 . have e:=of_decide_eq_true (rng 0 192 (λi=>decide (-1<=Qd (tbl.getD i Z0)/\Qd (tbl.getD i Z0)<=10)) (by decide +kernel) op (by omega) (by omega));have er:Qb op=tbl.getD op.toNat Z0:=by simp only [Qb,h,and_self,if_true]
   rw [<- er] at e
   omega
 . have er:Qb op=Z0:=by simp only [Qb,h,if_false]
   rw [er];left;decide
theorem ins_c (q:Nat)(ws:List Wd)(op:Int)(w:World)(h:Tw w q ws false)(hl:∀ x ∈ ws,x.length<=1099511627776)(hV:Vs q w) :
    Calls Tryz.prog 30 #[.pointer (some ⟨q,0,none⟩),.int .i64 op] w (InsP (Qd (Qb op)) op ws w q):=by
 rcases QA op with e|e|e|e|e|e|e|e|e|e|e|e
 . rw [e];exact ins_m1 q ws op w e h hl hV
 . rw [e];exact ins_0 q ws op w e h hl hV
 . rw [e];exact ins_1 q ws op w e h hl hV
 . rw [e];exact ins_2 q ws op w e h hl hV
 . rw [e];exact ins_3 q ws op w e h hl hV
 . rw [e];exact ins_4 q ws op w e h hl hV
 . rw [e];exact ins_5 q ws op w e h hl hV
 . rw [e];exact ins_6 q ws op w e h hl hV
 . rw [e];exact ins_7 q ws op w e h hl hV
 . rw [e];exact ins_8 q ws op w e h hl hV
 . rw [e];exact ins_9 q ws op w e h hl hV
 . rw [e];exact ins_10 q ws op w e h hl hV
theorem psplit_ne (l:Wd):Q3 l≠[]:=by
 by_cases h:Jd l<l.length
 . rw [Ju h];simp
 . rw [Jv h];simp
theorem own_words {w:World}{B:Nat}{v:Value}{ws:List Wd}(h:w.ownsRow B 9 1 v ws.length (Sv ws))(hne:ws≠[]):∃ b c,v=.slice (some ⟨b,0,none⟩) ws.length c/\b<w.heap.size/\ws.length<=c/\∀ i,i<ws.length->w.cell? ⟨b,0+i,none⟩=some (.string (S (ws.getD i []))):=by
 rcases h.2 with ⟨_,h0⟩|⟨g,cap,cur,hv,hB,hg,hc,_⟩
 . exact absurd (List.eq_nil_of_length_eq_zero h0) hne
 . subst hv
   refine ⟨g,cap,rfl,(Array.getElem?_eq_some_iff.1 hg).1,hc,λi hi=>?_⟩
   rw [Nat.zero_add,h.cellAt i (by omega)]
   simp [Sv,List.getD,hi]
def Prs (ws:List Wd)(x:In):Prop:=∃ s r,ws=s::r/\0<=x.op/\Qz s=x.op/\Arg (Qd (Qb x.op)) r x
theorem tw_new {w:World}{B:Nat}{v:Value}{ws:List Wd}(h:w.ownsRow B 9 1 v ws.length (Sv ws))(hne:ws≠[])(hl:ws.length<=1099511627776):Tw (w.alloc (.cells #[v,.bool false] 74)) w.heap.size ws false:=by
 obtain ⟨b,c,rfl,hb,hc,hw⟩:=own_words h hne
 refine ⟨⟨_,c,Qi rfl rfl,.inr ⟨b,0,rfl,hb,hc,λi hi=>?_⟩⟩,Qi rfl rfl,λi=>?_,hl⟩
 . exact (World.cell?_of_block (QC w _ b hb)).trans (hw i hi)
 . exact World.frozen?_alloc_new w _ _ i
abbrev itV (ok:Bool)(x:In)(la:Option Addr)(lc:Nat):Value:=.agg #[.bool ok,.int .i64 x.op,.int .i64 x.a,.int .i64 x.b,.int .u64 x.v,.slice la x.l.length lc]
structure C6 (w:World)(B:Nat)(t a b c d e:Value):Prop where
 c0:w.cell? ⟨B,0,none⟩=some t
 c1:w.cell? ⟨B,1,none⟩=some a
 c2:w.cell? ⟨B,2,none⟩=some b
 c3:w.cell? ⟨B,3,none⟩=some c
 c4:w.cell? ⟨B,4,none⟩=some d
 c5:w.cell? ⟨B,5,none⟩=some e
 fz:∀ i,w.frozen? ⟨B,i,none⟩=false
theorem C6.low {V V':World}{B n:Nat}{t a b c d e:Value}(h:C6 V B t a b c d e)(hb:Below n V V')(hn:B<n):C6 V' B t a b c d e :=
 ⟨(hb.cell (p:=⟨B,0,none⟩) hn).trans h.c0,(hb.cell (p:=⟨B,1,none⟩) hn).trans h.c1,(hb.cell (p:=⟨B,2,none⟩) hn).trans h.c2,(hb.cell (p:=⟨B,3,none⟩) hn).trans h.c3,(hb.cell (p:=⟨B,4,none⟩) hn).trans h.c4,(hb.cell (p:=⟨B,5,none⟩) hn).trans h.c5,λi=>(hb.frozen (p:=⟨B,i,none⟩) hn).trans (h.fz i)⟩
def Six (V:World)(B:Nat)(u0 u1 u2 u3 u4 u5:Value):World:=(((((V.setCell ⟨B,0,none⟩ u0).setCell ⟨B,1,none⟩ u1).setCell ⟨B,2,none⟩ u2).setCell ⟨B,3,none⟩ u3).setCell ⟨B,4,none⟩ u4).setCell ⟨B,5,none⟩ u5
theorem C6.fin {w V:World}{B:Nat}{t a b c d e:Value}(h:C6 V B t a b c d e)(hb:Below B w V){rv:Value}{n:Nat}{xs:List Value}(ho:V.ownsRow (B+1) 2 1 rv n xs)(u0 u1 u2 u3 u4 u5:Value):C6 (Six V B u0 u1 u2 u3 u4 u5) B u0 u1 u2 u3 u4 u5/\Below B w (Six V B u0 u1 u2 u3 u4 u5)/\(Six V B u0 u1 u2 u3 u4 u5).ownsRow B 2 1 rv n xs:=by
 have hh:∀ o,(⟨B,o,none⟩:Addr).block<B+1:=λo=>by show B<_;omega
 have o0:=ownsRow_setCell_below ho (hh 0) u0;have o1:=ownsRow_setCell_below o0 (hh 1) u1;have o2:=ownsRow_setCell_below o1 (hh 2) u2;have o3:=ownsRow_setCell_below o2 (hh 3) u3;have o4:=ownsRow_setCell_below o3 (hh 4) u4;have o5:=ownsRow_setCell_below o4 (hh 5) u5;have hg:∀ o,B<=(⟨B,o,none⟩:Addr).block:=λo=>Nat.le_refl _;have b0:=hb.setCell (hg 0) u0;have b1:=b0.setCell (hg 1) u1;have b2:=b1.setCell (hg 2) u2;have b3:=b2.setCell (hg 3) u3;have b4:=b3.setCell (hg 4) u4;have b5:=b4.setCell (hg 5) u5
 refine ⟨⟨?_,?_,?_,?_,?_,?_,λi=>by simp only [Six,World.frozen?_setCell];exact h.fz i⟩,b5,o5.mono (by omega)⟩
 . exact Qc (Qc (Qc (Qc (Qc (Qh h.c0) (by decide)) (by decide)) (by decide)) (by decide)) (by decide)
 . exact Qc (Qc (Qc (Qc (Qh (Qc h.c1 (by decide))) (by decide)) (by decide)) (by decide)) (by decide)
 . exact Qc (Qc (Qc (Qh (Qc (Qc h.c2 (by decide)) (by decide))) (by decide)) (by decide)) (by decide)
 . exact Qc (Qc (Qh (Qc (Qc (Qc h.c3 (by decide)) (by decide)) (by decide))) (by decide)) (by decide)
 . exact Qc (Qh (Qc (Qc (Qc (Qc h.c4 (by decide)) (by decide)) (by decide)) (by decide))) (by decide)
 . exact Qh (Qc (Qc (Qc (Qc (Qc h.c5 (by decide)) (by decide)) (by decide)) (by decide)) (by decide))
def Qv (xs:List Int):Wd:=xs.map λn=>UInt8.ofNat n.toNat
def PiP (L:List Wd)(w:World)(e:Ending)(w':World):Prop:=∃ (ok:Bool) (x:In) (la:Option Addr) (lc:Nat),e=.returned (itV ok x la lc)/\w'.ownsRow w.heap.size 2 1 (.slice la x.l.length lc) x.l.length (I x.l)/\Below w.heap.size w w'/\(ok=true->Prs L x)/\(ok=false->x=⟨0,0,0,0,[]⟩/\¬ ∃ y,Prs L y)
theorem ipar_c (a:Option Addr)(c:Nat)(xs:List Int)(w:World)(h:By.Has w a xs)(hl:xs.length<=1048576)(hV:Vs w.heap.size w) :
    Calls Tryz.prog 9 #[.slice a xs.length c] w (PiP (Q3 (Qv xs)) w):=by
 obtain ⟨W,hW⟩:∃ W,W=w.alloc (.cells #[.bool false,.int .i64 0,.int .i64 0,.int .i64 0,.int .u64 0,.slice none 0 0] 33):=⟨_,rfl⟩;have hbW:Below w.heap.size w W:=by rw [hW];exact (Below.refl _ _).alloc (Nat.le_refl _) _
 have hsW:W.heap.size=w.heap.size+1:=by rw [hW];simp
 have hcv:(convert 22 9 (.slice a xs.length c)).run Tryz.prog W=.ok (.string (S (Qv xs))) W:=by
  by_cases hx:xs=[]
  . subst hx
    cases a with
   |none=>exact run_convert_bytes_nil W 22 5 Tryz.underlying22 Tryz.underlying5 _ _ 9 Tryz.underlying9
   |some p=>exact run_convert_bytes_back W 22 9 5 p c [] Tryz.underlying22 Tryz.underlying5 Tryz.underlying9 (λj hj=>by simp at hj)
  . rcases h with h|⟨b,o,rfl,hc⟩
    . exact absurd h hx
    . exact run_convert_bytes_arg W 22 5 Tryz.underlying22 Tryz.underlying5 b o _ c xs rfl (λi hi=>(hbW.cell (p:=⟨b,o+i,none⟩) (World.block_lt_of_cell? w _ (hc i hi))).trans (hc i hi)) 9 Tryz.underlying9
 have h6:C6 W w.heap.size (.bool false) (.int .i64 0) (.int .i64 0) (.int .i64 0) (.int .u64 0) (.slice none 0 0):=by
  rw [hW]
  exact ⟨Qi rfl rfl,Qi rfl rfl,Qi rfl rfl,Qi rfl rfl,Qi rfl rfl,Qi rfl rfl,λi=>World.frozen?_alloc_new w _ _ i⟩
 have hbl:(Qv xs).length<=1048576:=by simpa [Qv] using hl
 have KS:=Hm (split_c (Qv xs) W hbl);obtain ⟨hpl,hpw⟩:=XI _ (Qv xs) (Nat.le_refl _);have hpn:=psplit_ne (Qv xs);have hll:∀ x ∈ Q3 (Qv xs),x.length<=1099511627776:=λx hx=>by have:=hpw x hx;omega
 have hlp:(Q3 (Qv xs)).length<=1099511627776:=by omega
 have HV:=Hm hV;have HBW:=Hm hbW;have H6:=Hm h6;have HW:=Hm hW;clear h hV hbW h6 hpl hpw hbl hW;generalize Q3 (Qv xs)=ws at *
 go_enter Tryz.func9,Tryz.ntmps9
 go_upto_region 1 with fail
 rw [<- HW.o]
 obtain ⟨s,r,rfl⟩:∃ s r,ws=s::r:=by
  cases ws with
 |nil=>exact absurd rfl hpn
 |cons s r=>exact ⟨s,r,rfl⟩
 go_wp2_with fail
 refine KS.o.mono ?_
 rintro e w1 ⟨v,rfl,hO,hb1⟩;have TN:=Hm (tw_new hO hpn hlp);have HB1:=Hm hb1;have hs1:=hb1.size;obtain ⟨va,vc,rfl⟩:=JD hO;clear KS hO hb1 hcv
 go_upto_region 2 with fail
 refine Qj (λU=>Tw U w1.heap.size (s::r) false/\Below w1.heap.size w1 U) ⟨TN.o,(Below.refl _ _).alloc (Nat.le_refl _) _⟩ ?_
 rintro U ⟨tU,bU⟩;have hbU:Below W.heap.size W U:=HB1.o.trans (bU.mono hs1);have TU:=Hm tU;have BU:=Hm hbU;have KN:=Hm (next_g w1.heap.size (s::r) false U tU);clear tU bU hbU TN HB1
 go_wp2_with fail
 refine KN.o.mono ?_
 rintro e w2 ⟨rfl,t2,g2⟩;have hb2:Below W.heap.size W w2:=BU.o.trans ((QU g2 TU.o.lt).mono hs1);have B2:=Hm hb2;have T2:=Hm t2;have KC:=Hm (icode_c (S s) w2 (by rw [Qn];have:=hll s (by simp);unfold maxLen;omega));rw [QO] at KC;clear hb2 t2 g2 KN BU TU
 go_wp2_with fail
 refine KC.o.mono ?_
 rintro e w3 ⟨rfl,hb3⟩;obtain ⟨op,hop⟩:∃ op,op=Qz s:=⟨_,rfl⟩;rw [<- hop];have HOP:=Hm hop;have T3:Hid (Tw w3 w1.heap.size r false):=T2.o.keep hb3;have B3:=Hm (B2.o.trans (hb3.mono B2.o.size));have hs3:=T3.o.lt;have KI:=Hm (ins_c w1.heap.size r op w3 T3.o (λx hx=>hll x (by simp [hx])) ((HV.o.keep (HBW.o.trans (B3.o.mono (by omega)))).up (by omega)));clear hb3 hop KC T2 B2 HV
 go_wp2_with fail
 refine KI.o.mono ?_
 rintro e w4 ⟨x,la,lc,ws',bd,rfl,hxo,own4,t4,g4,A1,A2⟩;have b4:Below W.heap.size W w4:=B3.o.trans ((QU g4 hs3).mono hs1);have HA:=Hm (And.intro hxo (And.intro A1 A2));have TX:=Hm (And.intro (t4.keep ((Below.refl _ w4).alloc (Nat.le_refl _) (.cells #[.int .i64 x.op,.int .i64 x.a,.int .i64 x.b,.int .u64 x.v,.slice la x.l.length lc] 26))) (And.intro (b4.alloc b4.size (.cells #[.int .i64 x.op,.int .i64 x.a,.int .i64 x.b,.int .u64 x.v,.slice la x.l.length lc] 26)) (And.intro ((own4.alloc (.cells #[.int .i64 x.op,.int .i64 x.a,.int .i64 x.b,.int .u64 x.v,.slice la x.l.length lc] 26)).mono (show w.heap.size+1<=w3.heap.size by have:=B3.o.size;omega)) (C5.new (w:=w4) (a:=.int .i64 x.op) (b:=.int .i64 x.a) (c:=.int .i64 x.b) (d:=.int .u64 x.v) (e:=.slice la x.l.length lc) (t:=26)))));clear hxo A1 A2 own4 t4 g4 b4 KI T3 B3
 go_upto_region 4 with fail
 refine Qj (λU=>Tw U w1.heap.size ws' bd/\Below W.heap.size W U/\U.ownsRow (w.heap.size+1) 2 1 (.slice la x.l.length lc) x.l.length (I x.l)/\C5 U w4.heap.size 0 (.int .i64 x.op) (.int .i64 x.a) (.int .i64 x.b) (.int .u64 x.v) (.slice la x.l.length lc)) TX.o ?_
 rintro V ⟨tV,bV,oV,xV⟩;have h6:=H6.o.low bV (by omega);have HF:=Hm (λrv n (zs:List Value) (ho:V.ownsRow (w.heap.size+1) 2 1 rv n zs)=>h6.fin (HBW.o.trans (bV.mono (by omega))) ho);obtain ⟨z0,z1,z2,z3,z4,z5,zf⟩:=h6;obtain ⟨⟨x0,x1,x2,x3,x4⟩,-⟩:=xV
 simp only [Nat.zero_add] at x0 x1 x2 x3 x4
 have zf0:=zf 0;have zf1:=zf 1;have zf2:=zf 2;have zf3:=zf 3;have zf4:=zf 4;have zf5:=zf 5;have OV:=Hm oV;have KG:=Hm (good_c w1.heap.size ws' bd V tV);clear zf TX H6 HBW tV bV oV hsW hs1 hs3
 by_cases hn:op<0
 . go_wp2
   refine Qf (λU=>C6 U w.heap.size (.bool false) (.int .i64 0) (.int .i64 0) (.int .i64 0) (.int .u64 0) (.slice none 0 0)/\Below w.heap.size w U/\U.ownsRow w.heap.size 2 1 (.slice none 0 0) 0 []) (HF.o _ _ _ (World.ownsRow_nil _ _ _ _) _ _ _ _ _ _) ?_
   rintro U ⟨⟨t0,t1,t2,t3,t4,t5,-⟩,bU,oU⟩;have HU:=Hm (And.intro bU oU);clear bU oU
   exact bodyPost_ret (v:=itV false ⟨0,0,0,0,[]⟩ none 0) (by simp [results,Tryz.results9,go_sem,t0,t1,t2,t3,t4,t5]) rfl ⟨false,⟨0,0,0,0,[]⟩,none,0,rfl,HU.o.2,HU.o.1,λh=>absurd h (by decide),λ_=>⟨rfl,λ⟨y,s2,r2,e2,h0,hc,_⟩=>by cases e2;rw [<- HOP.o] at hc;omega⟩⟩
 . have hn2:decide (op<0)=false:=by simpa using hn
   cases hg:(!bd&&ws'.isEmpty) with
  |false =>
    rw [hg] at KG
    go_wp2_with fail
    refine KG.o.mono ?_
    rintro e w5 ⟨rfl,rfl⟩
    go_wp2
    refine Qf (λU=>C6 U w.heap.size (.bool false) (.int .i64 0) (.int .i64 0) (.int .i64 0) (.int .u64 0) (.slice none 0 0)/\Below w.heap.size w U/\U.ownsRow w.heap.size 2 1 (.slice none 0 0) 0 []) (HF.o _ _ _ (World.ownsRow_nil _ _ _ _) _ _ _ _ _ _) ?_
    rintro U ⟨⟨t0,t1,t2,t3,t4,t5,-⟩,bU,oU⟩;have HU:=Hm (And.intro bU oU);clear bU oU
    exact bodyPost_ret (v:=itV false ⟨0,0,0,0,[]⟩ none 0) (by simp [results,Tryz.results9,go_sem,t0,t1,t2,t3,t4,t5]) rfl ⟨false,⟨0,0,0,0,[]⟩,none,0,rfl,HU.o.2,HU.o.1,fun h=>absurd h (by decide),fun _=>⟨rfl,fun ⟨y,s2,r2,e2,h0,hc,ha⟩=>by
     cases e2
     rw [<- HOP.o] at hc;rw [<- hc] at ha;obtain ⟨k1,k2⟩:=HA.o.2.2 ⟨y,ha⟩;rw [k1,k2] at hg;cases hg⟩⟩
  |true =>
    rw [hg] at KG;have hgd:bd=false/\ws'=[]:=by simpa using hg
    have HGD:=Hm hgd;clear hgd
    go_wp2_with fail
    refine KG.o.mono ?_
    rintro e w5 ⟨rfl,rfl⟩
    go_wp2
    refine Qf (λU=>C6 U w.heap.size (.bool true) (.int .i64 x.op) (.int .i64 x.a) (.int .i64 x.b) (.int .u64 x.v) (.slice la x.l.length lc)/\Below w.heap.size w U/\U.ownsRow w.heap.size 2 1 (.slice la x.l.length lc) x.l.length (I x.l)) (HF.o _ _ _ OV.o _ _ _ _ _ _) ?_
    rintro U ⟨⟨t0,t1,t2,t3,t4,t5,-⟩,bU,oU⟩;have HU:=Hm (And.intro bU oU);clear bU oU
    exact bodyPost_ret (v:=itV true x la lc) (by simp [results,Tryz.results9,go_sem,t0,t1,t2,t3,t4,t5]) rfl ⟨true,x,la,lc,rfl,HU.o.2,HU.o.1,λ_=>⟨s,r,rfl,by rw [HA.o.1];omega,by rw [HA.o.1];exact HOP.o.symm,by rw [HA.o.1];exact HA.o.2.1 HGD.o.1 HGD.o.2⟩,λh=>absurd h (by decide)⟩
end Go.Proofs.YtipfjdogokanbaaGreatDoor.Yz
set_option linter.all false
namespace Go.Proofs.YtipfjdogokanbaaGreatDoor.Yz
open Go.RowKit Go.Sort
structure Pb (w:World)(p:Nat)(bd:Bool):Prop where
 c:w.cell? ⟨p,19,none⟩=some (.bool bd)
 f:w.frozen? ⟨p,19,none⟩=false
theorem Pb.lt {w:World}{p:Nat}{bd:Bool}(h:Pb w p bd):p<w.heap.size:=World.block_lt_of_cell? w _ h.c
theorem Pb.keep {w w1:World}{p:Nat}{bd:Bool}(h:Pb w p bd)(hb:Below w.heap.size w w1):Pb w1 p bd :=
 ⟨(hb.cell (p:=⟨p,19,none⟩) h.lt).trans h.c,(hb.frozen (p:=⟨p,19,none⟩) h.lt).trans h.f⟩
theorem Pb.grown {w w1:World}{p:Nat}{bd:Bool}{r:Option Nat}(h:Pb w p bd)(hb:w.grownBy w1 r)(hr:r≠some p):Pb w1 p bd:=by
 have hk:w1.heap[p]?=w.heap[p]?:=hb.block p h.lt (λe=>hr e.symm)
 exact ⟨(World.cell?_of_block hk).trans h.c,(World.frozen?_of_block hk).trans h.f⟩
theorem JP (p:Nat)(bd:Bool)(w:World)(h:Pb w p bd):Calls Tryz.prog 96 #[.pointer (some ⟨p,0,none⟩)] w λe w'=>e=.returned (.tuple #[])/\Pb w' p true/\w.grownBy w' (some p):=by
 have c1:=h.c;have f1:=h.f;clear h
 go_enter Tryz.func96,Tryz.ntmps96
 go_wp2
 go_end0
 exact ⟨rfl,⟨Qh c1,by rw [World.frozen?_setCell];exact f1⟩,Xc _ _ _ _⟩
def Wv (w:World)(a:Option Addr)(p:Nat)(ws:List Wd):Prop:=ws=[]\/∃ b o,a=some ⟨b,o,none⟩/\b<p/\∀ i,i<ws.length->w.cell? ⟨b,o+i,none⟩=some (.string (S (ws.getD i [])))
theorem Wv.grown {w w1:World}{a:Option Addr}{p:Nat}{ws:List Wd}(h:Wv w a p ws)(hb:w.grownBy w1 (some p))(hp:p<w.heap.size):Wv w1 a p ws:=by
 rcases h with h|⟨b,o,e,hlt,hc⟩
 . exact .inl h
 . exact .inr ⟨b,o,e,hlt,λi hi=>(World.cell?_of_block (hb.block b (by omega) (by simp;omega))).trans (hc i hi)⟩
theorem Wv.keep {w w1:World}{a:Option Addr}{p:Nat}{ws:List Wd}(h:Wv w a p ws)(hb:Below w.heap.size w w1)(hp:p<w.heap.size):Wv w1 a p ws:=by
 rcases h with h|⟨b,o,e,hlt,hc⟩
 . exact .inl h
 . exact .inr ⟨b,o,e,hlt,λi hi=>(hb.cell (p:=⟨b,o+i,none⟩) (show b<w.heap.size by omega)).trans (hc i hi)⟩
theorem sru_c (p:Nat)(a:Option Addr)(c:Nat)(ws:List Wd)(bd:Bool)(w:World)(h:Pb w p bd)(hW:Wv w a p ws)(hl:∀ x ∈ ws,x.length<=1099511627776) :
    Calls Tryz.prog 98 #[.pointer (some ⟨p,0,none⟩),.slice a ws.length c] w λe w'=>∃ (x:Int) (b2:Bool),e=.returned (.int .i64 x)/\Pb w' p b2/\w.grownBy w' (some p)/\(b2=false->bd=false/\∃ s,ws=[s]/\Nm 0 4294967295 s x)/\(bd=false->(∃ s v,ws=[s]/\Nm 0 4294967295 s v)->b2=false):=by
 have KB:=Hm (JP p bd w h)
 by_cases h1:ws.length=1
 . obtain ⟨s,rfl⟩:=List.length_eq_one_iff.1 h1
   rcases hW with hW|⟨b,o,rfl,hlt,hc⟩
   . cases hW
   have c0:=hc 0 (by simp)
   simp only [Nat.add_zero,List.getD_cons_zero] at c0
   have K:=Hm (su32_c s w (hl s (by simp)));have HB:=Hm h;clear h hc hl h1
   cases hok:okN 0 4294967295 s with
  |true =>
    rw [hok] at K
    go_enter Tryz.func98,Tryz.ntmps98
    go_wp2_with fail
    refine K.o.mono ?_
    rintro e w1 ⟨rfl,x,rfl,hx⟩;have HX:=Hm hx;clear hx
    go_wp2
    go_ret
    exact ⟨x,bd,rfl,HB.o,World.grownBy.refl _ _,λe=>⟨e,s,rfl,hok,HX.o trivial⟩,λe _=>e⟩
  |false =>
    rw [hok] at K;have HOK:=Hm hok;clear hok
    go_enter Tryz.func98,Tryz.ntmps98
    go_wp2_with fail
    refine K.o.mono ?_
    rintro e w1 ⟨rfl,x,rfl,-⟩
    go_wp2_with fail
    refine KB.o.mono ?_
    rintro e w2 ⟨rfl,hp,hg⟩;have HP:=Hm (And.intro hp hg);clear hp hg
    go_wp2
    go_ret
    exact ⟨x,true,rfl,HP.o.1,HP.o.2,λe=>absurd e (by decide),λ_ ⟨s2,v,e,hn⟩=>by cases e;exact absurd hn.1 (by rw [HOK.o];decide)⟩
 . have i1:¬ (ws.length:Int)=1:=by omega
   have H1:=Hm h1;clear h1 h hW hl
   go_enter Tryz.func98,Tryz.ntmps98
   go_wp2_with fail
   refine KB.o.mono ?_
   rintro e w2 ⟨rfl,hp,hg⟩;have HP:=Hm (And.intro hp hg);clear hp hg
   go_wp2
   go_ret
   exact ⟨0,true,rfl,HP.o.1,HP.o.2,λe=>absurd e (by decide),λ_ ⟨s2,v,e,hn⟩=>absurd (by rw [e];rfl) H1.o⟩
def RnP (p:Nat)(ws:List Wd)(bd:Bool)(w:World)(e:Ending)(w':World):Prop:=∃ (v:Value) (vs:List Int) (b2:Bool),e=.returned v/\w'.ownsRow w.heap.size 2 1 v vs.length (I vs)/\vs.length=ws.length/\Pb w' p b2/\w.grownBy w' (some p)/\(b2=false->bd=false/\Nms ws vs)/\(bd=false->(∀ s ∈ ws,okN 0 4294967295 s=true)->b2=false)
theorem srn_c (p:Nat)(a:Option Addr)(c:Nat)(ws:List Wd)(bd:Bool)(w:World)(h:Pb w p bd)(hW:Wv w a p ws)(hl:∀ x ∈ ws,x.length<=1099511627776)(hn:ws.length<=1099511627776) :
    Calls Tryz.prog 99 #[.pointer (some ⟨p,0,none⟩),.slice a ws.length c] w (RnP p ws bd w):=by
 obtain ⟨i0,hi,hz0,hz1,hz2⟩:=info_parts Tryz.info2;have hp:=h.lt;have HB:=Hm h;have HW:=Hm hW;clear h hW
 go_enter Tryz.func99,Tryz.ntmps99
 go_upto_region 3 with fail
 go_loopw [5,6] (λv i wr=>∃ (k:Nat) (acc:List Int) (b2:Bool),k<=ws.length/\i=.int .i64 (k:Int)/\wr.ownsRow w.heap.size 2 1 v acc.length (I acc)/\Pb wr p b2/\w.grownBy wr (some p)/\Hid (acc.length=k/\(b2=false->bd=false/\Nms (ws.take k) acc)/\(bd=false->(∀ s ∈ ws.take k,okN 0 4294967295 s=true)->b2=false))) (λ_ i _=>ws.length-(intOf i).toNat)
 case atStart =>
  refine ⟨0,[],bd,Nat.zero_le _,rfl,?_,HB.o.keep ((Below.refl _ _).alloc (Nat.le_refl _) _),QD ((Below.refl _ _).alloc (Nat.le_refl _) _),⟨rfl,λe=>⟨e,trivial⟩,λe _=>e⟩⟩
  exact World.ownsRow_made w #[] 0 (Nat.le_refl _) (by unfold maxLen;omega) rfl
 case round =>
  obtain ⟨k,acc,b2,hk,rfl,hown,hpb,hg,hh⟩:=hrel;have hacc:acc.length<=1099511627776:=by have:=hh.o.1;omega
  have HO:=Hm hown;have HP:=Hm hpb;have HG:=Hm hg;have hs:=hg.size;obtain ⟨va,vc,rfl⟩:=Qw hown;clear hown hpb hg
  by_cases hlt:k<ws.length
  . have hki:(k:Int)<(ws.length:Int):=by omega
    rcases HW.o.grown HG.o hp with e|⟨b,o,rfl,hbp,hc⟩
    . subst e;simp at hlt
    have ck:=hc k hlt;have hmem:ws.getD k [] ∈ ws:=by simp [List.getD,hlt]
    have het:ws.take (k+1)=ws.take k++[ws.getD k []]:=by rw [List.take_succ];simp [List.getD,hlt]
    have HT:=Hm het;have K:=Hm (su32_c (ws.getD k []) wr (hl _ hmem));have w5:IntKind.i64.wrap ((k:Int)+1)=(k:Int)+1:=by rw [IntKind.wrap_i64];omega
    clear hc hmem het;generalize ws.getD k []=s at *
    cases hok:okN 0 4294967295 s with
   |true =>
     rw [hok] at K;have HOK:=Hm hok;clear hok
     go_wp2_with fail
     refine K.o.mono ?_
     rintro e w1 ⟨rfl,x,rfl,hx⟩;have HX:=Hm (hx trivial);clear hx K
     go_wp2_with (at_builtin;refine wpList_append_own _ rfl _ _ 24 rfl w.heap.size 2 i0 (.int .i64 0) 1 8 Tryz.underlying24 hi hz0 hz1 hz2 rfl (by decide) _ _ _ rfl (HO.o.alloc _) ⟨wr.heap.size,0,none⟩ 1 1 [.int .i64 x] rfl rfl (cell_one_new _ _ _) (oneI _) (by unfold maxLen;omega) (by omega) (by simp;omega) ?_;intro v3 w3 own3 gr3 hnn;have HO3:Hid (w3.ownsRow w.heap.size 2 1 v3 (acc++[x]).length (I (acc++[x]))):=(by show World.ownsRow _ _ _ _ _ _ _;simpa [I] using own3);have HR3:=Hm (((HP.o.keep ((Below.refl _ _).alloc (Nat.le_refl _) _))).grown gr3 (λe=>by have:=(HO.o.lt p e).1;omega));have HG3:=Hm (show w.grownBy w3 (some p) from ⟨gr3.os.trans HG.o.os,gr3.tape.trans HG.o.tape,gr3.output.trans HG.o.output,Nat.le_trans hs (Nat.le_trans (by simp) gr3.size),λj hj hne=>(gr3.block j (by simp;omega) (λe=>by have:=(HO.o.lt j e.symm).1;omega)).trans ((QC wr _ j (by omega)).trans (HG.o.block j hj hne))⟩);clear own3 gr3 hnn)
     go_roundw
     case rel=>exact ⟨k+1,acc++[x],b2,by omega,by go_num,HO3.o,HR3.o,HG3.o,⟨by simp [hh.o.1],λe=>⟨(hh.o.2.1 e).1,by rw [HT.o];exact nms_snoc ⟨HOK.o,HX.o⟩ _ _ (hh.o.2.1 e).2⟩,λe hf=>hh.o.2.2 e (λt ht=>hf t (by rw [HT.o];simp [ht]))⟩⟩
     case measure=>simp [intOf];omega
   |false =>
     rw [hok] at K;have HOK:=Hm hok;have KB:=Hm (JP p b2 wr HP.o);clear hok
     go_wp2_with fail
     refine K.o.mono ?_
     rintro e w1 ⟨rfl,x,rfl,-⟩;clear K
     go_wp2_with fail
     refine KB.o.mono ?_
     rintro e w2 ⟨rfl,hp2,hg2⟩;have HP2:=Hm hp2;have HG2:=Hm (Qa HG.o hg2);have HO2:=Hm (JC HO.o hg2 (λj hj e=>by have:=(HO.o.lt j hj).1;cases e;omega));have hs2:=HG2.o.size;clear hp2 hg2 KB HO HP HG
     go_wp2_with (at_builtin;refine wpList_append_own _ rfl _ _ 24 rfl w.heap.size 2 i0 (.int .i64 0) 1 8 Tryz.underlying24 hi hz0 hz1 hz2 rfl (by decide) _ _ _ rfl (HO2.o.alloc _) ⟨w2.heap.size,0,none⟩ 1 1 [.int .i64 x] rfl rfl (cell_one_new _ _ _) (oneI _) (by unfold maxLen;omega) (by omega) (by simp;omega) ?_;intro v3 w3 own3 gr3 hnn;have HO3:Hid (w3.ownsRow w.heap.size 2 1 v3 (acc++[x]).length (I (acc++[x]))):=(by show World.ownsRow _ _ _ _ _ _ _;simpa [I] using own3);have HR3:=Hm (((HP2.o.keep ((Below.refl _ _).alloc (Nat.le_refl _) _))).grown gr3 (λe=>by have:=(HO2.o.lt p e).1;omega));have HG3:=Hm (show w.grownBy w3 (some p) from ⟨gr3.os.trans HG2.o.os,gr3.tape.trans HG2.o.tape,gr3.output.trans HG2.o.output,Nat.le_trans hs2 (Nat.le_trans (by simp) gr3.size),λj hj hne=>(gr3.block j (by simp;omega) (λe=>by have:=(HO2.o.lt j e.symm).1;omega)).trans ((QC w2 _ j (by omega)).trans (HG2.o.block j hj hne))⟩);clear own3 gr3 hnn)
     go_roundw
     case rel=>exact ⟨k+1,acc++[x],true,by omega,by go_num,HO3.o,HR3.o,HG3.o,⟨by simp [hh.o.1],λe=>absurd e (by decide),λe hf=>absurd (hf s (by rw [HT.o];simp)) (by rw [HOK.o];decide)⟩⟩
     case measure=>simp [intOf];omega
  . have e:k=ws.length:=by omega
    subst e;have hki:¬ (ws.length:Int)<(ws.length:Int):=by omega
    go_wp2
    go_ret
    refine ⟨_,acc,b2,rfl,HO.o,hh.o.1,HP.o,HG.o,?_,?_⟩
    . have:=hh.o.2.1;rwa [List.take_length] at this
    . have:=hh.o.2.2;rwa [List.take_length] at this
end Go.Proofs.YtipfjdogokanbaaGreatDoor.Yz
