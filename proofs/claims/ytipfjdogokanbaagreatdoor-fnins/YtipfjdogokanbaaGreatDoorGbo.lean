import Derived.Test.YtipfjdogokanbaaGreatDoorGaa
import Derived.Test.YtipfjdogokanbaaGreatDoorGas
import Derived.Test.YtipfjdogokanbaaGreatDoorGbn
import Derived.Test.YtipfjdogokanbaaGreatDoorGax
set_option linter.all false
set_option maxHeartbeats 400000000
set_option maxRecDepth 100000
set_option linter.all false
namespace Go.Proofs.YtipfjdogokanbaaGreatDoor.An
open Go.RowKit Go.Sort
theorem below2 (g:Nat)(a:Option Addr)(cap:Nat)(xs:List Int)(n:Int)(w:World)(hl:xs.length<=1099511627776)(hB:L3.Qt xs)(hC:L3.Cur w g a cap xs)(hn:1<=n)(hn':n<=1099511627776) :
    Calls Tryz.prog 33 #[.pointer (some ⟨g,0,none⟩),.int .i64 n] w λe w'=>∃ x:Int,e=.returned (.int .i64 x)/\0<=x/\x<n/\L3.Cur w' g a cap xs/\w.grownBy w' (some g):=by
 by_cases h:n<=256
 . exact L3.JX g a cap xs n w hl hB hC hn h
 . have KY:=Hm (λW (hC:L3.Cur W g a cap xs)=>L3.byte_any g a cap xs W hl hB hC);have HC:=Hm hC;clear hC hB
   go_enter Tryz.func33,Tryz.ntmps33
   go_wp2_with fail
   refine (KY.o _ HC.o).mono ?_
   rintro e w1 ⟨x,rfl,hx0,hx1,hc,hg⟩;have HC:=Hm hc;have HG:=Hm hg;clear hc hg
   go_wp2_with fail
   refine (KY.o _ HC.o).mono ?_
   rintro e w2 ⟨y,rfl,hy0,hy1,hc,hg⟩;have HC:=Hm hc;have HG:=Hm (L3.Qa HG.o hg);clear hc hg
   go_wp2_with fail
   refine (KY.o _ HC.o).mono ?_
   rintro e w3 ⟨z,rfl,hz0,hz1,hc,hg⟩;have HC:=Hm hc;have HG:=Hm (L3.Qa HG.o hg);clear hc hg;have hm:=Int.emod_lt_of_pos (x*65536+y*256+z) (show 0<n by omega);have hm':=Int.emod_nonneg (x*65536+y*256+z) (show n≠0 by omega);have HM:=Hm (And.intro hm' hm);clear hm hm'
   go_wp2
   go_ret
   exact ⟨_,rfl,HM.o.1,HM.o.2,HC.o,HG.o⟩
def DeP (w:World)(e:Ending)(w':World):Prop:=∃ (x:In) (la:Option Addr) (lc:Nat),e=.returned (inV x la lc)/\IB x/\LV w' (λk=>k<w.heap.size) (.slice la x.l.length lc) x.l/\Below w.heap.size w w'
theorem de_c (a:Option Addr)(cap:Nat)(xs:List Int)(w:World)(hl:xs.length<=1099511627776)(hB:L3.Qt xs)(ha:L3.Has w a xs) :
    Calls Tryz.prog 4 #[.slice a xs.length cap] w (DeP w):=by
 have KN:=Hm (λW (h:Below w.heap.size w W)=>L3.new_any a cap xs W hl hB (ha.below h));have KA:=Hm (λ(g:Nat) W (hC:L3.Cur W g a cap xs)=>any_c g a cap xs W hl hB hC);clear ha hB
 go_enter Tryz.func4,Tryz.ntmps4
 go_upto_region 1 with fail
 refine Qj (λW=>Bk W w.heap.size [.int .i64 0,.int .i64 0,.int .i64 0,.int .u64 0,.slice none 0 0]/\Below w.heap.size w W) ⟨Bk.new,(Below.refl _ _).alloc (Nat.le_refl _) _⟩ ?_
 rintro W0 ⟨b0,h0⟩;have KN0:=Hm (KN.o W0 h0);have H0:=Hm (And.intro b0 h0);clear b0 h0 KN
 go_wp2_with fail
 refine KN0.o.mono ?_
 rintro e w1 ⟨rfl,hc,hb1,hs1⟩;have KA0:=Hm (KA.o W0.heap.size w1 hc);have H1:=Hm hb1;clear hc hb1 KA KN0
 go_wp2_with fail
 refine KA0.o.mono ?_
 rintro e w2 ⟨x,la,lc,rfl,hib,hlv,hc2,hg2⟩;have hbl:w.heap.size<W0.heap.size:=H0.o.1.1;have b2:=(H0.o.1.keep H1.o).grown hg2 (by simp;omega);have q0:=b2.2.1 0 _ rfl;have q1:=b2.2.1 1 _ rfl;have q2:=b2.2.1 2 _ rfl;have q3:=b2.2.1 3 _ rfl;have q4:=b2.2.1 4 _ rfl;have fz:=b2.2.2;have hbw:Below w.heap.size w w2:=Jq (H0.o.2.trans (H1.o.mono H0.o.2.size)) hg2 (λq hq=>by injection hq with hq;omega);have HF:=Hm (And.intro b2 (And.intro hlv (And.intro hbw hib)));have hsz:w.heap.size<w1.heap.size:=by omega
 clear b2 hlv hbw hib hc2 hg2 KA0
 go_wp2
 refine Qf (fun U=>Bk U w.heap.size (cI x (.slice la x.l.length lc))/\LV U (fun k=>k<w.heap.size) (.slice la x.l.length lc) x.l/\Below w.heap.size w U) ⟨HF.o.1.set.set.set.set.set,HF.o.2.1.keep (by simp) (fun b hb hs=>⟨by
  have hne:b≠w.heap.size:=fun e=>hb (by show b<w1.heap.size;omega);rw [Below.heap_setCell _ _ _ _ hne,Below.heap_setCell _ _ _ _ hne,Below.heap_setCell _ _ _ _ hne,Below.heap_setCell _ _ _ _ hne,Below.heap_setCell _ _ _ _ hne],fun e=>hb (by show b<w1.heap.size;omega)⟩),((((HF.o.2.2.1.setCell (Nat.le_refl _) _).setCell (Nat.le_refl _) _).setCell (Nat.le_refl _) _).setCell (Nat.le_refl _) _).setCell (Nat.le_refl _) _⟩ ?_
 rintro U ⟨bU,lU,gU⟩;have s0:=bU.2.1 0 _ rfl;have s1:=bU.2.1 1 _ rfl;have s2:=bU.2.1 2 _ rfl;have s3:=bU.2.1 3 _ rfl;have s4:=bU.2.1 4 _ rfl;have HU:=Hm (And.intro lU gU);clear bU lU gU
 exact bodyPost_ret (v:=inV x la lc) (by simp [results,Tryz.results4,go_sem,s0,s1,s2,s3,s4,inV]) rfl ⟨x,la,lc,rfl,HF.o.2.2.2,HU.o.1,HU.o.2⟩
end Go.Proofs.YtipfjdogokanbaaGreatDoor.An
set_option linter.all false
namespace Go.Proofs.YtipfjdogokanbaaGreatDoor.An
open Go.RowKit Go.Sort
theorem LV.has {w:World}{S:Nat->Prop}{la:Option Addr}{n lc:Nat}{l:List Int}(h:LV w S (.slice la n lc) l):Has w la l:=by
 rcases h with ⟨_,h0⟩|⟨b,o,c,e,h1,h2,h3⟩
 . exact .inl h0
 . injection e with e
   exact .inr ⟨b,o,e,h3⟩
theorem X6 {w:World}{B:Nat}{a:Option Addr}{n c:Nat}{bs:List Int}(h:w.ownsRow B 5 1 (.slice a n c) n (U bs)):n=bs.length/\L3.Has w a bs/\(∀ p,a=some p->p.block<w.heap.size)/\n<=c:=by
 have hn:n=bs.length:=by have:=h.1;simpa [U] using this.symm
 refine ⟨hn,?_⟩
 rcases h.2 with ⟨h0,h1⟩|⟨g,cap,cur,hv,hB,hh,h1,_⟩
 . injection h0 with e1 e2 e3
   subst e1
   refine ⟨.inl (List.eq_nil_of_length_eq_zero (by omega)),λp hp=>(by cases hp),by omega⟩
 . injection hv with e1 e2 e3
   subst e1 e3
   refine ⟨.inr ⟨g,0,rfl,λi hi=>?_⟩,λp hp=>(by cases hp;exact (h.lt g rfl).2),h1⟩
   rw [Nat.zero_add,h.cellAt i (by omega)]
   simp [U,List.getD,hi]
theorem Gk {x y:List Int}(hx:L3.Qt x)(hy:L3.Qt y):L3.Qt (x++y):=by
 intro i
 rcases Nat.lt_or_ge i x.length with h|h
 . have:=hx i
   simp only [List.getD,List.getElem?_append_left h] at this⊢
   exact this
 . have:=hy (i-x.length)
   simp only [List.getD,List.getElem?_append_right h] at this⊢
   exact this
theorem GA {x:List Int}(hx:L3.Qt x)(n:Nat):L3.Qt (x.take n):=by
 intro i
 have:=hx i
 simp only [List.getD,List.getElem?_take] at this⊢
 split
 . exact this
 . simp
theorem allB_set {x:List Int}(hx:L3.Qt x)(n:Nat)(z:Int)(h0:0<=z)(h1:z<=255):L3.Qt (x.set n z):=by
 intro i
 have:=hx i
 simp only [List.getD,List.getElem?_set] at this⊢
 split
 . split
   . simp;omega
   . simp
 . exact this
theorem enc_bytes (x:In)(hn:x.l.length<=4294967295):∀ b ∈ Ed.QS x,0<=b/\b<=255:=by
 have key:∀ y,0<=y->y<=4294967295->∀ b ∈ QH 9 y,0<=b/\b<=255:=λy h0 h1=>lebU_bytes 9 y h0 (fitU_start (by omega))
 have kfx:∀ (k:Nat) (v:Int),∀ b ∈ Ed.fx k v,0<=b/\b<=255:=λk v b hb=>by
  simp only [Ed.fx,List.mem_map] at hb
  obtain ⟨i,_,rfl⟩:=hb
  omega
 unfold Ed.QS
 split
 . rename_i hg
   unfold gd at hg;unfold Ed.Gw;generalize Qd (Qb x.op)=f at *
   intro b hb
   rcases List.mem_cons.1 hb with rfl|hb'
   . omega
   . clear hb;have hb:=hb';clear hb';unfold Ed.QM at hb;unfold Qg at hg
     simp only [Ji] at hg
     repeat' split at hb
     . simp at hb;omega
     . rename_i h1 h2;subst h2;simp at hg;exact key _ hg.1.1.1.1 hg.1.1.1.2 b hb
     . rename_i h1 h2 h3
       subst h3
       simp at hg
       simp only [List.mem_append] at hb
       rcases hb with (hb|hb)|hb
       . exact key _ (by omega) (by omega) b hb
       . simp only [Ed.Jm,List.mem_flatMap] at hb
         obtain ⟨y,hy,hb⟩:=hb
         have:=hg.1.1.1 y hy
         simp [Ji] at this
         exact key y this.1 this.2 b hb
       . exact key _ hg.1.1.2.1 hg.1.1.2.2 b hb
     . rename_i h1 h2 h3 h4;subst h4;simp at hg
       simp only [List.mem_append,List.mem_singleton] at hb
       rcases hb with hb|rfl
       . exact key _ hg.1.1.1.1 hg.1.1.1.2 b hb
       . omega
     . rename_i h1 h2 h3 h4 h5;subst h5;simp at hg
       simp only [List.mem_append] at hb
       rcases hb with hb|hb
       . exact key _ hg.1.1.1.1 hg.1.1.1.2 b hb
       . exact key _ hg.1.1.2.1 hg.1.1.2.2 b hb
     . simp at hb;omega
     . exact lebS_bytes 9 _ b hb
     . exact lebS_bytes 9 _ b hb
     . exact kfx 4 _ b hb
     . exact kfx 8 _ b hb
     . cases hb
 . intro b hb;cases hb
open Ed in
theorem enc_short (x:In)(hn:x.l.length<=4):(Ed.QS x).length<=1000:=by
 unfold Ed.QS
 split
 . simp only [Ed.Gw,Ed.QM,List.length_cons]
   have h1:=(Jc 9 x.a).2;have h2:=(Jc 9 x.b).2;have h3:=(Jc 9 x.l.length).2;have h4:=Ed.nums_len x.l;have h5:=(lebS_len 9 (Ed.s32 x.v)).2;have h6:=(lebS_len 9 (wrap64 x.v)).2;have h7:=Ed.Xd 4 x.v;have h8:=Ed.Xd 8 x.v
   repeat' split
   all_goals (try simp only [List.length_append,List.length_cons,List.length_nil])
   all_goals omega
 . simp
theorem encM_allB (x:In)(hn:x.l.length<=4294967295):L3.Qt (Ed.QS x):=by
 intro i
 by_cases hi:i<(Ed.QS x).length
 . rw [List.getD_eq_getElem?_getD,List.getElem?_eq_getElem hi];exact enc_bytes x hn _ (List.getElem_mem hi)
 . rw [List.getD_eq_getElem?_getD,List.getElem?_eq_none (by omega)];simp
structure Dr (w:World)(g:Nat)(a:Option Addr)(cap:Nat)(xs:List Int)(B:Nat)(v:Value)(n:Nat)(bs:List Int)(V:World):Prop where
 row:V.ownsRow B 5 1 v n (U bs)
 ab:L3.Qt bs
 c:L3.Cur V g a cap xs
 be:Below w.heap.size w V
 hg:w.heap.size<=g
 hB:g<B
 ln:n<=500000
theorem Dr.step {w:World}{g:Nat}{a:Option Addr}{cap:Nat}{xs:List Int}{B:Nat}{v:Value}{n:Nat}{bs:List Int}{V V':World}(h:Dr w g a cap xs B v n bs V)(hc:L3.Cur V' g a cap xs)(hg:V.grownBy V' (some g)):Dr w g a cap xs B v n bs V':=by
 have h1:=h.hB;have h2:=h.hg
 exact ⟨Js h.row (λk hk=>hg.block k (h.row.lt k hk).2 (λe=>by have:=(h.row.lt k hk).1;injection e with e;omega)),h.ab,hc,Jq h.be hg (λq hq=>by injection hq with hq;omega),h2,h1,h.ln⟩
theorem dr_open {w:World}{g:Nat}{a:Option Addr}{cap:Nat}{xs:List Int}{B:Nat}{v:Value}{n:Nat}{bs:List Int}{V:World}(h:Dr w g a cap xs B v n bs V)(hn:1<=n):∃ (n6:Nat) (bs6:List Int) (v6a:Option Addr) (v6c:Nat),v=.slice v6a n6 v6c/\1<=n6/\Dr w g a cap xs B (.slice v6a n6 v6c) n6 bs6 V:=by
 obtain ⟨a',c',rfl⟩:=Ql h.row
 exact ⟨n,bs,a',c',rfl,hn,h⟩
def DdP (w:World)(e:Ending)(w':World):Prop:=∃ (bs:List Int) (a':Option Addr) (c':Nat) (at_:Int),e=.returned (.tuple #[.slice a' bs.length c',.int .i64 at_])/\L3.Qt bs/\bs.length<=1000000/\bs.length<=c'/\L3.Has w' a' bs/\(∀ p,a'=some p->p.block<w'.heap.size)/\Below w.heap.size w w'
theorem Dr.fin {w:World}{g:Nat}{a:Option Addr}{cap:Nat}{xs:List Int}{B:Nat}{v:Value}{n m:Nat}{bs ys:List Int}{V W U1:World}{v3:Value}{o:Option Nat}(h:Dr w g a cap xs B v n bs V)(hb:Below w.heap.size w U1)(hg:U1.grownBy W o)(ho:∀ q,o=some q->w.heap.size<=q)(hr:W.ownsRow B 5 1 v3 m (U (bs++ys)))(hy:L3.Qt ys)(hl:ys.length<=1000)(at_:Int):∃ a' c',v3=.slice a' m c'/\DdP w (.returned (.tuple #[v3,.int .i64 at_])) W:=by
 obtain ⟨a',c',rfl⟩:=Ql hr;obtain ⟨h1,h2,h3,h4⟩:=X6 hr;have hn:n=bs.length:=by have:=h.row.1;simpa [U] using this.symm
 have hln:=h.ln
 refine ⟨a',c',rfl,bs++ys,a',c',at_,by rw [h1],Gk h.ab hy,by simp;omega,by omega,h2,h3,Jq hb hg ho⟩
theorem dd_c (a:Option Addr)(cap:Nat)(xs:List Int)(w:World)(hl:xs.length<=1099511627776)(hB:L3.Qt xs)(ha:L3.Has w a xs) :
    Calls Tryz.prog 11 #[.slice a xs.length cap] w (DdP w):=by
 obtain ⟨i5,hi5,ht0,ht1,ht2⟩:=info_parts infoB;have KN:=Hm (L3.new_any a cap xs w hl hB ha);have KA:=Hm (λ(g:Nat) W (hC:L3.Cur W g a cap xs)=>any_c g a cap xs W hl hB hC);have KB:=Hm (λ(g:Nat) (n:Int) (h1:1<=n) (h2:n<=1099511627776) W (hC:L3.Cur W g a cap xs)=>below2 g a cap xs n W hl hB hC h1 h2);have KO:=Hm (λ(g:Nat) (n:Int) W (hC:L3.Cur W g a cap xs) (h0:0<=n) (h1:n<=255)=>some_c n g a cap xs W hl hB hC h0 h1);clear ha hB
 go_enter Tryz.func11,Tryz.ntmps11
 go_wp2_with fail
 refine KN.o.mono ?_
 rintro e w1 ⟨rfl,hc1,hb1,hs1⟩;obtain ⟨g,hgw⟩:∃ g,g=w.heap.size:=⟨_,rfl⟩;rw [<- hgw] at hc1 hs1;rw [<- hgw];obtain ⟨lb,hlb⟩:∃ lb,lb=w1.heap.size:=⟨_,rfl⟩;have HW:=Hm (And.intro hgw hlb);have H1:=Hm (And.intro hc1 hb1);clear KN hc1 hb1 hgw;have HC2:Hid (∀ t,L3.Cur (w1.alloc (.cells #[.int .u8 1] t)) g a cap xs):=λt=>H1.o.1.below ((Below.refl w1.heap.size w1).alloc (Nat.le_refl _) _) hs1;have HO2:Hid (∀ t,(w1.alloc (.cells #[.int .u8 1] t)).ownsRow lb t 1 (.slice (some ⟨lb,0,none⟩) 1 1) 1 [.int .u8 1]):=λt=>by rw [hlb];exact World.ownsRow_lit w1 #[.int .u8 1] 1 (Nat.le_refl _) (by decide) rfl
 go_wp2_with fail
 rw [<- hlb]
 refine (KA.o g _ (HC2.o _)).mono ?_
 clear hlb;rintro e w3 ⟨x,la,lc,rfl,hib,hlv,hc3,hg3⟩;have HO3:=Hm (Js (HO2.o 5) (λk hk=>hg3.block k ((HO2.o 5).lt k hk).2 (λe=>by have:=((HO2.o 5).lt k hk).1;have:=HW.o;injection e with e;omega)));have hb3:Below w.heap.size w w3:=Jq (H1.o.2.trans (((Below.refl w1.heap.size w1).alloc (Nat.le_refl _) _).mono H1.o.2.size)) hg3 (λq hq=>by have:=HW.o.1;injection hq with hq;omega);have H3:=Hm (And.intro hc3 hb3);have hz3:lb<w3.heap.size:=by have h1:=hg3.size;simp at h1;have:=HW.o;omega
 have KE:=Hm (Ed.senc_c x la lc w3 hib.1 hib.2.1 (by have:=hib.2.2;omega) hlv.has);have hel:=enc_short x hib.2.2;have heb:L3.Qt (Ed.QS x):=encM_allB x (by have:=hib.2.2;omega);generalize Ed.QS x=L at *;clear hib hlv hc3 hg3 hb3 HC2 HO2 H1
 go_wp2_with fail
 refine KE.o.mono ?_
 rintro e w4 ⟨v5,rfl,o5,b5⟩;have hz4:lb<w4.heap.size:=by have:=b5.size;omega
 have HO4:=Hm (Js HO3.o (λk hk=>b5.block k (HO3.o.lt k hk).2));have hg4:g<w3.heap.size:=by have:=HW.o;omega
 have H4:=Hm (And.intro (H3.o.1.below b5 hg4) (H3.o.2.trans (b5.mono H3.o.2.size)))
 have HDR:Hid (∀ (W:World) (v:Value) (n:Nat) (bs:List Int),W.ownsRow lb 5 1 v n (U bs)->L3.Qt bs->w4.grownBy W (some lb)->n<=500000->Dr w g a cap xs lb v n bs W):=by
  intro W v n bs k1 k2 k3 k4
  have hw:=HW.o
  exact ⟨k1,k2,H4.o.1.below (B:=lb) ⟨k3.os,k3.tape,k3.output,k3.size,λk hk=>k3.block k (by omega) (λe=>by injection e with e;omega)⟩ (by omega),Jq H4.o.2 k3 (λq hq=>by injection hq with hq;omega),by omega,by omega,k4⟩
 clear HO3 H3 KE;have HNX:Hid (∃ V v5',v5'=v5/\V=w4):=⟨_,_,rfl,rfl⟩
 rcases o5.2 with ⟨hv5,hn5⟩|⟨g5,c5,cur5,hv5,-⟩
 . subst hv5;have hL0:L=[]:=List.eq_nil_of_length_eq_zero hn5;subst hL0;have HD0:Hid (Dr w g a cap xs lb (.slice (some ⟨lb,0,none⟩) 1 1) 1 [1] w4):=HDR.o w4 _ 1 [1] (by simpa [U] using HO4.o) (λi=>by match i with|0=>simp|i+1=>simp) ⟨rfl,rfl,rfl,Nat.le_refl _,λ_ _ _=>rfl⟩ (by omega);clear HDR o5 b5 H4
   go_upto_region 4 with (at_builtin;refine wpList_append_own_none rfl _ _ 22 rfl lb 5 i5 1 Tryz.underlying22 hi5 (.slice (some ⟨lb,0,none⟩) 1 1) 1 _ rfl HO4.o rfl ?_)
   obtain ⟨n6,bs6,v6a,v6c,hv6e,hn61,hD⟩:∃ (n6:Nat) (bs6:List Int) (v6a:Option Addr) (v6c:Nat),Value.slice (some ⟨lb,0,none⟩) 1 1=.slice v6a n6 v6c/\1<=n6/\Dr w g a cap xs lb (.slice v6a n6 v6c) n6 bs6 w4:=⟨1,[1],_,_,rfl,Nat.le_refl _,HD0.o⟩;rw [hv6e];have HD:=Hm hD;clear hD HD0 hv6e HO4
   refine Qj (λV=>Dr w g a cap xs lb (.slice v6a n6 v6c) n6 bs6 V) HD.o ?_
   rintro V0 hD;have HD:=Hm hD;clear hD
   go_wp2_with fail
   refine (KB.o g 8 (by decide) (by decide) _ HD.o.c).mono ?_
   rintro e V1 ⟨k,rfl,hk0,hk1,hc,hg⟩;have HD:=Hm (HD.o.step hc hg);clear hc hg;have hn62:=HD.o.ln;have hbl6:bs6.length=n6:=by have:=HD.o.row.1;simpa [U] using this
   obtain ⟨g6,hv6⟩:∃ g6,v6a=some ⟨g6,0,none⟩:=by
    rcases HD.o.row.2 with ⟨_,h⟩|⟨g6,c6,cur6,e,-⟩
    . omega
    . injection e with e;exact ⟨g6,e⟩
   subst hv6
   by_cases hka:k=0
   . subst hka
     go_wp2_with fail
     refine (KB.o g 256 (by decide) (by decide) _ HD.o.c).mono ?_
     rintro e V2 ⟨x8,rfl,hx0,hx1,hc,hg⟩;have HD:=Hm (HD.o.step hc hg);clear hc hg
     go_wp2_with fail
     refine (KB.o g (n6:Int) (by omega) (by omega) _ HD.o.c).mono ?_
     rintro e V3 ⟨i8,rfl,hi0,hi1,hc,hg⟩;have HD:=Hm (HD.o.step hc hg);clear hc hg;obtain ⟨j8,rfl⟩:∃ j8:Nat,i8=(j8:Int):=⟨i8.toNat,by omega⟩
     obtain ⟨u8,hu8⟩:∃ u,V3.cell? ⟨g6,j8,none⟩=some u:=by
      rw [HD.o.row.cellAt j8 (by omega)]
      exact ⟨_,List.getElem?_eq_getElem (by simp [U];omega)⟩
     have hz8:=HD.o.row.frozenAt j8;have hw8:IntKind.u8.wrap x8=x8:=by rw [IntKind.wrap_u8];omega
     have HS:Hid (Dr w g a cap xs lb (.slice (some ⟨g6,0,none⟩) n6 v6c) n6 (bs6.set j8 x8) (V3.setCell ⟨g6,j8,none⟩ (.int .u8 x8))):=by
      obtain ⟨s1,s2⟩:=HD.o.row.stored j8 (.int .u8 x8);have hge:=(HD.o.row.lt g6 rfl).1;have h1:=HD.o.hB;have h2:=HD.o.hg;rw [show (U bs6).set j8 (.int .u8 x8)=U (bs6.set j8 x8) by simp [U,List.map_set]] at s1
      exact ⟨s1,allB_set HD.o.ab j8 x8 hx0 (by omega),HD.o.c.below ((Below.refl lb V3).setCell hge _) h1,HD.o.be.setCell (by show _<=g6;omega) _,h2,h1,HD.o.ln⟩
     clear HD
     go_upto_region 8 with fail
     refine Qj (λV=>Dr w g a cap xs lb (.slice (some ⟨g6,0,none⟩) n6 v6c) n6 (bs6.set j8 x8) V) HS.o ?_
     rintro V4 hD;have HD:=Hm hD;clear hD HS hu8 hz8
     go_wp2_with fail
     refine (KB.o g 3 (by decide) (by decide) _ HD.o.c).mono ?_
     rintro e Y1 ⟨y3,rfl,h30,h31,hc,hg⟩;have HD:=Hm (HD.o.step hc hg);clear hc hg
     go_wp2_with fail
     refine (KO.o g y3 _ HD.o.c h30 (by omega)).mono ?_
     rintro e Y2 ⟨v9,ys,rfl,hyl,hya,hyo,hc,hg⟩;have HD:=Hm (HD.o.step hc hg);have hlbY:lb<=Y2.heap.size:=by have:=(HD.o.row.lt g6 rfl);omega
     have HFN:Hid (∀ W v3 o m,Y2.grownBy W o->(∀ q,o=some q->w.heap.size<=q)->W.ownsRow lb 5 1 v3 m (U (bs6.set j8 x8++ys))->∀ at_,∃ a' c',v3=.slice a' m c'/\DdP w (.returned (.tuple #[v3,.int .i64 at_])) W):=λW v3 o m k1 k2 k3 at_=>HD.o.fin HD.o.be k1 k2 k3 hya (by omega) at_;have HOR:=Hm HD.o.row;have hlw:w.heap.size<=g6:=by have:=(HD.o.row.lt g6 rfl).1;have:=HD.o.hB;have:=HD.o.hg;omega
     clear hc hg HD
     rcases hyo.2 with ⟨hv9,hn9⟩|⟨g9,c9,cur9,hv9,-⟩
     . subst hv9;have hy0':ys=[]:=List.eq_nil_of_length_eq_zero hn9
       obtain ⟨a',c',e9,hP⟩:∃ a' c',Value.slice (some ⟨g6,0,none⟩) (n6) v6c=.slice a' (n6) c'/\∀ at_,DdP w (.returned (.tuple #[.slice (some ⟨g6,0,none⟩) (n6) v6c,.int .i64 at_])) Y2:=by
        refine ⟨_,_,rfl,λat_=>?_⟩
        obtain ⟨_,_,_,h⟩:=HFN.o Y2 (.slice (some ⟨g6,0,none⟩) (n6) v6c) none (n6) ⟨rfl,rfl,rfl,Nat.le_refl _,λ_ _ _=>rfl⟩ (λq hq=>by cases hq) (by rw [hy0',List.append_nil];exact HOR.o) at_
        exact h
       have HP:=Hm hP;clear hP e9 HFN hyo
       go_wp2_with (at_builtin;refine wpList_append_own_none rfl _ _ 22 rfl lb 5 i5 1 Tryz.underlying22 hi5 (.slice (some ⟨g6,0,none⟩) (n6) v6c) (n6) _ rfl HOR.o rfl ?_)
       go_simp
       go_wp2
       go_ret2
       exact HP.o _
     . subst hv9
       have HCL:Hid (∀ j u,(U ys)[j]?=some u->Y2.cell? ((⟨g9,0,none⟩:Addr).add j)=some u):=by
        intro j u hu
        rw [show (⟨g9,0,none⟩:Addr).add j=⟨g9,0+j,none⟩ by unfold Addr.add;split<;>simp_all];have hj:j<ys.length:=by have:=(List.getElem?_eq_some_iff.1 hu).1;simpa [U] using this
        rw [Nat.zero_add,hyo.cellAt j (by omega)]
        exact hu
       clear hyo
       go_wp2_with (at_builtin;refine wpList_append_own_at _ rfl _ _ 22 rfl lb 5 i5 (.int .u8 0) 1 1 Tryz.underlying22 hi5 ht0 ht1 ht2 rfl (by decide) (.slice (some ⟨g6,0,none⟩) (n6) v6c) (n6) _ rfl HOR.o ⟨g9,0,none⟩ ys.length c9 (U ys) rfl (by simp [U]) HCL.o (by simp [U,Value.oneCell']) (by unfold maxLen;omega) (by omega) hlbY ?_;intro v3 W3 o3 g3 hn3 hat3;have hP:=HFN.o W3 v3 _ _ g3 (λq hq=>by have e:g6=q:=(by simpa [Value.ownBlock] using hq);omega) (by simpa [U] using o3);have HP:=Hm (λat_=>(hP at_).choose_spec.choose_spec.2);obtain ⟨v3a,v3c,rfl⟩:=Ql o3;clear o3 g3 hn3 hat3 hP HFN)
       go_simp
       go_wp2
       go_ret2
       exact HP.o _
   . by_cases hkb:k=1
     . subst hkb;have hsl:(n6:Int)-1=((n6-1:Nat):Int):=by omega
       have HD':Hid (Dr w g a cap xs lb (.slice (some ⟨g6,0,none⟩) (n6-1) v6c) (n6-1) (bs6.take (n6-1)) V1):=by
        have hp:=own_pre (m:=n6-1) HD.o.row (by omega);rw [Nat.mul_one,show (U bs6).take (n6-1)=U (bs6.take (n6-1)) by simp [U,List.map_take]] at hp
        exact ⟨hp,GA HD.o.ab _,HD.o.c,HD.o.be,HD.o.hg,HD.o.hB,by omega⟩
       have hcp:n6<=v6c:=(X6 HD.o.row).2.2.2;have htn:((n6:Int)-1).toNat=n6-1:=by omega
       clear HD;have HD:=HD';clear HD'
       go_wp2_with fail
       refine (KB.o g 3 (by decide) (by decide) _ HD.o.c).mono ?_
       rintro e Y1 ⟨y3,rfl,h30,h31,hc,hg⟩;have HD:=Hm (HD.o.step hc hg);clear hc hg
       go_wp2_with fail
       refine (KO.o g y3 _ HD.o.c h30 (by omega)).mono ?_
       rintro e Y2 ⟨v9,ys,rfl,hyl,hya,hyo,hc,hg⟩;have HD:=Hm (HD.o.step hc hg);have hlbY:lb<=Y2.heap.size:=by have:=(HD.o.row.lt g6 rfl);omega
       have HFN:Hid (∀ W v3 o m,Y2.grownBy W o->(∀ q,o=some q->w.heap.size<=q)->W.ownsRow lb 5 1 v3 m (U (bs6.take (n6-1)++ys))->∀ at_,∃ a' c',v3=.slice a' m c'/\DdP w (.returned (.tuple #[v3,.int .i64 at_])) W):=λW v3 o m k1 k2 k3 at_=>HD.o.fin HD.o.be k1 k2 k3 hya (by omega) at_;have HOR:=Hm HD.o.row;have hlw:w.heap.size<=g6:=by have:=(HD.o.row.lt g6 rfl).1;have:=HD.o.hB;have:=HD.o.hg;omega
       clear hc hg HD
       rcases hyo.2 with ⟨hv9,hn9⟩|⟨g9,c9,cur9,hv9,-⟩
       . subst hv9;have hy0':ys=[]:=List.eq_nil_of_length_eq_zero hn9
         obtain ⟨a',c',e9,hP⟩:∃ a' c',Value.slice (some ⟨g6,0,none⟩) (n6-1) v6c=.slice a' (n6-1) c'/\∀ at_,DdP w (.returned (.tuple #[.slice (some ⟨g6,0,none⟩) (n6-1) v6c,.int .i64 at_])) Y2:=by
          refine ⟨_,_,rfl,λat_=>?_⟩
          obtain ⟨_,_,_,h⟩:=HFN.o Y2 (.slice (some ⟨g6,0,none⟩) (n6-1) v6c) none (n6-1) ⟨rfl,rfl,rfl,Nat.le_refl _,λ_ _ _=>rfl⟩ (λq hq=>by cases hq) (by rw [hy0',List.append_nil];exact HOR.o) at_
          exact h
         have HP:=Hm hP;clear hP e9 HFN hyo
         go_wp2_with (at_builtin;refine wpList_append_own_none rfl _ _ 22 rfl lb 5 i5 1 Tryz.underlying22 hi5 (.slice (some ⟨g6,0,none⟩) (n6-1) v6c) (n6-1) _ rfl HOR.o rfl ?_)
         go_simp
         go_wp2
         go_ret2
         exact HP.o _
       . subst hv9
         have HCL:Hid (∀ j u,(U ys)[j]?=some u->Y2.cell? ((⟨g9,0,none⟩:Addr).add j)=some u):=by
          intro j u hu
          rw [show (⟨g9,0,none⟩:Addr).add j=⟨g9,0+j,none⟩ by unfold Addr.add;split<;>simp_all];have hj:j<ys.length:=by have:=(List.getElem?_eq_some_iff.1 hu).1;simpa [U] using this
          rw [Nat.zero_add,hyo.cellAt j (by omega)]
          exact hu
         clear hyo
         go_wp2_with (at_builtin;refine wpList_append_own_at _ rfl _ _ 22 rfl lb 5 i5 (.int .u8 0) 1 1 Tryz.underlying22 hi5 ht0 ht1 ht2 rfl (by decide) (.slice (some ⟨g6,0,none⟩) (n6-1) v6c) (n6-1) _ rfl HOR.o ⟨g9,0,none⟩ ys.length c9 (U ys) rfl (by simp [U]) HCL.o (by simp [U,Value.oneCell']) (by unfold maxLen;omega) (by omega) hlbY ?_;intro v3 W3 o3 g3 hn3 hat3;have hP:=HFN.o W3 v3 _ _ g3 (λq hq=>by have e:g6=q:=(by simpa [Value.ownBlock] using hq);omega) (by simpa [U] using o3);have HP:=Hm (λat_=>(hP at_).choose_spec.choose_spec.2);obtain ⟨v3a,v3c,rfl⟩:=Ql o3;clear o3 g3 hn3 hat3 hP HFN)
         go_simp
         go_wp2
         go_ret2
         exact HP.o _
     . by_cases hkc:k=2
       . subst hkc
         go_wp2_with fail
         refine (KB.o g 9 (by decide) (by decide) _ HD.o.c).mono ?_
         rintro e V2 ⟨y9,rfl,hy0,hy1,hc,hg⟩;have HD:=Hm (HD.o.step hc hg);clear hc hg
         go_wp2_with fail
         refine (KB.o g 3 (by decide) (by decide) _ HD.o.c).mono ?_
         rintro e Y1 ⟨y3,rfl,h30,h31,hc,hg⟩;have HD:=Hm (HD.o.step hc hg);clear hc hg
         go_wp2_with fail
         refine (KO.o g y3 _ HD.o.c h30 (by omega)).mono ?_
         rintro e Y2 ⟨v9,ys,rfl,hyl,hya,hyo,hc,hg⟩;have HD:=Hm (HD.o.step hc hg);have hlbY:lb<=Y2.heap.size:=by have:=(HD.o.row.lt g6 rfl);omega
         have HFN:Hid (∀ W v3 o m,Y2.grownBy W o->(∀ q,o=some q->w.heap.size<=q)->W.ownsRow lb 5 1 v3 m (U (bs6++ys))->∀ at_,∃ a' c',v3=.slice a' m c'/\DdP w (.returned (.tuple #[v3,.int .i64 at_])) W):=λW v3 o m k1 k2 k3 at_=>HD.o.fin HD.o.be k1 k2 k3 hya (by omega) at_;have HOR:=Hm HD.o.row;have hlw:w.heap.size<=g6:=by have:=(HD.o.row.lt g6 rfl).1;have:=HD.o.hB;have:=HD.o.hg;omega
         clear hc hg HD
         rcases hyo.2 with ⟨hv9,hn9⟩|⟨g9,c9,cur9,hv9,-⟩
         . subst hv9;have hy0':ys=[]:=List.eq_nil_of_length_eq_zero hn9
           obtain ⟨a',c',e9,hP⟩:∃ a' c',Value.slice (some ⟨g6,0,none⟩) (n6) v6c=.slice a' (n6) c'/\∀ at_,DdP w (.returned (.tuple #[.slice (some ⟨g6,0,none⟩) (n6) v6c,.int .i64 at_])) Y2:=by
            refine ⟨_,_,rfl,λat_=>?_⟩
            obtain ⟨_,_,_,h⟩:=HFN.o Y2 (.slice (some ⟨g6,0,none⟩) (n6) v6c) none (n6) ⟨rfl,rfl,rfl,Nat.le_refl _,λ_ _ _=>rfl⟩ (λq hq=>by cases hq) (by rw [hy0',List.append_nil];exact HOR.o) at_
            exact h
           have HP:=Hm hP;clear hP e9 HFN hyo
           go_wp2_with (at_builtin;refine wpList_append_own_none rfl _ _ 22 rfl lb 5 i5 1 Tryz.underlying22 hi5 (.slice (some ⟨g6,0,none⟩) (n6) v6c) (n6) _ rfl HOR.o rfl ?_)
           go_simp
           go_wp2
           go_ret2
           exact HP.o _
         . subst hv9
           have HCL:Hid (∀ j u,(U ys)[j]?=some u->Y2.cell? ((⟨g9,0,none⟩:Addr).add j)=some u):=by
            intro j u hu
            rw [show (⟨g9,0,none⟩:Addr).add j=⟨g9,0+j,none⟩ by unfold Addr.add;split<;>simp_all];have hj:j<ys.length:=by have:=(List.getElem?_eq_some_iff.1 hu).1;simpa [U] using this
            rw [Nat.zero_add,hyo.cellAt j (by omega)]
            exact hu
           clear hyo
           go_wp2_with (at_builtin;refine wpList_append_own_at _ rfl _ _ 22 rfl lb 5 i5 (.int .u8 0) 1 1 Tryz.underlying22 hi5 ht0 ht1 ht2 rfl (by decide) (.slice (some ⟨g6,0,none⟩) (n6) v6c) (n6) _ rfl HOR.o ⟨g9,0,none⟩ ys.length c9 (U ys) rfl (by simp [U]) HCL.o (by simp [U,Value.oneCell']) (by unfold maxLen;omega) (by omega) hlbY ?_;intro v3 W3 o3 g3 hn3 hat3;have hP:=HFN.o W3 v3 _ _ g3 (λq hq=>by have e:g6=q:=(by simpa [Value.ownBlock] using hq);omega) (by simpa [U] using o3);have HP:=Hm (λat_=>(hP at_).choose_spec.choose_spec.2);obtain ⟨v3a,v3c,rfl⟩:=Ql o3;clear o3 g3 hn3 hat3 hP HFN)
           go_simp
           go_wp2
           go_ret2
           exact HP.o _
       . have hk1':(k==0)=false:=by simpa using hka
         have hk2':(k==1)=false:=by simpa using hkb
         have hk3':(k==2)=false:=by simpa using hkc
         go_wp2_with fail
         refine (KB.o g 3 (by decide) (by decide) _ HD.o.c).mono ?_
         rintro e Y1 ⟨y3,rfl,h30,h31,hc,hg⟩;have HD:=Hm (HD.o.step hc hg);clear hc hg
         go_wp2_with fail
         refine (KO.o g y3 _ HD.o.c h30 (by omega)).mono ?_
         rintro e Y2 ⟨v9,ys,rfl,hyl,hya,hyo,hc,hg⟩;have HD:=Hm (HD.o.step hc hg);have hlbY:lb<=Y2.heap.size:=by have:=(HD.o.row.lt g6 rfl);omega
         have HFN:Hid (∀ W v3 o m,Y2.grownBy W o->(∀ q,o=some q->w.heap.size<=q)->W.ownsRow lb 5 1 v3 m (U (bs6++ys))->∀ at_,∃ a' c',v3=.slice a' m c'/\DdP w (.returned (.tuple #[v3,.int .i64 at_])) W):=λW v3 o m k1 k2 k3 at_=>HD.o.fin HD.o.be k1 k2 k3 hya (by omega) at_;have HOR:=Hm HD.o.row;have hlw:w.heap.size<=g6:=by have:=(HD.o.row.lt g6 rfl).1;have:=HD.o.hB;have:=HD.o.hg;omega
         clear hc hg HD
         rcases hyo.2 with ⟨hv9,hn9⟩|⟨g9,c9,cur9,hv9,-⟩
         . subst hv9;have hy0':ys=[]:=List.eq_nil_of_length_eq_zero hn9
           obtain ⟨a',c',e9,hP⟩:∃ a' c',Value.slice (some ⟨g6,0,none⟩) (n6) v6c=.slice a' (n6) c'/\∀ at_,DdP w (.returned (.tuple #[.slice (some ⟨g6,0,none⟩) (n6) v6c,.int .i64 at_])) Y2:=by
            refine ⟨_,_,rfl,λat_=>?_⟩
            obtain ⟨_,_,_,h⟩:=HFN.o Y2 (.slice (some ⟨g6,0,none⟩) (n6) v6c) none (n6) ⟨rfl,rfl,rfl,Nat.le_refl _,λ_ _ _=>rfl⟩ (λq hq=>by cases hq) (by rw [hy0',List.append_nil];exact HOR.o) at_
            exact h
           have HP:=Hm hP;clear hP e9 HFN hyo
           go_wp2_with (at_builtin;refine wpList_append_own_none rfl _ _ 22 rfl lb 5 i5 1 Tryz.underlying22 hi5 (.slice (some ⟨g6,0,none⟩) (n6) v6c) (n6) _ rfl HOR.o rfl ?_)
           go_simp
           go_wp2
           go_ret2
           exact HP.o _
         . subst hv9
           have HCL:Hid (∀ j u,(U ys)[j]?=some u->Y2.cell? ((⟨g9,0,none⟩:Addr).add j)=some u):=by
            intro j u hu
            rw [show (⟨g9,0,none⟩:Addr).add j=⟨g9,0+j,none⟩ by unfold Addr.add;split<;>simp_all];have hj:j<ys.length:=by have:=(List.getElem?_eq_some_iff.1 hu).1;simpa [U] using this
            rw [Nat.zero_add,hyo.cellAt j (by omega)]
            exact hu
           clear hyo
           go_wp2_with (at_builtin;refine wpList_append_own_at _ rfl _ _ 22 rfl lb 5 i5 (.int .u8 0) 1 1 Tryz.underlying22 hi5 ht0 ht1 ht2 rfl (by decide) (.slice (some ⟨g6,0,none⟩) (n6) v6c) (n6) _ rfl HOR.o ⟨g9,0,none⟩ ys.length c9 (U ys) rfl (by simp [U]) HCL.o (by simp [U,Value.oneCell']) (by unfold maxLen;omega) (by omega) hlbY ?_;intro v3 W3 o3 g3 hn3 hat3;have hP:=HFN.o W3 v3 _ _ g3 (λq hq=>by have e:g6=q:=(by simpa [Value.ownBlock] using hq);omega) (by simpa [U] using o3);have HP:=Hm (λat_=>(hP at_).choose_spec.choose_spec.2);obtain ⟨v3a,v3c,rfl⟩:=Ql o3;clear o3 g3 hn3 hat3 hP HFN)
           go_simp
           go_wp2
           go_ret2
           exact HP.o _
 . subst hv5
   have HCL5:Hid (∀ j u,(U L)[j]?=some u->w4.cell? ((⟨g5,0,none⟩:Addr).add j)=some u):=by
    intro j u hu
    rw [show (⟨g5,0,none⟩:Addr).add j=⟨g5,0+j,none⟩ by unfold Addr.add;split<;>simp_all];have hj:j<L.length:=by have:=(List.getElem?_eq_some_iff.1 hu).1;simpa [U] using this
    rw [Nat.zero_add,o5.cellAt j (by omega)]
    exact hu
   clear o5 b5;have hlb4:lb<=w4.heap.size:=by omega
   go_upto_region 4 with (at_builtin;refine wpList_append_own_at _ rfl _ _ 22 rfl lb 5 i5 (.int .u8 0) 1 1 Tryz.underlying22 hi5 ht0 ht1 ht2 rfl (by decide) (.slice (some ⟨lb,0,none⟩) 1 1) 1 _ rfl HO4.o ⟨g5,0,none⟩ L.length c5 (U L) rfl (by simp [U]) HCL5.o (by simp [U,Value.oneCell']) (by unfold maxLen;omega) (by omega) hlb4 ?_;intro v6 w6 o6 g6' hn6' hat6;have hD0:=HDR.o w6 v6 (1+L.length) (1::L) (by simpa [U] using o6) (Gk (x:=[1]) (λi=>by match i with|0=>simp|i+1=>simp) heb) g6' (by omega);obtain ⟨n6,bs6,v6a,v6c,rfl,hn61,hD⟩:=dr_open hD0 (by omega);have HD:=Hm hD;clear o6 g6' hn6' hat6 hD hD0)
   refine Qj (λV=>Dr w g a cap xs lb (.slice v6a n6 v6c) n6 bs6 V) HD.o ?_
   rintro V0 hD;have HD:=Hm hD;clear hD
   go_wp2_with fail
   refine (KB.o g 8 (by decide) (by decide) _ HD.o.c).mono ?_
   rintro e V1 ⟨k,rfl,hk0,hk1,hc,hg⟩;have HD:=Hm (HD.o.step hc hg);clear hc hg;have hn62:=HD.o.ln;have hbl6:bs6.length=n6:=by have:=HD.o.row.1;simpa [U] using this
   obtain ⟨g6,hv6⟩:∃ g6,v6a=some ⟨g6,0,none⟩:=by
    rcases HD.o.row.2 with ⟨_,h⟩|⟨g6,c6,cur6,e,-⟩
    . omega
    . injection e with e;exact ⟨g6,e⟩
   subst hv6
   by_cases hka:k=0
   . subst hka
     go_wp2_with fail
     refine (KB.o g 256 (by decide) (by decide) _ HD.o.c).mono ?_
     rintro e V2 ⟨x8,rfl,hx0,hx1,hc,hg⟩;have HD:=Hm (HD.o.step hc hg);clear hc hg
     go_wp2_with fail
     refine (KB.o g (n6:Int) (by omega) (by omega) _ HD.o.c).mono ?_
     rintro e V3 ⟨i8,rfl,hi0,hi1,hc,hg⟩;have HD:=Hm (HD.o.step hc hg);clear hc hg;obtain ⟨j8,rfl⟩:∃ j8:Nat,i8=(j8:Int):=⟨i8.toNat,by omega⟩
     obtain ⟨u8,hu8⟩:∃ u,V3.cell? ⟨g6,j8,none⟩=some u:=by
      rw [HD.o.row.cellAt j8 (by omega)]
      exact ⟨_,List.getElem?_eq_getElem (by simp [U];omega)⟩
     have hz8:=HD.o.row.frozenAt j8;have hw8:IntKind.u8.wrap x8=x8:=by rw [IntKind.wrap_u8];omega
     have HS:Hid (Dr w g a cap xs lb (.slice (some ⟨g6,0,none⟩) n6 v6c) n6 (bs6.set j8 x8) (V3.setCell ⟨g6,j8,none⟩ (.int .u8 x8))):=by
      obtain ⟨s1,s2⟩:=HD.o.row.stored j8 (.int .u8 x8);have hge:=(HD.o.row.lt g6 rfl).1;have h1:=HD.o.hB;have h2:=HD.o.hg;rw [show (U bs6).set j8 (.int .u8 x8)=U (bs6.set j8 x8) by simp [U,List.map_set]] at s1
      exact ⟨s1,allB_set HD.o.ab j8 x8 hx0 (by omega),HD.o.c.below ((Below.refl lb V3).setCell hge _) h1,HD.o.be.setCell (by show _<=g6;omega) _,h2,h1,HD.o.ln⟩
     clear HD
     go_upto_region 8 with fail
     refine Qj (λV=>Dr w g a cap xs lb (.slice (some ⟨g6,0,none⟩) n6 v6c) n6 (bs6.set j8 x8) V) HS.o ?_
     rintro V4 hD;have HD:=Hm hD;clear hD HS hu8 hz8
     go_wp2_with fail
     refine (KB.o g 3 (by decide) (by decide) _ HD.o.c).mono ?_
     rintro e Y1 ⟨y3,rfl,h30,h31,hc,hg⟩;have HD:=Hm (HD.o.step hc hg);clear hc hg
     go_wp2_with fail
     refine (KO.o g y3 _ HD.o.c h30 (by omega)).mono ?_
     rintro e Y2 ⟨v9,ys,rfl,hyl,hya,hyo,hc,hg⟩;have HD:=Hm (HD.o.step hc hg);have hlbY:lb<=Y2.heap.size:=by have:=(HD.o.row.lt g6 rfl);omega
     have HFN:Hid (∀ W v3 o m,Y2.grownBy W o->(∀ q,o=some q->w.heap.size<=q)->W.ownsRow lb 5 1 v3 m (U (bs6.set j8 x8++ys))->∀ at_,∃ a' c',v3=.slice a' m c'/\DdP w (.returned (.tuple #[v3,.int .i64 at_])) W):=λW v3 o m k1 k2 k3 at_=>HD.o.fin HD.o.be k1 k2 k3 hya (by omega) at_;have HOR:=Hm HD.o.row;have hlw:w.heap.size<=g6:=by have:=(HD.o.row.lt g6 rfl).1;have:=HD.o.hB;have:=HD.o.hg;omega
     clear hc hg HD
     rcases hyo.2 with ⟨hv9,hn9⟩|⟨g9,c9,cur9,hv9,-⟩
     . subst hv9;have hy0':ys=[]:=List.eq_nil_of_length_eq_zero hn9
       obtain ⟨a',c',e9,hP⟩:∃ a' c',Value.slice (some ⟨g6,0,none⟩) (n6) v6c=.slice a' (n6) c'/\∀ at_,DdP w (.returned (.tuple #[.slice (some ⟨g6,0,none⟩) (n6) v6c,.int .i64 at_])) Y2:=by
        refine ⟨_,_,rfl,λat_=>?_⟩
        obtain ⟨_,_,_,h⟩:=HFN.o Y2 (.slice (some ⟨g6,0,none⟩) (n6) v6c) none (n6) ⟨rfl,rfl,rfl,Nat.le_refl _,λ_ _ _=>rfl⟩ (λq hq=>by cases hq) (by rw [hy0',List.append_nil];exact HOR.o) at_
        exact h
       have HP:=Hm hP;clear hP e9 HFN hyo
       go_wp2_with (at_builtin;refine wpList_append_own_none rfl _ _ 22 rfl lb 5 i5 1 Tryz.underlying22 hi5 (.slice (some ⟨g6,0,none⟩) (n6) v6c) (n6) _ rfl HOR.o rfl ?_)
       go_simp
       go_wp2
       go_ret2
       exact HP.o _
     . subst hv9
       have HCL:Hid (∀ j u,(U ys)[j]?=some u->Y2.cell? ((⟨g9,0,none⟩:Addr).add j)=some u):=by
        intro j u hu
        rw [show (⟨g9,0,none⟩:Addr).add j=⟨g9,0+j,none⟩ by unfold Addr.add;split<;>simp_all];have hj:j<ys.length:=by have:=(List.getElem?_eq_some_iff.1 hu).1;simpa [U] using this
        rw [Nat.zero_add,hyo.cellAt j (by omega)]
        exact hu
       clear hyo
       go_wp2_with (at_builtin;refine wpList_append_own_at _ rfl _ _ 22 rfl lb 5 i5 (.int .u8 0) 1 1 Tryz.underlying22 hi5 ht0 ht1 ht2 rfl (by decide) (.slice (some ⟨g6,0,none⟩) (n6) v6c) (n6) _ rfl HOR.o ⟨g9,0,none⟩ ys.length c9 (U ys) rfl (by simp [U]) HCL.o (by simp [U,Value.oneCell']) (by unfold maxLen;omega) (by omega) hlbY ?_;intro v3 W3 o3 g3 hn3 hat3;have hP:=HFN.o W3 v3 _ _ g3 (λq hq=>by have e:g6=q:=(by simpa [Value.ownBlock] using hq);omega) (by simpa [U] using o3);have HP:=Hm (λat_=>(hP at_).choose_spec.choose_spec.2);obtain ⟨v3a,v3c,rfl⟩:=Ql o3;clear o3 g3 hn3 hat3 hP HFN)
       go_simp
       go_wp2
       go_ret2
       exact HP.o _
   . by_cases hkb:k=1
     . subst hkb;have hsl:(n6:Int)-1=((n6-1:Nat):Int):=by omega
       have HD':Hid (Dr w g a cap xs lb (.slice (some ⟨g6,0,none⟩) (n6-1) v6c) (n6-1) (bs6.take (n6-1)) V1):=by
        have hp:=own_pre (m:=n6-1) HD.o.row (by omega);rw [Nat.mul_one,show (U bs6).take (n6-1)=U (bs6.take (n6-1)) by simp [U,List.map_take]] at hp
        exact ⟨hp,GA HD.o.ab _,HD.o.c,HD.o.be,HD.o.hg,HD.o.hB,by omega⟩
       have hcp:n6<=v6c:=(X6 HD.o.row).2.2.2;have htn:((n6:Int)-1).toNat=n6-1:=by omega
       clear HD;have HD:=HD';clear HD'
       go_wp2_with fail
       refine (KB.o g 3 (by decide) (by decide) _ HD.o.c).mono ?_
       rintro e Y1 ⟨y3,rfl,h30,h31,hc,hg⟩;have HD:=Hm (HD.o.step hc hg);clear hc hg
       go_wp2_with fail
       refine (KO.o g y3 _ HD.o.c h30 (by omega)).mono ?_
       rintro e Y2 ⟨v9,ys,rfl,hyl,hya,hyo,hc,hg⟩;have HD:=Hm (HD.o.step hc hg);have hlbY:lb<=Y2.heap.size:=by have:=(HD.o.row.lt g6 rfl);omega
       have HFN:Hid (∀ W v3 o m,Y2.grownBy W o->(∀ q,o=some q->w.heap.size<=q)->W.ownsRow lb 5 1 v3 m (U (bs6.take (n6-1)++ys))->∀ at_,∃ a' c',v3=.slice a' m c'/\DdP w (.returned (.tuple #[v3,.int .i64 at_])) W):=λW v3 o m k1 k2 k3 at_=>HD.o.fin HD.o.be k1 k2 k3 hya (by omega) at_;have HOR:=Hm HD.o.row;have hlw:w.heap.size<=g6:=by have:=(HD.o.row.lt g6 rfl).1;have:=HD.o.hB;have:=HD.o.hg;omega
       clear hc hg HD
       rcases hyo.2 with ⟨hv9,hn9⟩|⟨g9,c9,cur9,hv9,-⟩
       . subst hv9;have hy0':ys=[]:=List.eq_nil_of_length_eq_zero hn9
         obtain ⟨a',c',e9,hP⟩:∃ a' c',Value.slice (some ⟨g6,0,none⟩) (n6-1) v6c=.slice a' (n6-1) c'/\∀ at_,DdP w (.returned (.tuple #[.slice (some ⟨g6,0,none⟩) (n6-1) v6c,.int .i64 at_])) Y2:=by
          refine ⟨_,_,rfl,λat_=>?_⟩
          obtain ⟨_,_,_,h⟩:=HFN.o Y2 (.slice (some ⟨g6,0,none⟩) (n6-1) v6c) none (n6-1) ⟨rfl,rfl,rfl,Nat.le_refl _,λ_ _ _=>rfl⟩ (λq hq=>by cases hq) (by rw [hy0',List.append_nil];exact HOR.o) at_
          exact h
         have HP:=Hm hP;clear hP e9 HFN hyo
         go_wp2_with (at_builtin;refine wpList_append_own_none rfl _ _ 22 rfl lb 5 i5 1 Tryz.underlying22 hi5 (.slice (some ⟨g6,0,none⟩) (n6-1) v6c) (n6-1) _ rfl HOR.o rfl ?_)
         go_simp
         go_wp2
         go_ret2
         exact HP.o _
       . subst hv9
         have HCL:Hid (∀ j u,(U ys)[j]?=some u->Y2.cell? ((⟨g9,0,none⟩:Addr).add j)=some u):=by
          intro j u hu
          rw [show (⟨g9,0,none⟩:Addr).add j=⟨g9,0+j,none⟩ by unfold Addr.add;split<;>simp_all];have hj:j<ys.length:=by have:=(List.getElem?_eq_some_iff.1 hu).1;simpa [U] using this
          rw [Nat.zero_add,hyo.cellAt j (by omega)]
          exact hu
         clear hyo
         go_wp2_with (at_builtin;refine wpList_append_own_at _ rfl _ _ 22 rfl lb 5 i5 (.int .u8 0) 1 1 Tryz.underlying22 hi5 ht0 ht1 ht2 rfl (by decide) (.slice (some ⟨g6,0,none⟩) (n6-1) v6c) (n6-1) _ rfl HOR.o ⟨g9,0,none⟩ ys.length c9 (U ys) rfl (by simp [U]) HCL.o (by simp [U,Value.oneCell']) (by unfold maxLen;omega) (by omega) hlbY ?_;intro v3 W3 o3 g3 hn3 hat3;have hP:=HFN.o W3 v3 _ _ g3 (λq hq=>by have e:g6=q:=(by simpa [Value.ownBlock] using hq);omega) (by simpa [U] using o3);have HP:=Hm (λat_=>(hP at_).choose_spec.choose_spec.2);obtain ⟨v3a,v3c,rfl⟩:=Ql o3;clear o3 g3 hn3 hat3 hP HFN)
         go_simp
         go_wp2
         go_ret2
         exact HP.o _
     . by_cases hkc:k=2
       . subst hkc
         go_wp2_with fail
         refine (KB.o g 9 (by decide) (by decide) _ HD.o.c).mono ?_
         rintro e V2 ⟨y9,rfl,hy0,hy1,hc,hg⟩;have HD:=Hm (HD.o.step hc hg);clear hc hg
         go_wp2_with fail
         refine (KB.o g 3 (by decide) (by decide) _ HD.o.c).mono ?_
         rintro e Y1 ⟨y3,rfl,h30,h31,hc,hg⟩;have HD:=Hm (HD.o.step hc hg);clear hc hg
         go_wp2_with fail
         refine (KO.o g y3 _ HD.o.c h30 (by omega)).mono ?_
         rintro e Y2 ⟨v9,ys,rfl,hyl,hya,hyo,hc,hg⟩;have HD:=Hm (HD.o.step hc hg);have hlbY:lb<=Y2.heap.size:=by have:=(HD.o.row.lt g6 rfl);omega
         have HFN:Hid (∀ W v3 o m,Y2.grownBy W o->(∀ q,o=some q->w.heap.size<=q)->W.ownsRow lb 5 1 v3 m (U (bs6++ys))->∀ at_,∃ a' c',v3=.slice a' m c'/\DdP w (.returned (.tuple #[v3,.int .i64 at_])) W):=λW v3 o m k1 k2 k3 at_=>HD.o.fin HD.o.be k1 k2 k3 hya (by omega) at_;have HOR:=Hm HD.o.row;have hlw:w.heap.size<=g6:=by have:=(HD.o.row.lt g6 rfl).1;have:=HD.o.hB;have:=HD.o.hg;omega
         clear hc hg HD
         rcases hyo.2 with ⟨hv9,hn9⟩|⟨g9,c9,cur9,hv9,-⟩
         . subst hv9;have hy0':ys=[]:=List.eq_nil_of_length_eq_zero hn9
           obtain ⟨a',c',e9,hP⟩:∃ a' c',Value.slice (some ⟨g6,0,none⟩) (n6) v6c=.slice a' (n6) c'/\∀ at_,DdP w (.returned (.tuple #[.slice (some ⟨g6,0,none⟩) (n6) v6c,.int .i64 at_])) Y2:=by
            refine ⟨_,_,rfl,λat_=>?_⟩
            obtain ⟨_,_,_,h⟩:=HFN.o Y2 (.slice (some ⟨g6,0,none⟩) (n6) v6c) none (n6) ⟨rfl,rfl,rfl,Nat.le_refl _,λ_ _ _=>rfl⟩ (λq hq=>by cases hq) (by rw [hy0',List.append_nil];exact HOR.o) at_
            exact h
           have HP:=Hm hP;clear hP e9 HFN hyo
           go_wp2_with (at_builtin;refine wpList_append_own_none rfl _ _ 22 rfl lb 5 i5 1 Tryz.underlying22 hi5 (.slice (some ⟨g6,0,none⟩) (n6) v6c) (n6) _ rfl HOR.o rfl ?_)
           go_simp
           go_wp2
           go_ret2
           exact HP.o _
         . subst hv9
           have HCL:Hid (∀ j u,(U ys)[j]?=some u->Y2.cell? ((⟨g9,0,none⟩:Addr).add j)=some u):=by
            intro j u hu
            rw [show (⟨g9,0,none⟩:Addr).add j=⟨g9,0+j,none⟩ by unfold Addr.add;split<;>simp_all];have hj:j<ys.length:=by have:=(List.getElem?_eq_some_iff.1 hu).1;simpa [U] using this
            rw [Nat.zero_add,hyo.cellAt j (by omega)]
            exact hu
           clear hyo
           go_wp2_with (at_builtin;refine wpList_append_own_at _ rfl _ _ 22 rfl lb 5 i5 (.int .u8 0) 1 1 Tryz.underlying22 hi5 ht0 ht1 ht2 rfl (by decide) (.slice (some ⟨g6,0,none⟩) (n6) v6c) (n6) _ rfl HOR.o ⟨g9,0,none⟩ ys.length c9 (U ys) rfl (by simp [U]) HCL.o (by simp [U,Value.oneCell']) (by unfold maxLen;omega) (by omega) hlbY ?_;intro v3 W3 o3 g3 hn3 hat3;have hP:=HFN.o W3 v3 _ _ g3 (λq hq=>by have e:g6=q:=(by simpa [Value.ownBlock] using hq);omega) (by simpa [U] using o3);have HP:=Hm (λat_=>(hP at_).choose_spec.choose_spec.2);obtain ⟨v3a,v3c,rfl⟩:=Ql o3;clear o3 g3 hn3 hat3 hP HFN)
           go_simp
           go_wp2
           go_ret2
           exact HP.o _
       . have hk1':(k==0)=false:=by simpa using hka
         have hk2':(k==1)=false:=by simpa using hkb
         have hk3':(k==2)=false:=by simpa using hkc
         go_wp2_with fail
         refine (KB.o g 3 (by decide) (by decide) _ HD.o.c).mono ?_
         rintro e Y1 ⟨y3,rfl,h30,h31,hc,hg⟩;have HD:=Hm (HD.o.step hc hg);clear hc hg
         go_wp2_with fail
         refine (KO.o g y3 _ HD.o.c h30 (by omega)).mono ?_
         rintro e Y2 ⟨v9,ys,rfl,hyl,hya,hyo,hc,hg⟩;have HD:=Hm (HD.o.step hc hg);have hlbY:lb<=Y2.heap.size:=by have:=(HD.o.row.lt g6 rfl);omega
         have HFN:Hid (∀ W v3 o m,Y2.grownBy W o->(∀ q,o=some q->w.heap.size<=q)->W.ownsRow lb 5 1 v3 m (U (bs6++ys))->∀ at_,∃ a' c',v3=.slice a' m c'/\DdP w (.returned (.tuple #[v3,.int .i64 at_])) W):=λW v3 o m k1 k2 k3 at_=>HD.o.fin HD.o.be k1 k2 k3 hya (by omega) at_;have HOR:=Hm HD.o.row;have hlw:w.heap.size<=g6:=by have:=(HD.o.row.lt g6 rfl).1;have:=HD.o.hB;have:=HD.o.hg;omega
         clear hc hg HD
         rcases hyo.2 with ⟨hv9,hn9⟩|⟨g9,c9,cur9,hv9,-⟩
         . subst hv9;have hy0':ys=[]:=List.eq_nil_of_length_eq_zero hn9
           obtain ⟨a',c',e9,hP⟩:∃ a' c',Value.slice (some ⟨g6,0,none⟩) (n6) v6c=.slice a' (n6) c'/\∀ at_,DdP w (.returned (.tuple #[.slice (some ⟨g6,0,none⟩) (n6) v6c,.int .i64 at_])) Y2:=by
            refine ⟨_,_,rfl,λat_=>?_⟩
            obtain ⟨_,_,_,h⟩:=HFN.o Y2 (.slice (some ⟨g6,0,none⟩) (n6) v6c) none (n6) ⟨rfl,rfl,rfl,Nat.le_refl _,λ_ _ _=>rfl⟩ (λq hq=>by cases hq) (by rw [hy0',List.append_nil];exact HOR.o) at_
            exact h
           have HP:=Hm hP;clear hP e9 HFN hyo
           go_wp2_with (at_builtin;refine wpList_append_own_none rfl _ _ 22 rfl lb 5 i5 1 Tryz.underlying22 hi5 (.slice (some ⟨g6,0,none⟩) (n6) v6c) (n6) _ rfl HOR.o rfl ?_)
           go_simp
           go_wp2
           go_ret2
           exact HP.o _
         . subst hv9
           have HCL:Hid (∀ j u,(U ys)[j]?=some u->Y2.cell? ((⟨g9,0,none⟩:Addr).add j)=some u):=by
            intro j u hu
            rw [show (⟨g9,0,none⟩:Addr).add j=⟨g9,0+j,none⟩ by unfold Addr.add;split<;>simp_all];have hj:j<ys.length:=by have:=(List.getElem?_eq_some_iff.1 hu).1;simpa [U] using this
            rw [Nat.zero_add,hyo.cellAt j (by omega)]
            exact hu
           clear hyo
           go_wp2_with (at_builtin;refine wpList_append_own_at _ rfl _ _ 22 rfl lb 5 i5 (.int .u8 0) 1 1 Tryz.underlying22 hi5 ht0 ht1 ht2 rfl (by decide) (.slice (some ⟨g6,0,none⟩) (n6) v6c) (n6) _ rfl HOR.o ⟨g9,0,none⟩ ys.length c9 (U ys) rfl (by simp [U]) HCL.o (by simp [U,Value.oneCell']) (by unfold maxLen;omega) (by omega) hlbY ?_;intro v3 W3 o3 g3 hn3 hat3;have hP:=HFN.o W3 v3 _ _ g3 (λq hq=>by have e:g6=q:=(by simpa [Value.ownBlock] using hq);omega) (by simpa [U] using o3);have HP:=Hm (λat_=>(hP at_).choose_spec.choose_spec.2);obtain ⟨v3a,v3c,rfl⟩:=Ql o3;clear o3 g3 hn3 hat3 hP HFN)
           go_simp
           go_wp2
           go_ret2
           exact HP.o _
end Go.Proofs.YtipfjdogokanbaaGreatDoor.An
