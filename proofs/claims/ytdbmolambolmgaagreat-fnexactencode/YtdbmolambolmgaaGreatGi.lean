import Derived.Test.YtdbmolambolmgaaGreatGf
import Derived.Test.YtdbmolambolmgaaGreatGh
import Derived.Laws.AppendOwn
import Derived.Laws.OwnMore
import Derived.OwnWalk
import Derived.Deep.RegionLaw
set_option linter.all false
set_option maxHeartbeats 16000000
set_option maxRecDepth 100000
namespace Go.Proofs.YtdbmolambolmgaaGreat
open Go.RowKit Go.Sort
set_option maxRecDepth 100000
theorem ownE_keep {w w':World} {B C e n:Nat} {v:Value} {xs:List Value} (h:w.ownsRow B e 1 v n xs) (hb:Below C w w') (hg:w.heap.size≤C):w'.ownsRow B e 1 v n xs:=by
 refine ⟨h.1,?_⟩
 rcases h.2 with h0 | ⟨g,cap,cur,hv,hB,hh,r⟩
 · exact .inl h0
 · subst hv
   exact .inr ⟨g,cap,cur,rfl,hB,(hb.block g (by have:=(h.lt g rfl).2;omega)).trans hh,r⟩
theorem ownE_down {w:World} {B B' e n:Nat} {v:Value} {zs:List Value} (h:w.ownsRow B e 1 v n zs) (hB:B'≤B):w.ownsRow B' e 1 v n zs:=by
 refine ⟨h.1,?_⟩
 rcases h.2 with h0 | ⟨g,cap,cur,hv,hB',r⟩
 · exact .inl h0
 · exact .inr ⟨g,cap,cur,hv,by omega,r⟩
theorem oneU (L:List Int):∀ u ∈ U L,u.oneCell'=true:=by
 intro u hu
 simp only [U,List.mem_map] at hu
 obtain ⟨y,_,rfl⟩:=hu
 rfl
theorem own_src {w:World} {B g cap:Nat} {L:List Int} (h:w.ownsRow B 5 1 (.slice (some ⟨g,0,none⟩) L.length cap) L.length (U L)):∀ j u,(U L)[j]?=some u→w.cell? ((⟨g,0,none⟩:Addr).add j)=some u:=by
 intro j u hu
 have hj:j<L.length:=by
  rcases Nat.lt_or_ge j L.length with h | h
  · exact h
  · simp [U,List.getElem?_eq_none h] at hu
 have hadd:(⟨g,0,none⟩:Addr).add j=⟨g,j,none⟩:=by unfold Addr.add;split <;> simp_all
 rw [hadd,h.cellAt j (by omega)]
 exact hu
structure Kept (S:Nat→Prop) (w w':World):Prop where
 os:w'.os=w.os
 tape:w'.tape=w.tape
 output:w'.output=w.output
 size:w.heap.size≤w'.heap.size
 block:∀ k,S k→w'.heap[k]?=w.heap[k]?
theorem Kept.refl (S:Nat→Prop) (w:World):Kept S w w:=⟨rfl,rfl,rfl,Nat.le_refl _,fun _ _=>rfl⟩
theorem Kept.trans {S:Nat→Prop} {a b c:World} (h:Kept S a b) (k:Kept S b c):Kept S a c :=
 ⟨k.os.trans h.os,k.tape.trans h.tape,k.output.trans h.output,Nat.le_trans h.size k.size,fun i hi=>(k.block i hi).trans (h.block i hi)⟩
theorem Kept.weak {S T:Nat→Prop} {a b:World} (h:Kept S a b) (hT:∀ k,T k→S k):Kept T a b:=⟨h.os,h.tape,h.output,h.size,fun k hk=>h.block k (hT k hk)⟩
theorem Kept.of_below {S:Nat→Prop} {B:Nat} {a b:World} (h:Below B a b) (hS:∀ k,S k→k<B):Kept S a b:=⟨h.os,h.tape,h.output,h.size,fun k hk=>h.block k (hS k hk)⟩
theorem Kept.below {B:Nat} {a b:World} (h:Kept (fun k=>k<B) a b):Below B a b:=⟨h.os,h.tape,h.output,h.size,h.block⟩
theorem Kept.cell {S:Nat→Prop} {a b:World} (h:Kept S a b) {g o:Nat} (hg:S g):b.cell? ⟨g,o,none⟩=a.cell? ⟨g,o,none⟩:=World.cell?_of_block (h.block g hg)
theorem Kept.frozen {S:Nat→Prop} {a b:World} (h:Kept S a b) {g o:Nat} (hg:S g):b.frozen? ⟨g,o,none⟩=a.frozen? ⟨g,o,none⟩:=World.frozen?_of_block (h.block g hg)
theorem Kept.c5 {S:Nat→Prop} {x y:World} (h:Kept S x y) {g o:Nat} {a b c d e:Value} (hc:C5 x g o a b c d e) (hg:S g):C5 y g o a b c d e:=by
 obtain ⟨⟨h0,h1,h2,h3,h4⟩,f⟩:=hc
 exact ⟨⟨(h.cell hg).trans h0,(h.cell hg).trans h1,(h.cell hg).trans h2,(h.cell hg).trans h3,(h.cell hg).trans h4⟩,fun i=>(h.frozen hg).trans (f i)⟩
def Wr (w:World) (p:Nat) (S:Nat→Prop) (xs:List Int):Prop:=∃ v,w.cell? ⟨p,0,none⟩=some v∧w.frozen? ⟨p,0,none⟩=false∧w.ownsRow (p-1) 5 1 v xs.length (U xs)∧¬ S p∧(∀ k,v.ownBlock=some k→¬ S k∧k≠p)∧∀ k,S k→k<w.heap.size
theorem Wr.weak {w:World} {p:Nat} {S T:Nat→Prop} {xs:List Int} (h:Wr w p S xs) (hT:∀ k,T k→S k):Wr w p T xs:=by
 obtain ⟨v,c0,f0,ho,hp,hr,hS⟩:=h
 exact ⟨v,c0,f0,ho,fun h=>hp (hT p h),fun k hk=>⟨fun h=>(hr k hk).1 (hT k h),(hr k hk).2⟩,fun k hk=>hS k (hT k hk)⟩
theorem Wr.on {w w1:World} {p:Nat} {S:Nat→Prop} {xs:List Int} (h:Wr w p S xs) (hb:Below w.heap.size w w1):Wr w1 p (fun k=>S k∨(w.heap.size≤k∧k<w1.heap.size)) xs:=by
 obtain ⟨v,c0,f0,ho,hp,hr,hS⟩:=h
 have lt:p<w.heap.size:=World.block_lt_of_cell? w _ c0
 have:=hb.size
 refine ⟨v,(hb.cell (p:=⟨p,0,none⟩) lt).trans c0,(hb.frozen (p:=⟨p,0,none⟩) lt).trans f0,ownE_keep ho hb (Nat.le_refl _),?_,?_,?_⟩
 · rintro (h | h)
   · exact hp h
   · omega
 · intro k hk
   have:=(ho.lt k hk).2
   refine ⟨?_,(hr k hk).2⟩
   rintro (h | h)
   · exact (hr k hk).1 h
   · omega
 · rintro k (h | h)
   · have:=hS k h;omega
   · omega
theorem wr_pushed {w W w1:World} {p:Nat} {S:Nat→Prop} {v v':Value} {xs ys:List Int} (c0:w.cell? ⟨p,0,none⟩=some v) (f0:w.frozen? ⟨p,0,none⟩=false) (ho:w.ownsRow (p-1) 5 1 v xs.length (U xs)) (hp:¬ S p) (hr:∀ k,v.ownBlock=some k→¬ S k∧k≠p) (hS:∀ k,S k→k<w.heap.size) (hb:Below w.heap.size w W) (ho1:w1.ownsRow (p-1) 5 1 v' (xs.length+ys.length) (U xs++U ys)) (hg:W.grownBy w1 v.ownBlock) (hl:v'.ownBlock=v.ownBlock∨v'.ownBlock=some W.heap.size) :
    Wr (w1.setCell ⟨p,0,none⟩ v') p S (xs++ys)∧Kept S w (w1.setCell ⟨p,0,none⟩ v')∧w1.cell? ⟨p,0,none⟩=some v∧w1.frozen? ⟨p,0,none⟩=false:=by
 have lt:p<w.heap.size:=World.block_lt_of_cell? w _ c0
 have hs:=hb.size
 have hs1:=hg.size
 have hne:some p≠v.ownBlock:=fun e=>(hr p e.symm).2 rfl
 have hk:w1.heap[p]?=w.heap[p]?:=(hg.block p (by omega) hne).trans (hb.block p lt)
 have c1:w1.cell? ⟨p,0,none⟩=some v:=(World.cell?_of_block hk).trans c0
 have f1:w1.frozen? ⟨p,0,none⟩=false:=(World.frozen?_of_block hk).trans f0
 have hne':v'.ownBlock≠some p:=fun e=>by
  rcases hl with h | h
  · exact (hr p (h ▸ e)).2 rfl
  · rw [h] at e;injection e with e;omega
 refine ⟨⟨v',set_same c1,by rw [World.frozen?_setCell];exact f1,?_,hp,?_,?_⟩,?_,c1,f1⟩
 · have:w1.ownsRow (p-1) 5 1 v' (xs++ys).length (U (xs++ys)):=by simpa [U] using ho1
   exact ownE_set this hne'
 · intro k hk
   rcases hl with e | e
   · exact hr k (e ▸ hk)
   · rw [e] at hk
     injection hk with hk
     refine ⟨fun hS'=>?_,by omega⟩
     have:=hS k hS'
     omega
 · intro k hk
   have:=hS k hk
   simp [World.setCell]
   omega
 · refine ⟨hg.os.trans hb.os,hg.tape.trans hb.tape,hg.output.trans hb.output,by simp [World.setCell];omega,fun k hk=>?_⟩
   have:=hS k hk
   have hkp:k≠p:=fun e=>hp (by rw [← e];exact hk)
   rw [Below.heap_setCell w1 ⟨p,0,none⟩ v' k hkp,hg.block k (by omega) (fun e=>(hr k e.symm).1 hk),hb.block k this]
theorem step_append_src {P:Program} {w:World} {ops:Array Oper} {o:Oper} {a:Act} {K:Act→World→Prop} {Q:Exit→Act→World→Prop} {E:Prop} (hgd:o.guard=none) (s x:Operand) (t:TypeId)
    (ho:o.op=.call { callee:=.builtin .append,args:=#[s,x],argTypes:=#[t,t] })
    (base:Nat) (e:TypeId) (i:TypeInfo) (z:Value) (size bytes:Nat) (ht:P.underlying t=some (.slice e)) (hi:P.info? e=some i) (hz:i.zero=some z)
    (hsize:i.size=size) (hby:i.bytes=bytes) (hzs:z.cells.size=size) (hsz:0<size)
    (v:Value) (n:Nat) (xs:List Value) (hs:a.eval s=v) (hown:w.ownsRow base e size v n xs)
    (ad:Addr) (m c:Nat) (news:List Value) (hx:a.eval x=.slice (some ad) m c) (hl:news.length=m*size) (hn:∀ j u,news[j]?=some u→w.cell? (ad.add j)=some u) (h1:∀ u ∈ news,u.oneCell'=true)
    (h63:n+m≤maxLen) (hbytes:(n+m)*bytes≤140737488355328) (hbase:base≤w.heap.size)
    (h:∀ v' w',w'.ownsRow base e size v' (n+m) (xs++news)→w.grownBy w' v.ownBlock→(v'.ownBlock=v.ownBlock∨v'.ownBlock=some w.heap.size)→K (a.put o.dst v') w') :
    if Region.wanted o (yielded ops a.tmps)=true then Oper.wp P o a w K Q else E:=by
 have hw:Region.wanted o (yielded ops a.tmps)=true:=by simp [Region.wanted,hgd]
 rw [if_pos hw]
 obtain ⟨v',w',hr,h2,h3,h4,h5⟩:=run_append_own_at (P:=P) w base t o.type e i z size bytes ht hi hz hsize hby hzs hsz v n xs hown ad m c news hl hn h1 h63 hbytes hbase
 unfold Oper.wp execOp
 simp only [ho,resolve,invoke,builtin,Sem.run_bind,Sem.run_pure,Result.andThen_ok,List.map_toArray,List.map_cons,List.map_nil,hs,hx,hr]
 exact h v' w' h2 h3 h5
theorem wone_c (p:Nat) (S:Nat→Prop) (xs:List Int) (x:Int) (w:World) (hl:xs.length≤1099511627776) (hW:Wr w p S xs) :
    Calls Tryz.prog 148 #[.pointer (some ⟨p,0,none⟩),.int .i64 x] w fun e w'=>e=.returned (.tuple #[])∧Wr w' p S (xs++[x%256])∧Kept S w w':=by
 obtain ⟨i0,hi,hz0,hz1,hz2⟩:=info_parts Tryz.info5
 obtain ⟨v,c0,f0,own,hp,hr,hS⟩:=hW
 have lt:p<w.heap.size:=World.block_lt_of_cell? w _ c0
 obtain ⟨a,c,rfl⟩:=ownE_slice own
 have HP:=Hm (fun (W w1:World) (v':Value) (h1:Below w.heap.size w W) (h2:w1.ownsRow (p-1) 5 1 v' (xs.length+1) (U xs++[.int .u8 (x%256)])) (h3:W.grownBy w1 (Value.slice a xs.length c).ownBlock) (h4:v'.ownBlock=(Value.slice a xs.length c).ownBlock∨v'.ownBlock=some W.heap.size)=>wr_pushed (ys:=[x%256]) c0 f0 own hp hr hS h1 h2 h3 h4)
 clear hp hr hS
 go_enter Tryz.func148,Tryz.ntmps148
 go_wp2_with (at_builtin;refine wpList_append_own_at _ rfl _ _ 50 rfl (p-1) 5 i0 (.int .u8 0) 1 1 Tryz.underlying50 hi hz0 hz1 hz2 rfl (by decide) _ _ _ rfl (own.alloc _) ⟨w.heap.size,0,none⟩ 1 1 [.int .u8 (x%256)] rfl rfl (cell_one_new _ _ _) (oneB _) (by unfold maxLen;omega) (by omega) (by simp;omega) ?_;intro v' w2 hown' hgrow hnn hloc;have HQ:=Hm (HP.out _ _ _ ((Below.refl _ _).alloc (Nat.le_refl _) _) hown' hgrow hloc);have d0:=HQ.out.2.2.1;have df:=HQ.out.2.2.2;obtain ⟨va,vc,rfl⟩:=ownE_slice hown';clear hown' hgrow hnn hloc own c0 f0 HP)
 go_end0
 exact ⟨rfl,HQ.out.1,HQ.out.2.1⟩
open Go.RowKit Go.Sort
theorem wu32_c (p:Nat) (S:Nat→Prop) (xs:List Int) (x:Int) (w:World) (h0:0≤x) (h1:x≤9223372036854775807) (hl:xs.length≤1099511627776) (hW:Wr w p S xs) :
    Calls Tryz.prog 192 #[.pointer (some ⟨p,0,none⟩),.int .i64 x] w fun e w'=>e=.returned (.tuple #[])∧Wr w' p S (xs++lebU 9 x)∧Kept S w w':=by
 obtain ⟨i0,hi,hz0,hz1,hz2⟩:=info_parts Tryz.info5
 obtain ⟨v,c0,f0,own,hp,hr,hS⟩:=hW
 have lt:p<w.heap.size:=World.block_lt_of_cell? w _ c0
 obtain ⟨a,c,rfl⟩:=ownE_slice own
 obtain ⟨L,hL⟩:∃ L,L=lebU 9 x:=⟨_,rfl⟩
 have hlen:=lebU_len 9 x
 have KP:=Hm (fun w=>implPutU_any x w h0 (by omega))
 rw [← hL] at hlen KP⊢
 have HP:=Hm (fun (W w1:World) (v':Value) (h1:Below w.heap.size w W) (h2:w1.ownsRow (p-1) 5 1 v' (xs.length+L.length) (U xs++U L)) (h3:W.grownBy w1 (Value.slice a xs.length c).ownBlock) (h4:v'.ownBlock=(Value.slice a xs.length c).ownBlock∨v'.ownBlock=some W.heap.size)=>wr_pushed (ys:=L) c0 f0 own hp hr hS h1 h2 h3 h4)
 have OW:=Hm own
 obtain ⟨hl0,hl1⟩:=hlen
 have hlU:(U L).length=L.length*1:=by simp
 have HC:=Hm c0
 have hwx:IntKind.u64.wrap x=x:=by rw [IntKind.wrap_u64];omega
 clear hL own hp hr hS
 go_enter Tryz.func192,Tryz.ntmps192
 go_region_law (first
  | (refine step_append_src rfl (.tmp 8) (.tmp 11) 50 rfl (p-1) 5 i0 (.int .u8 0) 1 1 Tryz.underlying50 hi hz0 hz1 hz2 rfl (by decide) (.slice a xs.length c) xs.length (U xs) (by simp [Act.eval,Act.put]) O1.out ⟨g,0,none⟩ L.length gc (U L) (by simp [Act.eval,Act.put]) hlU S1.out (oneU _) (by simp [maxLen];omega) (by omega) Z1.out ?_
     intro v2 w2 own2 gr2 hloc
     have HQ:=Hm (HP.out _ _ _ B1.out own2 gr2 hloc)
     have d0:=HQ.out.2.2.1
     have df:=HQ.out.2.2.2
     obtain ⟨va,vc,rfl⟩:=ownE_slice own2
     clear own2 gr2 hloc)
  | (go_simp
     refine (KP.out _).mono ?_
     rintro e w1 ⟨v1,rfl,ho1,hb1⟩
     obtain ⟨g,gc,rfl,hg,hg'⟩:=By.own_split ho1 hl0
     have hb2:Below w.heap.size w w1:=(Below.refl _ _).drew.trans hb1
     have c1:w1.cell? ⟨p,0,none⟩=some (.slice a xs.length c):=(hb2.cell (p:=⟨p,0,none⟩) lt).trans HC.out
     have O1:=Hm (ownE_keep OW.out hb2 (Nat.le_refl _))
     have S1:=Hm (own_src ho1)
     have B1:=Hm hb2
     have Z1:Hid (p-1≤w1.heap.size):=by have:=hb2.size;show _≤_;omega
     clear ho1 hb1 hb2 hg hg'))
 all_goals
  go_wp2_with fail
  go_end0
  exact ⟨rfl,HQ.out.1,HQ.out.2.1⟩
end Go.Proofs.YtdbmolambolmgaaGreat
namespace Go.Proofs.YtdbmolambolmgaaGreat
open Go.RowKit Go.Sort
set_option maxRecDepth 100000
theorem wsig_c (p:Nat) (S:Nat→Prop) (xs:List Int) (x:Int) (w:World) (h0:-9223372036854775808≤x) (h1:x≤9223372036854775807) (hl:xs.length≤1099511627776) (hW:Wr w p S xs) :
    Calls Tryz.prog 250 #[.pointer (some ⟨p,0,none⟩),.int .i64 x] w fun e w'=>e=.returned (.tuple #[])∧Wr w' p S (xs++lebS 9 x)∧Kept S w w':=by
 obtain ⟨i0,hi,hz0,hz1,hz2⟩:=info_parts Tryz.info5
 obtain ⟨v,c0,f0,own,hp,hr,hS⟩:=hW
 have lt:p<w.heap.size:=World.block_lt_of_cell? w _ c0
 obtain ⟨a,c,rfl⟩:=ownE_slice own
 obtain ⟨L,hL⟩:∃ L,L=lebS 9 x:=⟨_,rfl⟩
 have hlen:=lebS_len 9 x
 have KP:=Hm (fun w=>implPutS_any x w h0 h1)
 rw [← hL] at hlen KP⊢
 have HP:=Hm (fun (W w1:World) (v':Value) (h1:Below w.heap.size w W) (h2:w1.ownsRow (p-1) 5 1 v' (xs.length+L.length) (U xs++U L)) (h3:W.grownBy w1 (Value.slice a xs.length c).ownBlock) (h4:v'.ownBlock=(Value.slice a xs.length c).ownBlock∨v'.ownBlock=some W.heap.size)=>wr_pushed (ys:=L) c0 f0 own hp hr hS h1 h2 h3 h4)
 have OW:=Hm own
 obtain ⟨hl0,hl1⟩:=hlen
 have hlU:(U L).length=L.length*1:=by simp
 have HC:=Hm c0
 clear hL own hp hr hS h0 h1
 go_enter Tryz.func250,Tryz.ntmps250
 go_region_law (first
  | (refine step_append_src rfl (.tmp 8) (.tmp 10) 50 rfl (p-1) 5 i0 (.int .u8 0) 1 1 Tryz.underlying50 hi hz0 hz1 hz2 rfl (by decide) (.slice a xs.length c) xs.length (U xs) (by simp [Act.eval,Act.put]) O1.out ⟨g,0,none⟩ L.length gc (U L) (by simp [Act.eval,Act.put]) hlU S1.out (oneU _) (by simp [maxLen];omega) (by omega) Z1.out ?_
     intro v2 w2 own2 gr2 hloc
     have HQ:=Hm (HP.out _ _ _ B1.out own2 gr2 hloc)
     have d0:=HQ.out.2.2.1
     have df:=HQ.out.2.2.2
     obtain ⟨va,vc,rfl⟩:=ownE_slice own2
     clear own2 gr2 hloc)
  | (go_simp
     refine (KP.out _).mono ?_
     rintro e w1 ⟨v1,rfl,ho1,hb1⟩
     obtain ⟨g,gc,rfl,hg,hg'⟩:=By.own_split ho1 hl0
     have hb2:Below w.heap.size w w1:=(Below.refl _ _).drew.trans hb1
     have c1:w1.cell? ⟨p,0,none⟩=some (.slice a xs.length c):=(hb2.cell (p:=⟨p,0,none⟩) lt).trans HC.out
     have O1:=Hm (ownE_keep OW.out hb2 (Nat.le_refl _))
     have S1:=Hm (own_src ho1)
     have B1:=Hm hb2
     have Z1:Hid (p-1≤w1.heap.size):=by have:=hb2.size;show _≤_;omega
     clear ho1 hb1 hb2 hg hg'))
 all_goals
  go_wp2_with fail
  go_end0
  exact ⟨rfl,HQ.out.1,HQ.out.2.1⟩
def fx (k:Nat) (v:Int):List Int:=(List.range k).map fun i=>v / 2 ^ (8*i)%256
theorem fx_succ (k:Nat) (v:Int):fx (k+1) v=fx k v++[v / 2 ^ (8*k)%256]:=by simp [fx,List.range_succ]
theorem fx_len (k:Nat) (v:Int):(fx k v).length=k:=by simp [fx]
theorem wrap_byte (y:Int):wrap64 y%256=y%256:=by unfold wrap64;omega
theorem wflt_c (p:Nat) (S:Nat→Prop) (xs:List Int) (v:Int) (n:Nat) (w:World) (hn:n=4∨n=8) (h0:0≤v) (h1:v≤18446744073709551615) (hl:xs.length≤549755813888) (hW:Wr w p S xs) :
    Calls Tryz.prog 251 #[.pointer (some ⟨p,0,none⟩),.int .u64 v,.int .i64 (8*(n:Int))] w fun e w'=>e=.returned (.tuple #[])∧Wr w' p S (xs++fx n v)∧Kept S w w':=by
 have hn8:n≤8:=by omega
 have HN:=Hm hn
 have HW:=Hm hW
 clear hW hn
 go_enter Tryz.func251,Tryz.ntmps251
 go_wp2
 go_loopw [6] (fun at_ wr=>∃ k:Nat,k≤n∧at_=.int .i64 (8*(k:Int))∧Wr wr p S (xs++fx k v)∧Kept S w wr) (fun at_ _=>8*n-(intOf at_).toNat)
 case atStart=>exact ⟨0,Nat.zero_le _,rfl,by simpa [fx] using HW.out,Kept.refl _ _⟩
 case round =>
  obtain ⟨k,hk,rfl,hw,hkp⟩:=hrel
  by_cases hlt:k<n
  · have hki:8*(k:Int)<8*(n:Int):=by omega
    have hk8:(k:Int)≤7:=by omega
    have hlk:(xs++fx k v).length≤1099511627776:=by simp [fx_len];omega
    have KO:=Hm (wone_c p S (xs++fx k v) (wrap64 (v / 2 ^ (8*k))) wr hlk hw)
    have HKP:=Hm hkp
    clear hw hkp HW
    go_wp2_with fail
    refine (KO.out).mono ?_
    rintro e w1 ⟨rfl,hw1,hk1⟩
    have HW1:Hid (Wr w1 p S (xs++fx (k+1) v)):=by
     rw [wrap_byte] at hw1
     show Wr _ _ _ _
     rw [fx_succ,← List.append_assoc];exact hw1
    have HK1:=Hm (HKP.out.trans hk1)
    clear hw1 hk1 KO HKP
    go_wp2
    go_roundw
    case rel=>exact ⟨k+1,by omega,by go_num,HW1.out,HK1.out⟩
    case measure=>simp [intOf];omega
  · have e:k=n:=by omega
    subst e
    have HQ:=Hm hw
    have HK1:=Hm hkp
    clear hw hkp HW
    go_wp2
    go_end0
    exact ⟨rfl,HQ.out,HK1.out⟩
end Go.Proofs.YtdbmolambolmgaaGreat
namespace Go.Proofs.YtdbmolambolmgaaGreat
open Go.RowKit Go.Sort
set_option maxRecDepth 100000
def nums (l:List Int):List Int:=l.flatMap (lebU 9)
theorem nums_step (l:List Int) (k:Nat) (h:k<l.length):nums (l.take (k+1))=nums (l.take k)++lebU 9 (l.getD k 0):=by
 rw [List.take_add_one,List.getD_eq_getElem?_getD,List.getElem?_eq_getElem h]
 show nums (l.take k++[l[k]])=nums (l.take k)++lebU 9 l[k]
 unfold nums
 rw [List.flatMap_append,List.flatMap_singleton]
theorem nums_len (l:List Int):(nums l).length≤10*l.length:=by
 induction l with
 | nil=>simp [nums]
 | cons x t ih =>
  have:=(lebU_len 9 x).2
  simp only [nums,List.flatMap_cons,List.length_append,List.length_cons] at *
  omega
theorem nums_take_len (l:List Int) (k:Nat):(nums (l.take k)).length≤10*l.length:=by
 have:=nums_len (l.take k)
 have h2:(l.take k).length≤l.length:=by simp;omega
 omega
theorem wvec_c (p:Nat) (S:Nat→Prop) (xs l:List Int) (la:Option Addr) (lc:Nat) (w:World) (hn:l.length≤1048576) (hu:∀ i,i<l.length→0≤l.getD i 0∧l.getD i 0≤4294967295) (hl:xs.length≤1000000100000) (hH:∀ w',Kept S w w'→Has w' la l) (hW:Wr w p S xs) :
    Calls Tryz.prog 191 #[.pointer (some ⟨p,0,none⟩),.slice la l.length lc,.func (.func 192) #[.pointer (some ⟨p,0,none⟩)] #[]] w fun e w'=>e=.returned (.tuple #[])∧Wr w' p S (xs++(lebU 9 l.length++nums l))∧Kept S w w':=by
 have HU:=Hm hu
 have HH:=Hm hH
 have KL:=Hm (wu32_c p S xs l.length w (by omega) (by omega) (by omega) hW)
 have hll:=(lebU_len 9 l.length).2
 generalize hQ:xs++lebU 9 l.length=ys at *
 have hys:ys.length≤1000000100010:=by rw [← hQ];simp;omega
 have HQ:=Hm hQ
 clear hW hu hH hQ hll
 go_enter Tryz.func191,Tryz.ntmps191
 go_wp2_with fail
 refine (KL.out).mono ?_
 rintro e w1 ⟨rfl,hw1,hk1⟩
 have HW1:=Hm hw1
 have HK1:=Hm hk1
 clear hw1 hk1 KL
 go_wp2_with fail
 go_loopw [14] (fun i wr=>∃ k:Nat,k≤l.length∧i=.int .i64 k∧Wr wr p S (ys++nums (l.take k))∧Kept S w wr) (fun i _=>l.length-(intOf i).toNat)
 case atStart=>exact ⟨0,Nat.zero_le _,rfl,by simpa [nums] using HW1.out,HK1.out⟩
 case round =>
  obtain ⟨k,hk,rfl,hw,hkp⟩:=hrel
  clear HW1 HK1
  by_cases hlt:k<l.length
  · have hki:(k:Int)<(l.length:Int):=by omega
    rcases HH.out wr hkp with hx | ⟨b1,o1,ea,hc⟩
    · subst hx;simp at hlt
    have d:=hc k hlt
    subst ea
    obtain ⟨u0,u1⟩:=HU.out k hlt
    have hs:=nums_step l k hlt
    have hlk:(ys++nums (l.take k)).length≤1099511627776:=by
     have:=nums_take_len l k
     simp only [List.length_append];omega
    generalize hy:l.getD k 0=y at *
    have KO:=Hm (wu32_c p S (ys++nums (l.take k)) y wr u0 (by omega) hlk hw)
    have HS:=Hm hs
    have HKP:=Hm hkp
    clear hw hkp hc hs hy hlk HH HU
    go_wp2_with fail
    refine (KO.out).mono ?_
    rintro e w2 ⟨rfl,hw2,hk2⟩
    have HW2:Hid (Wr w2 p S (ys++nums (l.take (k+1)))):=by
     show Wr _ _ _ _
     rw [HS.out,← List.append_assoc];exact hw2
    have HK2:=Hm (HKP.out.trans hk2)
    clear hw2 hk2 KO HKP HS d u0 u1
    go_wp2
    go_roundw
    case rel=>exact ⟨k+1,by omega,by go_num,HW2.out,HK2.out⟩
    case measure=>simp [intOf];omega
  · have e:k=l.length:=by omega
    subst e
    have HW2:Hid (Wr wr p S (xs++(lebU 9 l.length++nums l))):=by
     rw [List.take_length,← HQ.out,List.append_assoc] at hw
     exact hw
    have HK2:=Hm hkp
    clear hw hkp HH HU
    go_wp2
    go_end0
    exact ⟨rfl,HW2.out,HK2.out⟩
end Go.Proofs.YtdbmolambolmgaaGreat
namespace Go.Proofs.YtdbmolambolmgaaGreat
open Go.RowKit Go.Sort
set_option maxRecDepth 100000
def s32 (v:Int):Int:=if v<2147483648 then v else v-4294967296
def encF (f:Int) (x:In):List Int :=
 if f=1 then [x.a%256] else if f=2 then lebU 9 x.a else if f=3 then lebU 9 x.l.length++nums x.l++lebU 9 x.a else if f=4 then lebU 9 x.a++[0]
 else if f=5 then lebU 9 x.a++lebU 9 x.b else if f=6 then [0] else if f=7 then lebS 9 (s32 x.v) else if f=8 then lebS 9 (wrap64 x.v)
 else if f=9 then fx 4 x.v else if f=10 then fx 8 x.v else []
theorem Wr.keep {w w1:World} {p:Nat} {S:Nat→Prop} {xs:List Int} (h:Wr w p S xs) (hb:Below w.heap.size w w1):Wr w1 p S xs:=(h.on hb).weak fun _=>.inl
theorem Wr.lt {w:World} {p:Nat} {S:Nat→Prop} {xs:List Int} (h:Wr w p S xs):∀ k,S k→k<w.heap.size:=h.choose_spec.2.2.2.2.2
theorem Wr.pos {w:World} {p:Nat} {S:Nat→Prop} {xs:List Int} (h:Wr w p S xs):p<w.heap.size:=World.block_lt_of_cell? w _ h.choose_spec.1
theorem Kept.wr {w w1 w2:World} {p:Nat} {S:Nat→Prop} {xs:List Int} (h:Kept S w w1) (hw:Wr w1 p S xs) (hb:Below w1.heap.size w1 w2):Kept S w w2:=h.trans (Kept.of_below hb hw.lt)
def Bx (S:Nat→Prop) (b k:Nat):Prop:=S k∨k=b
theorem Bx.box (S:Nat→Prop) (b:Nat):Bx S b b:=.inr rfl
theorem wr_box {w:World} {p:Nat} {S:Nat→Prop} {xs:List Int} (h:Wr w p S xs) (o:Obj):Wr (w.alloc o) p (Bx S w.heap.size) xs :=
 (h.on ((Below.refl _ _).alloc (Nat.le_refl _) o)).weak fun k hk=>by
  rcases hk with hk | hk
  · exact .inl hk
  · exact .inr (by simp;omega)
theorem wr_fin {w w1:World} {p:Nat} {S:Nat→Prop} {xs ys:List Int} {o:Obj} (hl:∀ k,S k→k<w.heap.size) (h:Wr w1 p (Bx S w.heap.size) ys) (hk:Kept (Bx S w.heap.size) (w.alloc o) w1) (e:ys=xs):Wr w1 p S xs∧Kept S w w1:=by
 subst e
 exact ⟨h.weak fun k hk=>.inl hk,(Kept.of_below ((Below.refl w.heap.size w).alloc (Nat.le_refl _) o) hl).trans (hk.weak fun k hk=>.inl hk)⟩
open Go.RowKit Go.Sort
theorem wins_0 (p:Nat) (S:Nat→Prop) (xs:List Int) (op a b v:Int) (l:List Int) (la:Option Addr) (lc:Nat) (w:World) (hf:formR (rowOf op)=0) (hl:xs.length≤500000000000) (hW:Wr w p S xs) :
    Calls Tryz.prog 237 #[.pointer (some ⟨p,0,none⟩),inV ⟨op,a,b,v,l⟩ la lc] w fun e w'=>e=.returned (.tuple #[])∧Wr w' p S (xs++(op%256::encF (0) ⟨op,a,b,v,l⟩))∧Kept S w w':=by
 have HLT:=Hm hW.lt
 have HF:=Hm (iform_c op)
 rw [hf] at HF
 have HBX:=Hm (Bx.box S w.heap.size)
 have HC:=Hm (C5.new (w:=w) (a:=.int .i64 op) (b:=.int .i64 a) (c:=.int .i64 b) (d:=.int .u64 v) (e:=.slice la l.length lc) (t:=188))
 have KO:=Hm (wone_c p (Bx S w.heap.size) xs op (w.alloc (.cells #[.int .i64 op,.int .i64 a,.int .i64 b,.int .u64 v,.slice la l.length lc] 188)) (by omega) (wr_box hW _))
 clear hf hW
 go_enter Tryz.func237,Tryz.ntmps237
 go_wp2_with fail
 refine (KO.out).mono ?_
 rintro e w1 ⟨rfl,hw1,hk1⟩
 obtain ⟨⟨c0,c1,c2,c3,c4⟩,cf⟩:=hk1.c5 HC.out HBX.out
 have HC1:=Hm (hk1.c5 HC.out HBX.out)
 have HW1:=Hm hw1
 have HK1:=Hm hk1
 clear hw1 hk1 KO HC cf
 go_wp2_with fail
 refine (HF.out _).mono ?_
 rintro e w2 ⟨rfl,hb2⟩
 obtain ⟨⟨d20,d21,d22,d23,d24⟩,df⟩:=HC1.out.keep hb2
 have HC2:=Hm (HC1.out.keep hb2)
 have HW2:=Hm (HW1.out.keep hb2)
 have HK2:=Hm (HK1.out.wr HW1.out hb2)
 clear hb2 HF HC1 HW1 HK1 df c0 c1 c2 c3 c4
 go_wp2_with fail
 go_end0
 obtain ⟨r1,r2⟩:=wr_fin (xs:=xs++(op%256::encF (0) ⟨op,a,b,v,l⟩)) HLT.out HW2.out HK2.out (by simp [encF])
 exact ⟨rfl,r1,r2⟩
theorem wins_1 (p:Nat) (S:Nat→Prop) (xs:List Int) (op a b v:Int) (l:List Int) (la:Option Addr) (lc:Nat) (w:World) (hf:formR (rowOf op)=1) (hl:xs.length≤500000000000) (hW:Wr w p S xs) :
    Calls Tryz.prog 237 #[.pointer (some ⟨p,0,none⟩),inV ⟨op,a,b,v,l⟩ la lc] w fun e w'=>e=.returned (.tuple #[])∧Wr w' p S (xs++(op%256::encF (1) ⟨op,a,b,v,l⟩))∧Kept S w w':=by
 have HLT:=Hm hW.lt
 have HF:=Hm (iform_c op)
 rw [hf] at HF
 have HBX:=Hm (Bx.box S w.heap.size)
 have HC:=Hm (C5.new (w:=w) (a:=.int .i64 op) (b:=.int .i64 a) (c:=.int .i64 b) (d:=.int .u64 v) (e:=.slice la l.length lc) (t:=188))
 have KO:=Hm (wone_c p (Bx S w.heap.size) xs op (w.alloc (.cells #[.int .i64 op,.int .i64 a,.int .i64 b,.int .u64 v,.slice la l.length lc] 188)) (by omega) (wr_box hW _))
 clear hf hW
 go_enter Tryz.func237,Tryz.ntmps237
 go_wp2_with fail
 refine (KO.out).mono ?_
 rintro e w1 ⟨rfl,hw1,hk1⟩
 obtain ⟨⟨c0,c1,c2,c3,c4⟩,cf⟩:=hk1.c5 HC.out HBX.out
 have HC1:=Hm (hk1.c5 HC.out HBX.out)
 have HW1:=Hm hw1
 have HK1:=Hm hk1
 clear hw1 hk1 KO HC cf
 go_wp2_with fail
 refine (HF.out _).mono ?_
 rintro e w2 ⟨rfl,hb2⟩
 obtain ⟨⟨d20,d21,d22,d23,d24⟩,df⟩:=HC1.out.keep hb2
 have HC2:=Hm (HC1.out.keep hb2)
 have HW2:=Hm (HW1.out.keep hb2)
 have HK2:=Hm (HK1.out.wr HW1.out hb2)
 clear hb2 HF HC1 HW1 HK1 df c0 c1 c2 c3 c4
 have KN2:=Hm (wone_c p (Bx S w.heap.size) (xs++[op%256]) a w2 (by simp only [List.length_append,List.length_cons,List.length_nil];omega) HW2.out)
 go_wp2_with fail
 refine (KN2.out).mono ?_
 rintro e w3 ⟨rfl,hwn,hkn⟩
 obtain ⟨⟨d30,d31,d32,d33,d34⟩,ef⟩:=hkn.c5 HC2.out HBX.out
 have HC3:=Hm (hkn.c5 HC2.out HBX.out)
 have HW3:=Hm hwn
 have HK3:=Hm (HK2.out.trans hkn)
 clear hwn hkn KN2 HC2 HW2 HK2 ef d20 d21 d22 d23 d24
 go_wp2_with fail
 go_end0
 obtain ⟨r1,r2⟩:=wr_fin (xs:=xs++(op%256::encF (1) ⟨op,a,b,v,l⟩)) HLT.out HW3.out HK3.out (by simp [encF])
 exact ⟨rfl,r1,r2⟩
theorem wins_2 (p:Nat) (S:Nat→Prop) (xs:List Int) (op a b v:Int) (l:List Int) (la:Option Addr) (lc:Nat) (w:World) (hf:formR (rowOf op)=2) (ha:0≤a) (ha1:a≤4294967295) (hl:xs.length≤500000000000) (hW:Wr w p S xs) :
    Calls Tryz.prog 237 #[.pointer (some ⟨p,0,none⟩),inV ⟨op,a,b,v,l⟩ la lc] w fun e w'=>e=.returned (.tuple #[])∧Wr w' p S (xs++(op%256::encF (2) ⟨op,a,b,v,l⟩))∧Kept S w w':=by
 have HLT:=Hm hW.lt
 have HF:=Hm (iform_c op)
 rw [hf] at HF
 have HBX:=Hm (Bx.box S w.heap.size)
 have HC:=Hm (C5.new (w:=w) (a:=.int .i64 op) (b:=.int .i64 a) (c:=.int .i64 b) (d:=.int .u64 v) (e:=.slice la l.length lc) (t:=188))
 have KO:=Hm (wone_c p (Bx S w.heap.size) xs op (w.alloc (.cells #[.int .i64 op,.int .i64 a,.int .i64 b,.int .u64 v,.slice la l.length lc] 188)) (by omega) (wr_box hW _))
 clear hf hW
 go_enter Tryz.func237,Tryz.ntmps237
 go_wp2_with fail
 refine (KO.out).mono ?_
 rintro e w1 ⟨rfl,hw1,hk1⟩
 obtain ⟨⟨c0,c1,c2,c3,c4⟩,cf⟩:=hk1.c5 HC.out HBX.out
 have HC1:=Hm (hk1.c5 HC.out HBX.out)
 have HW1:=Hm hw1
 have HK1:=Hm hk1
 clear hw1 hk1 KO HC cf
 go_wp2_with fail
 refine (HF.out _).mono ?_
 rintro e w2 ⟨rfl,hb2⟩
 obtain ⟨⟨d20,d21,d22,d23,d24⟩,df⟩:=HC1.out.keep hb2
 have HC2:=Hm (HC1.out.keep hb2)
 have HW2:=Hm (HW1.out.keep hb2)
 have HK2:=Hm (HK1.out.wr HW1.out hb2)
 clear hb2 HF HC1 HW1 HK1 df c0 c1 c2 c3 c4
 have KN2:=Hm (wu32_c p (Bx S w.heap.size) (xs++[op%256]) a w2 ha (by omega) (by simp only [List.length_append,List.length_cons,List.length_nil];omega) HW2.out)
 go_wp2_with fail
 refine (KN2.out).mono ?_
 rintro e w3 ⟨rfl,hwn,hkn⟩
 obtain ⟨⟨d30,d31,d32,d33,d34⟩,ef⟩:=hkn.c5 HC2.out HBX.out
 have HC3:=Hm (hkn.c5 HC2.out HBX.out)
 have HW3:=Hm hwn
 have HK3:=Hm (HK2.out.trans hkn)
 clear hwn hkn KN2 HC2 HW2 HK2 ef d20 d21 d22 d23 d24
 go_wp2_with fail
 go_end0
 obtain ⟨r1,r2⟩:=wr_fin (xs:=xs++(op%256::encF (2) ⟨op,a,b,v,l⟩)) HLT.out HW3.out HK3.out (by simp [encF])
 exact ⟨rfl,r1,r2⟩
end Go.Proofs.YtdbmolambolmgaaGreat
namespace Go.Proofs.YtdbmolambolmgaaGreat
open Go.RowKit Go.Sort
set_option maxRecDepth 100000
theorem wins_4 (p:Nat) (S:Nat→Prop) (xs:List Int) (op a b v:Int) (l:List Int) (la:Option Addr) (lc:Nat) (w:World) (hf:formR (rowOf op)=4) (ha:0≤a) (ha1:a≤4294967295) (hl:xs.length≤500000000000) (hW:Wr w p S xs) :
    Calls Tryz.prog 237 #[.pointer (some ⟨p,0,none⟩),inV ⟨op,a,b,v,l⟩ la lc] w fun e w'=>e=.returned (.tuple #[])∧Wr w' p S (xs++(op%256::encF (4) ⟨op,a,b,v,l⟩))∧Kept S w w':=by
 have HLT:=Hm hW.lt
 have HF:=Hm (iform_c op)
 rw [hf] at HF
 have HBX:=Hm (Bx.box S w.heap.size)
 have HC:=Hm (C5.new (w:=w) (a:=.int .i64 op) (b:=.int .i64 a) (c:=.int .i64 b) (d:=.int .u64 v) (e:=.slice la l.length lc) (t:=188))
 have KO:=Hm (wone_c p (Bx S w.heap.size) xs op (w.alloc (.cells #[.int .i64 op,.int .i64 a,.int .i64 b,.int .u64 v,.slice la l.length lc] 188)) (by omega) (wr_box hW _))
 clear hf hW
 go_enter Tryz.func237,Tryz.ntmps237
 go_wp2_with fail
 refine (KO.out).mono ?_
 rintro e w1 ⟨rfl,hw1,hk1⟩
 obtain ⟨⟨c0,c1,c2,c3,c4⟩,cf⟩:=hk1.c5 HC.out HBX.out
 have HC1:=Hm (hk1.c5 HC.out HBX.out)
 have HW1:=Hm hw1
 have HK1:=Hm hk1
 clear hw1 hk1 KO HC cf
 go_wp2_with fail
 refine (HF.out _).mono ?_
 rintro e w2 ⟨rfl,hb2⟩
 obtain ⟨⟨d20,d21,d22,d23,d24⟩,df⟩:=HC1.out.keep hb2
 have HC2:=Hm (HC1.out.keep hb2)
 have HW2:=Hm (HW1.out.keep hb2)
 have HK2:=Hm (HK1.out.wr HW1.out hb2)
 clear hb2 HF HC1 HW1 HK1 df c0 c1 c2 c3 c4
 have KN2:=Hm (wu32_c p (Bx S w.heap.size) (xs++[op%256]) a w2 ha (by omega) (by simp only [List.length_append,List.length_cons,List.length_nil];omega) HW2.out)
 go_wp2_with fail
 refine (KN2.out).mono ?_
 rintro e w3 ⟨rfl,hwn,hkn⟩
 obtain ⟨⟨d30,d31,d32,d33,d34⟩,ef⟩:=hkn.c5 HC2.out HBX.out
 have HC3:=Hm (hkn.c5 HC2.out HBX.out)
 have HW3:=Hm hwn
 have HK3:=Hm (HK2.out.trans hkn)
 clear hwn hkn KN2 HC2 HW2 HK2 ef d20 d21 d22 d23 d24
 have KN3:=Hm (wone_c p (Bx S w.heap.size) ((xs++[op%256])++lebU 9 a) 0 w3 (by have:=(lebU_len 9 a).2;simp only [List.length_append,List.length_cons,List.length_nil];omega) HW3.out)
 go_wp2_with fail
 refine (KN3.out).mono ?_
 rintro e w4 ⟨rfl,hwn,hkn⟩
 obtain ⟨⟨d40,d41,d42,d43,d44⟩,ef⟩:=hkn.c5 HC3.out HBX.out
 have HC4:=Hm (hkn.c5 HC3.out HBX.out)
 have HW4:=Hm hwn
 have HK4:=Hm (HK3.out.trans hkn)
 clear hwn hkn KN3 HC3 HW3 HK3 ef d30 d31 d32 d33 d34
 go_wp2_with fail
 go_end0
 obtain ⟨r1,r2⟩:=wr_fin (xs:=xs++(op%256::encF (4) ⟨op,a,b,v,l⟩)) HLT.out HW4.out HK4.out (by simp [encF])
 exact ⟨rfl,r1,r2⟩
theorem wins_5 (p:Nat) (S:Nat→Prop) (xs:List Int) (op a b v:Int) (l:List Int) (la:Option Addr) (lc:Nat) (w:World) (hf:formR (rowOf op)=5) (ha:0≤a) (ha1:a≤4294967295) (hb:0≤b) (hb1:b≤4294967295) (hl:xs.length≤500000000000) (hW:Wr w p S xs) :
    Calls Tryz.prog 237 #[.pointer (some ⟨p,0,none⟩),inV ⟨op,a,b,v,l⟩ la lc] w fun e w'=>e=.returned (.tuple #[])∧Wr w' p S (xs++(op%256::encF (5) ⟨op,a,b,v,l⟩))∧Kept S w w':=by
 have HLT:=Hm hW.lt
 have HF:=Hm (iform_c op)
 rw [hf] at HF
 have HBX:=Hm (Bx.box S w.heap.size)
 have HC:=Hm (C5.new (w:=w) (a:=.int .i64 op) (b:=.int .i64 a) (c:=.int .i64 b) (d:=.int .u64 v) (e:=.slice la l.length lc) (t:=188))
 have KO:=Hm (wone_c p (Bx S w.heap.size) xs op (w.alloc (.cells #[.int .i64 op,.int .i64 a,.int .i64 b,.int .u64 v,.slice la l.length lc] 188)) (by omega) (wr_box hW _))
 clear hf hW
 go_enter Tryz.func237,Tryz.ntmps237
 go_wp2_with fail
 refine (KO.out).mono ?_
 rintro e w1 ⟨rfl,hw1,hk1⟩
 obtain ⟨⟨c0,c1,c2,c3,c4⟩,cf⟩:=hk1.c5 HC.out HBX.out
 have HC1:=Hm (hk1.c5 HC.out HBX.out)
 have HW1:=Hm hw1
 have HK1:=Hm hk1
 clear hw1 hk1 KO HC cf
 go_wp2_with fail
 refine (HF.out _).mono ?_
 rintro e w2 ⟨rfl,hb2⟩
 obtain ⟨⟨d20,d21,d22,d23,d24⟩,df⟩:=HC1.out.keep hb2
 have HC2:=Hm (HC1.out.keep hb2)
 have HW2:=Hm (HW1.out.keep hb2)
 have HK2:=Hm (HK1.out.wr HW1.out hb2)
 clear hb2 HF HC1 HW1 HK1 df c0 c1 c2 c3 c4
 have KN2:=Hm (wu32_c p (Bx S w.heap.size) (xs++[op%256]) a w2 ha (by omega) (by simp only [List.length_append,List.length_cons,List.length_nil];omega) HW2.out)
 go_wp2_with fail
 refine (KN2.out).mono ?_
 rintro e w3 ⟨rfl,hwn,hkn⟩
 obtain ⟨⟨d30,d31,d32,d33,d34⟩,ef⟩:=hkn.c5 HC2.out HBX.out
 have HC3:=Hm (hkn.c5 HC2.out HBX.out)
 have HW3:=Hm hwn
 have HK3:=Hm (HK2.out.trans hkn)
 clear hwn hkn KN2 HC2 HW2 HK2 ef d20 d21 d22 d23 d24
 have KN3:=Hm (wu32_c p (Bx S w.heap.size) ((xs++[op%256])++lebU 9 a) b w3 hb (by omega) (by have:=(lebU_len 9 a).2;simp only [List.length_append,List.length_cons,List.length_nil];omega) HW3.out)
 go_wp2_with fail
 refine (KN3.out).mono ?_
 rintro e w4 ⟨rfl,hwn,hkn⟩
 obtain ⟨⟨d40,d41,d42,d43,d44⟩,ef⟩:=hkn.c5 HC3.out HBX.out
 have HC4:=Hm (hkn.c5 HC3.out HBX.out)
 have HW4:=Hm hwn
 have HK4:=Hm (HK3.out.trans hkn)
 clear hwn hkn KN3 HC3 HW3 HK3 ef d30 d31 d32 d33 d34
 go_wp2_with fail
 go_end0
 obtain ⟨r1,r2⟩:=wr_fin (xs:=xs++(op%256::encF (5) ⟨op,a,b,v,l⟩)) HLT.out HW4.out HK4.out (by simp [encF])
 exact ⟨rfl,r1,r2⟩
theorem wins_6 (p:Nat) (S:Nat→Prop) (xs:List Int) (op a b v:Int) (l:List Int) (la:Option Addr) (lc:Nat) (w:World) (hf:formR (rowOf op)=6) (hl:xs.length≤500000000000) (hW:Wr w p S xs) :
    Calls Tryz.prog 237 #[.pointer (some ⟨p,0,none⟩),inV ⟨op,a,b,v,l⟩ la lc] w fun e w'=>e=.returned (.tuple #[])∧Wr w' p S (xs++(op%256::encF (6) ⟨op,a,b,v,l⟩))∧Kept S w w':=by
 have HLT:=Hm hW.lt
 have HF:=Hm (iform_c op)
 rw [hf] at HF
 have HBX:=Hm (Bx.box S w.heap.size)
 have HC:=Hm (C5.new (w:=w) (a:=.int .i64 op) (b:=.int .i64 a) (c:=.int .i64 b) (d:=.int .u64 v) (e:=.slice la l.length lc) (t:=188))
 have KO:=Hm (wone_c p (Bx S w.heap.size) xs op (w.alloc (.cells #[.int .i64 op,.int .i64 a,.int .i64 b,.int .u64 v,.slice la l.length lc] 188)) (by omega) (wr_box hW _))
 clear hf hW
 go_enter Tryz.func237,Tryz.ntmps237
 go_wp2_with fail
 refine (KO.out).mono ?_
 rintro e w1 ⟨rfl,hw1,hk1⟩
 obtain ⟨⟨c0,c1,c2,c3,c4⟩,cf⟩:=hk1.c5 HC.out HBX.out
 have HC1:=Hm (hk1.c5 HC.out HBX.out)
 have HW1:=Hm hw1
 have HK1:=Hm hk1
 clear hw1 hk1 KO HC cf
 go_wp2_with fail
 refine (HF.out _).mono ?_
 rintro e w2 ⟨rfl,hb2⟩
 obtain ⟨⟨d20,d21,d22,d23,d24⟩,df⟩:=HC1.out.keep hb2
 have HC2:=Hm (HC1.out.keep hb2)
 have HW2:=Hm (HW1.out.keep hb2)
 have HK2:=Hm (HK1.out.wr HW1.out hb2)
 clear hb2 HF HC1 HW1 HK1 df c0 c1 c2 c3 c4
 have KN2:=Hm (wone_c p (Bx S w.heap.size) (xs++[op%256]) 0 w2 (by simp only [List.length_append,List.length_cons,List.length_nil];omega) HW2.out)
 go_wp2_with fail
 refine (KN2.out).mono ?_
 rintro e w3 ⟨rfl,hwn,hkn⟩
 obtain ⟨⟨d30,d31,d32,d33,d34⟩,ef⟩:=hkn.c5 HC2.out HBX.out
 have HC3:=Hm (hkn.c5 HC2.out HBX.out)
 have HW3:=Hm hwn
 have HK3:=Hm (HK2.out.trans hkn)
 clear hwn hkn KN2 HC2 HW2 HK2 ef d20 d21 d22 d23 d24
 go_wp2_with fail
 go_end0
 obtain ⟨r1,r2⟩:=wr_fin (xs:=xs++(op%256::encF (6) ⟨op,a,b,v,l⟩)) HLT.out HW3.out HK3.out (by simp [encF])
 exact ⟨rfl,r1,r2⟩
end Go.Proofs.YtdbmolambolmgaaGreat
namespace Go.Proofs.YtdbmolambolmgaaGreat
open Go.RowKit Go.Sort
set_option maxRecDepth 100000
theorem wins_8 (p:Nat) (S:Nat→Prop) (xs:List Int) (op a b v:Int) (l:List Int) (la:Option Addr) (lc:Nat) (w:World) (hf:formR (rowOf op)=8) (hv:0≤v) (hv1:v≤18446744073709551615) (hl:xs.length≤500000000000) (hW:Wr w p S xs) :
    Calls Tryz.prog 237 #[.pointer (some ⟨p,0,none⟩),inV ⟨op,a,b,v,l⟩ la lc] w fun e w'=>e=.returned (.tuple #[])∧Wr w' p S (xs++(op%256::encF (8) ⟨op,a,b,v,l⟩))∧Kept S w w':=by
 have HLT:=Hm hW.lt
 have HF:=Hm (iform_c op)
 rw [hf] at HF
 have HBX:=Hm (Bx.box S w.heap.size)
 have HC:=Hm (C5.new (w:=w) (a:=.int .i64 op) (b:=.int .i64 a) (c:=.int .i64 b) (d:=.int .u64 v) (e:=.slice la l.length lc) (t:=188))
 have KO:=Hm (wone_c p (Bx S w.heap.size) xs op (w.alloc (.cells #[.int .i64 op,.int .i64 a,.int .i64 b,.int .u64 v,.slice la l.length lc] 188)) (by omega) (wr_box hW _))
 clear hf hW
 go_enter Tryz.func237,Tryz.ntmps237
 go_wp2_with fail
 refine (KO.out).mono ?_
 rintro e w1 ⟨rfl,hw1,hk1⟩
 obtain ⟨⟨c0,c1,c2,c3,c4⟩,cf⟩:=hk1.c5 HC.out HBX.out
 have HC1:=Hm (hk1.c5 HC.out HBX.out)
 have HW1:=Hm hw1
 have HK1:=Hm hk1
 clear hw1 hk1 KO HC cf
 go_wp2_with fail
 refine (HF.out _).mono ?_
 rintro e w2 ⟨rfl,hb2⟩
 obtain ⟨⟨d20,d21,d22,d23,d24⟩,df⟩:=HC1.out.keep hb2
 have HC2:=Hm (HC1.out.keep hb2)
 have HW2:=Hm (HW1.out.keep hb2)
 have HK2:=Hm (HK1.out.wr HW1.out hb2)
 clear hb2 HF HC1 HW1 HK1 df c0 c1 c2 c3 c4
 have KN2:=Hm (wsig_c p (Bx S w.heap.size) (xs++[op%256]) (wrap64 v) w2 (by unfold wrap64;omega) (by unfold wrap64;omega) (by simp only [List.length_append,List.length_cons,List.length_nil];omega) HW2.out)
 go_wp2_with fail
 refine (KN2.out).mono ?_
 rintro e w3 ⟨rfl,hwn,hkn⟩
 obtain ⟨⟨d30,d31,d32,d33,d34⟩,ef⟩:=hkn.c5 HC2.out HBX.out
 have HC3:=Hm (hkn.c5 HC2.out HBX.out)
 have HW3:=Hm hwn
 have HK3:=Hm (HK2.out.trans hkn)
 clear hwn hkn KN2 HC2 HW2 HK2 ef d20 d21 d22 d23 d24
 go_wp2_with fail
 go_end0
 obtain ⟨r1,r2⟩:=wr_fin (xs:=xs++(op%256::encF (8) ⟨op,a,b,v,l⟩)) HLT.out HW3.out HK3.out (by simp [encF])
 exact ⟨rfl,r1,r2⟩
theorem wins_9 (p:Nat) (S:Nat→Prop) (xs:List Int) (op a b v:Int) (l:List Int) (la:Option Addr) (lc:Nat) (w:World) (hf:formR (rowOf op)=9) (hv:0≤v) (hv1:v≤18446744073709551615) (hl:xs.length≤500000000000) (hW:Wr w p S xs) :
    Calls Tryz.prog 237 #[.pointer (some ⟨p,0,none⟩),inV ⟨op,a,b,v,l⟩ la lc] w fun e w'=>e=.returned (.tuple #[])∧Wr w' p S (xs++(op%256::encF (9) ⟨op,a,b,v,l⟩))∧Kept S w w':=by
 have HLT:=Hm hW.lt
 have HF:=Hm (iform_c op)
 rw [hf] at HF
 have HBX:=Hm (Bx.box S w.heap.size)
 have HC:=Hm (C5.new (w:=w) (a:=.int .i64 op) (b:=.int .i64 a) (c:=.int .i64 b) (d:=.int .u64 v) (e:=.slice la l.length lc) (t:=188))
 have KO:=Hm (wone_c p (Bx S w.heap.size) xs op (w.alloc (.cells #[.int .i64 op,.int .i64 a,.int .i64 b,.int .u64 v,.slice la l.length lc] 188)) (by omega) (wr_box hW _))
 clear hf hW
 go_enter Tryz.func237,Tryz.ntmps237
 go_wp2_with fail
 refine (KO.out).mono ?_
 rintro e w1 ⟨rfl,hw1,hk1⟩
 obtain ⟨⟨c0,c1,c2,c3,c4⟩,cf⟩:=hk1.c5 HC.out HBX.out
 have HC1:=Hm (hk1.c5 HC.out HBX.out)
 have HW1:=Hm hw1
 have HK1:=Hm hk1
 clear hw1 hk1 KO HC cf
 go_wp2_with fail
 refine (HF.out _).mono ?_
 rintro e w2 ⟨rfl,hb2⟩
 obtain ⟨⟨d20,d21,d22,d23,d24⟩,df⟩:=HC1.out.keep hb2
 have HC2:=Hm (HC1.out.keep hb2)
 have HW2:=Hm (HW1.out.keep hb2)
 have HK2:=Hm (HK1.out.wr HW1.out hb2)
 clear hb2 HF HC1 HW1 HK1 df c0 c1 c2 c3 c4
 have KN2:=Hm (wflt_c p (Bx S w.heap.size) (xs++[op%256]) v 4 w2 (.inl rfl) hv hv1 (by simp only [List.length_append,List.length_cons,List.length_nil];omega) HW2.out)
 go_wp2_with fail
 refine (KN2.out).mono ?_
 rintro e w3 ⟨rfl,hwn,hkn⟩
 obtain ⟨⟨d30,d31,d32,d33,d34⟩,ef⟩:=hkn.c5 HC2.out HBX.out
 have HC3:=Hm (hkn.c5 HC2.out HBX.out)
 have HW3:=Hm hwn
 have HK3:=Hm (HK2.out.trans hkn)
 clear hwn hkn KN2 HC2 HW2 HK2 ef d20 d21 d22 d23 d24
 go_wp2_with fail
 go_end0
 obtain ⟨r1,r2⟩:=wr_fin (xs:=xs++(op%256::encF (9) ⟨op,a,b,v,l⟩)) HLT.out HW3.out HK3.out (by simp [encF])
 exact ⟨rfl,r1,r2⟩
theorem wins_10 (p:Nat) (S:Nat→Prop) (xs:List Int) (op a b v:Int) (l:List Int) (la:Option Addr) (lc:Nat) (w:World) (hf:formR (rowOf op)=10) (hv:0≤v) (hv1:v≤18446744073709551615) (hl:xs.length≤500000000000) (hW:Wr w p S xs) :
    Calls Tryz.prog 237 #[.pointer (some ⟨p,0,none⟩),inV ⟨op,a,b,v,l⟩ la lc] w fun e w'=>e=.returned (.tuple #[])∧Wr w' p S (xs++(op%256::encF (10) ⟨op,a,b,v,l⟩))∧Kept S w w':=by
 have HLT:=Hm hW.lt
 have HF:=Hm (iform_c op)
 rw [hf] at HF
 have HBX:=Hm (Bx.box S w.heap.size)
 have HC:=Hm (C5.new (w:=w) (a:=.int .i64 op) (b:=.int .i64 a) (c:=.int .i64 b) (d:=.int .u64 v) (e:=.slice la l.length lc) (t:=188))
 have KO:=Hm (wone_c p (Bx S w.heap.size) xs op (w.alloc (.cells #[.int .i64 op,.int .i64 a,.int .i64 b,.int .u64 v,.slice la l.length lc] 188)) (by omega) (wr_box hW _))
 clear hf hW
 go_enter Tryz.func237,Tryz.ntmps237
 go_wp2_with fail
 refine (KO.out).mono ?_
 rintro e w1 ⟨rfl,hw1,hk1⟩
 obtain ⟨⟨c0,c1,c2,c3,c4⟩,cf⟩:=hk1.c5 HC.out HBX.out
 have HC1:=Hm (hk1.c5 HC.out HBX.out)
 have HW1:=Hm hw1
 have HK1:=Hm hk1
 clear hw1 hk1 KO HC cf
 go_wp2_with fail
 refine (HF.out _).mono ?_
 rintro e w2 ⟨rfl,hb2⟩
 obtain ⟨⟨d20,d21,d22,d23,d24⟩,df⟩:=HC1.out.keep hb2
 have HC2:=Hm (HC1.out.keep hb2)
 have HW2:=Hm (HW1.out.keep hb2)
 have HK2:=Hm (HK1.out.wr HW1.out hb2)
 clear hb2 HF HC1 HW1 HK1 df c0 c1 c2 c3 c4
 have KN2:=Hm (wflt_c p (Bx S w.heap.size) (xs++[op%256]) v 8 w2 (.inr rfl) hv hv1 (by simp only [List.length_append,List.length_cons,List.length_nil];omega) HW2.out)
 go_wp2_with fail
 refine (KN2.out).mono ?_
 rintro e w3 ⟨rfl,hwn,hkn⟩
 obtain ⟨⟨d30,d31,d32,d33,d34⟩,ef⟩:=hkn.c5 HC2.out HBX.out
 have HC3:=Hm (hkn.c5 HC2.out HBX.out)
 have HW3:=Hm hwn
 have HK3:=Hm (HK2.out.trans hkn)
 clear hwn hkn KN2 HC2 HW2 HK2 ef d20 d21 d22 d23 d24
 go_wp2_with fail
 go_end0
 obtain ⟨r1,r2⟩:=wr_fin (xs:=xs++(op%256::encF (10) ⟨op,a,b,v,l⟩)) HLT.out HW3.out HK3.out (by simp [encF])
 exact ⟨rfl,r1,r2⟩
end Go.Proofs.YtdbmolambolmgaaGreat
namespace Go.Proofs.YtdbmolambolmgaaGreat
open Go.RowKit Go.Sort
set_option maxRecDepth 100000
theorem wins_3 (p:Nat) (S:Nat→Prop) (xs:List Int) (op a b v:Int) (l:List Int) (la:Option Addr) (lc:Nat) (w:World) (hf:formR (rowOf op)=3) (ha:0≤a) (ha1:a≤4294967295) (hn:l.length≤1048576) (hu:∀ i,i<l.length→0≤l.getD i 0∧l.getD i 0≤4294967295) (hH:∀ w',Kept S w w'→Has w' la l) (hl:xs.length≤500000000000) (hW:Wr w p S xs) :
    Calls Tryz.prog 237 #[.pointer (some ⟨p,0,none⟩),inV ⟨op,a,b,v,l⟩ la lc] w fun e w'=>e=.returned (.tuple #[])∧Wr w' p S (xs++(op%256::encF (3) ⟨op,a,b,v,l⟩))∧Kept S w w':=by
 have HLT:=Hm hW.lt
 have HF:=Hm (iform_c op)
 rw [hf] at HF
 have HBX:=Hm (Bx.box S w.heap.size)
 have HC:=Hm (C5.new (w:=w) (a:=.int .i64 op) (b:=.int .i64 a) (c:=.int .i64 b) (d:=.int .u64 v) (e:=.slice la l.length lc) (t:=188))
 have KO:=Hm (wone_c p (Bx S w.heap.size) xs op (w.alloc (.cells #[.int .i64 op,.int .i64 a,.int .i64 b,.int .u64 v,.slice la l.length lc] 188)) (by omega) (wr_box hW _))
 have HHH:Hid (∀ w',Kept (Bx S w.heap.size) (w.alloc (.cells #[.int .i64 op,.int .i64 a,.int .i64 b,.int .u64 v,.slice la l.length lc] 188)) w'→Has w' la l):=fun w' h=>hH w' ((Kept.of_below ((Below.refl w.heap.size w).alloc (Nat.le_refl _) _) hW.lt).trans (h.weak fun k hk=>.inl hk))
 have HUU:=Hm hu
 clear hH hu
 clear hf hW
 go_enter Tryz.func237,Tryz.ntmps237
 go_wp2_with fail
 refine (KO.out).mono ?_
 rintro e w1 ⟨rfl,hw1,hk1⟩
 obtain ⟨⟨c0,c1,c2,c3,c4⟩,cf⟩:=hk1.c5 HC.out HBX.out
 have HC1:=Hm (hk1.c5 HC.out HBX.out)
 have HW1:=Hm hw1
 have HK1:=Hm hk1
 clear hw1 hk1 KO HC cf
 go_wp2_with fail
 refine (HF.out _).mono ?_
 rintro e w2 ⟨rfl,hb2⟩
 obtain ⟨⟨d20,d21,d22,d23,d24⟩,df⟩:=HC1.out.keep hb2
 have HC2:=Hm (HC1.out.keep hb2)
 have HW2:=Hm (HW1.out.keep hb2)
 have HK2:=Hm (HK1.out.wr HW1.out hb2)
 clear hb2 HF HC1 HW1 HK1 df c0 c1 c2 c3 c4
 have KN2:=Hm (wvec_c p (Bx S w.heap.size) (xs++[op%256]) l la lc w2 hn HUU.out (by simp only [List.length_append,List.length_cons,List.length_nil];omega) (fun w' h=>HHH.out w' (HK2.out.trans h)) HW2.out)
 go_wp2_with fail
 refine (KN2.out).mono ?_
 rintro e w3 ⟨rfl,hwn,hkn⟩
 obtain ⟨⟨d30,d31,d32,d33,d34⟩,ef⟩:=hkn.c5 HC2.out HBX.out
 have HC3:=Hm (hkn.c5 HC2.out HBX.out)
 have HW3:=Hm hwn
 have HK3:=Hm (HK2.out.trans hkn)
 clear hwn hkn KN2 HC2 HW2 HK2 ef d20 d21 d22 d23 d24
 have KN3:=Hm (wu32_c p (Bx S w.heap.size) ((xs++[op%256])++(lebU 9 l.length++nums l)) a w3 ha (by omega) (by have:=(lebU_len 9 l.length).2;have:=nums_len l;simp only [List.length_append,List.length_cons,List.length_nil];omega) HW3.out)
 go_wp2_with fail
 refine (KN3.out).mono ?_
 rintro e w4 ⟨rfl,hwn,hkn⟩
 obtain ⟨⟨d40,d41,d42,d43,d44⟩,ef⟩:=hkn.c5 HC3.out HBX.out
 have HC4:=Hm (hkn.c5 HC3.out HBX.out)
 have HW4:=Hm hwn
 have HK4:=Hm (HK3.out.trans hkn)
 clear hwn hkn KN3 HC3 HW3 HK3 ef d30 d31 d32 d33 d34
 go_wp2_with fail
 go_end0
 obtain ⟨r1,r2⟩:=wr_fin (xs:=xs++(op%256::encF (3) ⟨op,a,b,v,l⟩)) HLT.out HW4.out HK4.out (by simp [encF])
 exact ⟨rfl,r1,r2⟩
end Go.Proofs.YtdbmolambolmgaaGreat
namespace Go.Proofs.YtdbmolambolmgaaGreat
open Go.RowKit Go.Sort
set_option maxRecDepth 100000
theorem wins_7 (p:Nat) (S:Nat→Prop) (xs:List Int) (op a b v:Int) (l:List Int) (la:Option Addr) (lc:Nat) (w:World) (hf:formR (rowOf op)=7) (hv:0≤v) (hv1:v≤4294967295) (hl:xs.length≤500000000000) (hW:Wr w p S xs) :
    Calls Tryz.prog 237 #[.pointer (some ⟨p,0,none⟩),inV ⟨op,a,b,v,l⟩ la lc] w fun e w'=>e=.returned (.tuple #[])∧Wr w' p S (xs++(op%256::encF (7) ⟨op,a,b,v,l⟩))∧Kept S w w':=by
 have HLT:=Hm hW.lt
 have HF:=Hm (iform_c op)
 rw [hf] at HF
 have HBX:=Hm (Bx.box S w.heap.size)
 have HC:=Hm (C5.new (w:=w) (a:=.int .i64 op) (b:=.int .i64 a) (c:=.int .i64 b) (d:=.int .u64 v) (e:=.slice la l.length lc) (t:=188))
 have KO:=Hm (wone_c p (Bx S w.heap.size) xs op (w.alloc (.cells #[.int .i64 op,.int .i64 a,.int .i64 b,.int .u64 v,.slice la l.length lc] 188)) (by omega) (wr_box hW _))
 clear hf hW
 go_enter Tryz.func237,Tryz.ntmps237
 go_wp2_with fail
 refine (KO.out).mono ?_
 rintro e w1 ⟨rfl,hw1,hk1⟩
 obtain ⟨⟨c0,c1,c2,c3,c4⟩,cf⟩:=hk1.c5 HC.out HBX.out
 have HC1:=Hm (hk1.c5 HC.out HBX.out)
 have HW1:=Hm hw1
 have HK1:=Hm hk1
 clear hw1 hk1 KO HC cf
 go_wp2_with fail
 refine (HF.out _).mono ?_
 rintro e w2 ⟨rfl,hb2⟩
 obtain ⟨⟨d20,d21,d22,d23,d24⟩,df⟩:=HC1.out.keep hb2
 have HC2:=Hm (HC1.out.keep hb2)
 have HW2:=Hm (HW1.out.keep hb2)
 have HK2:=Hm (HK1.out.wr HW1.out hb2)
 clear hb2 HF HC1 HW1 HK1 df c0 c1 c2 c3 c4
 have hs32:wrap32 v=s32 v:=by unfold wrap32 s32;split <;> omega
 have hs64:wrap64 (s32 v)=s32 v:=by unfold wrap64 s32;split <;> omega
 have KN2:=Hm (wsig_c p (Bx S w.heap.size) (xs++[op%256]) (s32 v) w2 (by unfold s32;split <;> omega) (by unfold s32;split <;> omega) (by simp only [List.length_append,List.length_cons,List.length_nil];omega) HW2.out)
 go_wp2_with fail
 refine (KN2.out).mono ?_
 rintro e w3 ⟨rfl,hwn,hkn⟩
 obtain ⟨⟨d30,d31,d32,d33,d34⟩,ef⟩:=hkn.c5 HC2.out HBX.out
 have HC3:=Hm (hkn.c5 HC2.out HBX.out)
 have HW3:=Hm hwn
 have HK3:=Hm (HK2.out.trans hkn)
 clear hwn hkn KN2 HC2 HW2 HK2 ef d20 d21 d22 d23 d24
 go_wp2_with fail
 go_end0
 obtain ⟨r1,r2⟩:=wr_fin (xs:=xs++(op%256::encF (7) ⟨op,a,b,v,l⟩)) HLT.out HW3.out HK3.out (by simp [encF])
 exact ⟨rfl,r1,r2⟩
open Go.RowKit Go.Sort
def encI (x:In):List Int:=x.op%256::encF (formR (rowOf x.op)) x
theorem u32B_iff (x:Int):u32B x=true ↔ 0≤x∧x≤4294967295:=by simp [u32B]
theorem wins_c (p:Nat) (S:Nat→Prop) (xs:List Int) (x:In) (la:Option Addr) (lc:Nat) (w:World) (hg:gd x=true) (hv0:0≤x.v) (hv1:x.v≤18446744073709551615) (hn:x.l.length≤1048576) (hH:∀ w',Kept S w w'→Has w' la x.l) (hl:xs.length≤500000000000) (hW:Wr w p S xs) :
    Calls Tryz.prog 237 #[.pointer (some ⟨p,0,none⟩),inV x la lc] w fun e w'=>e=.returned (.tuple #[])∧Wr w' p S (xs++encI x)∧Kept S w w':=by
 obtain ⟨op,a,b,v,l⟩:=x
 simp only [gd,encI] at *
 rcases form_range op with h | h | h | h | h | h | h | h | h | h | h | h
 · rw [h] at hg;simp [goodF] at hg
 · rw [h];exact wins_0 p S xs op a b v l la lc w h hl hW
 · rw [h];exact wins_1 p S xs op a b v l la lc w h hl hW
 · rw [h] at hg⊢
   simp [goodF,u32B_iff] at hg
   exact wins_2 p S xs op a b v l la lc w h (by omega) (by omega) hl hW
 · rw [h] at hg⊢
   simp [goodF,u32B_iff] at hg
   refine wins_3 p S xs op a b v l la lc w h (by omega) (by omega) hn (fun i hi=>?_) hH hl hW
   have:=hg.1.1.1 (l.getD i 0) (by simp [List.getD,hi])
   exact this
 · rw [h] at hg⊢
   simp [goodF,u32B_iff] at hg
   exact wins_4 p S xs op a b v l la lc w h (by omega) (by omega) hl hW
 · rw [h] at hg⊢
   simp [goodF,u32B_iff] at hg
   exact wins_5 p S xs op a b v l la lc w h (by omega) (by omega) (by omega) (by omega) hl hW
 · rw [h];exact wins_6 p S xs op a b v l la lc w h hl hW
 · rw [h] at hg⊢
   simp [goodF,u32B_iff] at hg
   exact wins_7 p S xs op a b v l la lc w h hv0 (by omega) hl hW
 · rw [h];exact wins_8 p S xs op a b v l la lc w h hv0 hv1 hl hW
 · rw [h];exact wins_9 p S xs op a b v l la lc w h hv0 hv1 hl hW
 · rw [h];exact wins_10 p S xs op a b v l la lc w h hv0 hv1 hl hW
def encM (x:In):List Int:=if gd x then encI x else []
theorem wr_new (w:World) (S:Nat→Prop) (hS:∀ k,S k→k<w.heap.size):Wr (w.alloc (.cells #[.slice none 0 0] 138)) w.heap.size S [] :=
 ⟨.slice none 0 0,cell_new rfl rfl,World.frozen?_alloc_new w _ _ _,World.ownsRow_nil _ _ _ _,fun h=>by have:=hS _ h;omega,fun k hk=>by simp [Value.ownBlock] at hk,fun k hk=>by have:=hS k hk;simp;omega⟩
open Go.RowKit Go.Sort
def P2 (n:Int):Int:=2 ^ n.toNat
theorem P2_pos (n:Int):1≤P2 n:=by unfold P2;have:=Int.pow_pos (n:=(2:Int)) (m:=n.toNat) (by omega);omega
theorem P2_succ (n:Int) (h:0≤n):P2 (n+1)=2*P2 n:=by
 unfold P2;rw [show (n+1).toNat=n.toNat+1 by omega,Int.pow_succ];omega
theorem P2_le {m n:Int} (h0:m≤n):P2 m≤P2 n:=by
 unfold P2
 have h:2 ^ m.toNat≤2 ^ n.toNat:=Nat.pow_le_pow_right (by omega) (by omega)
 have h':((2 ^ m.toNat:Nat):Int)≤((2 ^ n.toNat:Nat):Int):=by omega
 simpa using h'
theorem P2_63 {n:Int} (h:n≤63):P2 n≤9223372036854775808:=by
 have:=P2_le h;rw [show P2 63=9223372036854775808 by decide] at this;exact this
theorem P2_62 {n:Int} (h:n≤62):P2 n≤4611686018427387904:=by
 have:=P2_le h;rw [show P2 62=4611686018427387904 by decide] at this;exact this
theorem pow_any (n:Int) (w:World) (h0:0≤n) (h1:n≤63) :
    Calls Tryz.prog 235 #[.int .i64 n] w fun e w'=>e=.returned (.int .u64 (P2 n))∧w=w':=by
 go_enter Tryz.func235,Tryz.ntmps235
 go_wp2
 go_loop [3,4] (fun x i=>∃ k:Int,0≤k∧k≤n∧i=.int .i64 k∧x=.int .u64 (P2 k)) (fun _ i=>(n-intOf i).toNat)
 case atStart=>exact ⟨0,by omega,h0,rfl,rfl⟩
 case round =>
  obtain ⟨k,hk0,hk,rfl,rfl⟩:=hrel
  have hp:=P2_pos k
  by_cases hlt:k<n
  · have hb:=P2_62 (n:=k) (by omega)
    have HS:Hid (P2 (k+1)=2*P2 k):=P2_succ k hk0
    go_wp2
    go_round
    case rel=>exact ⟨k+1,by omega,by omega,rfl,by rw [HS.out,Int.mul_comm]⟩
    case measure=>simp [intOf];omega
  · have e:k=n:=by omega
    subst e
    go_wp2
    go_ret
    exact ⟨rfl,rfl⟩
theorem low64 (x:Int) (w:World):Calls Tryz.prog 234 #[.int .u64 x,.int .i64 64] w fun e w'=>e=.returned (.int .u64 x)∧w=w':=by
 go_enter Tryz.func234,Tryz.ntmps234
 go_wp2
 go_ret
 exact ⟨rfl,rfl⟩
theorem low32 (x:Int) (w:World) (h0:0≤x) (h1:x≤18446744073709551615):Calls Tryz.prog 234 #[.int .u64 x,.int .i64 32] w fun e w'=>e=.returned (.int .u64 (x%4294967296))∧w=w':=by
 have hp:P2 32=4294967296:=by decide
 go_enter Tryz.func234,Tryz.ntmps234
 go_wp2_with (go_at_call 235;refine (pow_any _ _ (by omega) (by omega)).mono ?_;rintro e w' ⟨rfl,rfl⟩)
 go_ret
 exact ⟨rfl,rfl⟩
theorem signed64 (x:Int) (w:World) (h0:0≤x) (h1:x≤18446744073709551615):Calls Tryz.prog 223 #[.int .u64 x,.int .i64 64] w fun e w'=>e=.returned (.int .i64 (wrap64 x))∧w=w':=by
 go_enter Tryz.func223,Tryz.ntmps223
 go_wp2_with (go_at_call 234;refine (low64 _ _).mono ?_;rintro e w' ⟨rfl,rfl⟩)
 go_ret
 exact ⟨rfl,rfl⟩
theorem signed32 (x:Int) (w:World) (h0:0≤x) (h1:x≤4294967295):Calls Tryz.prog 223 #[.int .u64 x,.int .i64 32] w fun e w'=>e=.returned (.int .i64 (wrap32 x))∧w=w':=by
 have hx:x%4294967296=x:=by omega
 have hp:P2 32=4294967296:=by decide
 have hq:P2 31=2147483648:=by decide
 by_cases h:2147483648≤x
 · have e:wrap32 x=x-4294967296:=by simp only [wrap32];omega
   rw [e]
   clear e
   go_enter Tryz.func223,Tryz.ntmps223
   go_wp2_with (first | (go_at_call 234;refine (low32 _ _ (by omega) (by omega)).mono ?_;rintro e w' ⟨rfl,rfl⟩) | (go_at_call 235;refine (pow_any _ _ (by omega) (by omega)).mono ?_;rintro e w' ⟨rfl,rfl⟩))
   go_ret
   exact ⟨rfl,rfl⟩
 · have e:wrap32 x=x:=by simp only [wrap32];omega
   rw [e]
   clear e
   go_enter Tryz.func223,Tryz.ntmps223
   go_wp2_with (first | (go_at_call 234;refine (low32 _ _ (by omega) (by omega)).mono ?_;rintro e w' ⟨rfl,rfl⟩) | (go_at_call 235;refine (pow_any _ _ (by omega) (by omega)).mono ?_;rintro e w' ⟨rfl,rfl⟩))
   go_ret
   exact ⟨rfl,rfl⟩
theorem snums_c (l:List Int) (la:Option Addr) (lc:Nat) (w:World) (hn:l.length≤1048576) (hu:∀ i,i<l.length→0≤l.getD i 0∧l.getD i 0≤4294967295) (hH:Has w la l) :
    Calls Tryz.prog 144 #[.slice la l.length lc] w fun e w'=>∃ v,e=.returned v∧w'.ownsRow w.heap.size 5 1 v (lebU 9 l.length++nums l).length (U (lebU 9 l.length++nums l))∧Below w.heap.size w w':=by
 obtain ⟨i0,hi,hz0,hz1,hz2⟩:=info_parts Tryz.info5
 have HU:=Hm hu
 have HH:=Hm hH
 have KL:=Hm (specPutU_any l.length w (by omega) (by omega))
 have hll:=(lebU_len 9 l.length).2
 generalize hQ:lebU 9 l.length=ys at *
 have hys:ys.length≤10:=hll
 clear hu hH hQ hll
 go_enter Tryz.func144,Tryz.ntmps144
 go_wp2_with fail
 refine (KL.out).mono ?_
 rintro e w1 ⟨v1,rfl,ho1,hb1⟩
 have HW1:=Hm ho1
 have HB1:=Hm hb1
 clear ho1 hb1 KL
 go_wp2_with fail
 go_loopw [3,4] (fun v i wr=>∃ k:Nat,k≤l.length∧i=.int .i64 k∧wr.ownsRow w.heap.size 5 1 v (ys++nums (l.take k)).length (U (ys++nums (l.take k)))∧Below w.heap.size w wr) (fun _ i _=>l.length-(intOf i).toNat)
 case atStart=>exact ⟨0,Nat.zero_le _,rfl,by simpa [nums] using HW1.out,HB1.out⟩
 case round =>
  obtain ⟨k,hk,rfl,ho,hb⟩:=hrel
  clear HW1 HB1
  by_cases hlt:k<l.length
  · have hki:(k:Int)<(l.length:Int):=by omega
    rcases HH.out.keep hb with hx | ⟨b1,o1,ea,hc⟩
    · subst hx;simp at hlt
    have d:=hc k hlt
    subst ea
    obtain ⟨u0,u1⟩:=HU.out k hlt
    have hs:=nums_step l k hlt
    have hlk:(ys++nums (l.take k)).length≤1099511627776:=by
     have:=nums_take_len l k
     simp only [List.length_append];omega
    generalize hy:l.getD k 0=y at *
    have hwy:IntKind.u64.wrap y=y:=by rw [IntKind.wrap_u64];omega
    have KO:=Hm (specPutU_any y wr u0 (by omega))
    have hyl:=lebU_len 9 y
    generalize lebU 9 y=L at *
    generalize hpre:ys++nums (l.take k)=pre at *
    have hlU:(U L).length=L.length*1:=by simp
    have HS:Hid (ys++nums (l.take (k+1))=pre++L):=by show _=_;rw [hs,← List.append_assoc,hpre]
    have HO:=Hm ho
    have HB:=Hm hb
    obtain ⟨hl0,hl1⟩:=hyl
    clear ho hb hc hs hy hpre HH HU
    go_wp2_with (first
     | (go_at_call 77
        refine (KO.out).mono ?_
        rintro e w2 ⟨v2,rfl,ho2,hb2⟩
        obtain ⟨g,gc,rfl,hg,hg'⟩:=By.own_split ho2 hl0
        have O2:=Hm (ownE_keep HO.out hb2 (Nat.le_refl _))
        have S2:=Hm (own_src ho2)
        have B2:=Hm (HB.out.trans (hb2.mono HB.out.size))
        clear ho2 hb2 hg hg' KO)
     | (at_builtin
        refine wpList_append_own _ rfl _ _ 50 rfl w.heap.size 5 i0 (.int .u8 0) 1 1 Tryz.underlying50 hi hz0 hz1 hz2 rfl (by decide) _ _ _ rfl O2.out ⟨g,0,none⟩ L.length gc (U L) rfl hlU S2.out (oneU _) (by unfold maxLen;omega) (by omega) B2.out.size ?_
        intro v3 w3 own3 gr3 hnn
        have HO3:Hid (w3.ownsRow w.heap.size 5 1 v3 (pre++L).length (U (pre++L))):=by show World.ownsRow _ _ _ _ _ _ _;simpa [U] using own3
        have HB3:=Hm (B2.out.grown gr3 B2.out.size (fun j hj=>(O2.out.lt j hj).1))
        clear own3 gr3 hnn))
    go_roundw
    case rel=>exact ⟨k+1,by omega,by go_num,by rw [HS.out];exact HO3.out,HB3.out⟩
    case measure=>simp [intOf];omega
  · have e:k=l.length:=by omega
    subst e
    have HO:=Hm ho
    have HB:=Hm hb
    clear ho hb HH HU
    go_wp2
    go_ret
    refine ⟨_,rfl,?_,HB.out⟩
    have h:=HO.out
    rw [List.take_length] at h
    exact h
theorem div_step (v:Int) (k:Nat):v / 2 ^ (8*k) / 256=v / 2 ^ (8*(k+1)):=by
 rw [Int.ediv_ediv_of_nonneg (by have:=Int.pow_pos (n:=(2:Int)) (m:=8*k) (by omega);omega)]
 rw [show 8*(k+1)=8*k+8 by omega,Int.pow_add]
 rfl
theorem div_le (v:Int) (k:Nat) (h0:0≤v):0≤v / 2 ^ (8*k)∧v / 2 ^ (8*k)≤v:=by
 have hp:=Int.pow_pos (n:=(2:Int)) (m:=8*k) (by omega)
 exact ⟨Int.ediv_nonneg h0 (by omega),Int.ediv_le_self _ h0⟩
theorem sfix_c (v:Int) (n:Nat) (w:World) (hn:n≤8) (h0:0≤v) (h1:v≤18446744073709551615) :
    Calls Tryz.prog 224 #[.int .u64 v,.int .i64 n] w fun e w'=>∃ u,e=.returned u∧w'.ownsRow w.heap.size 5 1 u (fx n v).length (U (fx n v))∧Below w.heap.size w w':=by
 obtain ⟨i0,hi,hz0,hz1,hz2⟩:=info_parts Tryz.info5
 go_enter Tryz.func224,Tryz.ntmps224
 go_wp2
 go_loopw [0,5,6] (fun x u i wr=>∃ (k:Nat) (y:Int),k≤n∧i=.int .i64 k∧x=.int .u64 y∧0≤y∧y≤18446744073709551615∧Hid (y=v / 2 ^ (8*k))∧wr.ownsRow w.heap.size 5 1 u (fx k v).length (U (fx k v))∧Below w.heap.size w wr) (fun _ _ i _=>n-(intOf i).toNat)
 case atStart=>exact ⟨0,v,Nat.zero_le _,rfl,rfl,h0,h1,by show _=_;simp,World.ownsRow_lit w #[] 0 (Nat.le_refl _) (Nat.zero_le _) rfl,(Below.refl _ _).alloc (Nat.le_refl _) _⟩
 case round =>
  obtain ⟨k,y,hk,rfl,rfl,hy0,hy1,HY,hown,hbel⟩:=hrel
  have hsz:=hbel.size
  by_cases hlt:k<n
  · have hki:(k:Int)<(n:Int):=by omega
    have hlf:(fx k v).length≤8:=by rw [fx_len];omega
    have HF:Hid (fx (k+1) v=fx k v++[y%256]):=by show _=_;rw [fx_succ,HY.out]
    have HD:Hid (y / 256=v / 2 ^ (8*(k+1))):=by show _=_;rw [HY.out,div_step]
    generalize fx k v=pre at *
    go_wp2_with (at_builtin;refine wpList_append_own _ rfl _ _ 50 rfl w.heap.size 5 i0 (.int .u8 0) 1 1 Tryz.underlying50 hi hz0 hz1 hz2 rfl (by decide) _ _ _ rfl (hown.alloc _) ⟨wr.heap.size,0,none⟩ 1 1 [.int .u8 (y%256)] rfl rfl (cell_one_new _ _ _) (oneB _) (by unfold maxLen;omega) (by omega) (by simp;omega) ?_;intro v' w1 hown' hgrow hnn;have hbel':=below_push hown hbel hsz hgrow;have hown2:=owns_push hown';clear hown' hgrow hown hbel hsz hnn)
    go_roundw
    case rel=>exact ⟨k+1,y / 256,by omega,by go_num,rfl,by omega,by omega,HD.out,by rw [HF.out];exact hown2,hbel'⟩
    case measure=>simp [intOf];omega
  · have e:k=n:=by omega
    subst e
    go_wp2
    go_ret
    exact ⟨_,rfl,hown,hbel⟩
end Go.Proofs.YtdbmolambolmgaaGreat
