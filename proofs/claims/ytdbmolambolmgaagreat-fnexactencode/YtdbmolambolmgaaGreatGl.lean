import Derived.Test.YtdbmolambolmgaaGreatGj
import Derived.Test.YtdbmolambolmgaaGreatGk
import Derived.Test.YtdbmolambolmgaaGreatGg
import Derived.Deep.RegionWith
import Derived.Deep.RegionHeld3
set_option linter.all false
set_option maxHeartbeats 16000000
set_option maxRecDepth 100000
namespace Go.Proofs.YtdbmolambolmgaaGreat
open Go.RowKit Go.Sort
set_option maxRecDepth 100000
theorem good_c (x:In) (la:Option Addr) (lc:Nat) (w:World) (hv:0≤x.v) (hln:x.l.length≤1099511627776) (hH:Has w la x.l):Calls Tryz.prog 112 #[inV x la lc] w fun e w'=>e=.returned (.bool (gd x))∧Below w.heap.size w w':=by
 rcases form_range x.op with h | h | h | h | h | h | h | h | h | h | h | h
 · simp only [gd,h];exact sgood_m1 x la lc w h hv
 · simp only [gd,h];exact sgood_0 x la lc w h hv
 · simp only [gd,h];exact sgood_1 x la lc w h hv
 · simp only [gd,h];exact sgood_2 x la lc w h hv
 · simp only [gd,h];exact sgood_3 x la lc w h hv hln hH
 · simp only [gd,h];exact sgood_4 x la lc w h hv
 · simp only [gd,h];exact sgood_5 x la lc w h hv
 · simp only [gd,h];exact sgood_6 x la lc w h hv
 · simp only [gd,h];exact sgood_7 x la lc w h hv
 · simp only [gd,h];exact sgood_8 x la lc w h hv
 · simp only [gd,h];exact sgood_9 x la lc w h hv
 · simp only [gd,h];exact sgood_10 x la lc w h hv
theorem stepM_e (n m:List Bool) (z:Bool) (h:n=m++[z]):stepM n 5=if z then some (m++[false]) else none:=by
 subst h;cases z <;> simp [stepM]
theorem stepM_x (n m:List Bool) (z:Bool) (h:n=m++[z]):stepM n 11=some m:=by
 subst h;simp [stepM]
def bi (b:Bool):Int:=if b then 1 else 0
def ksOf (n:List Bool):List Int:=n.tail.map bi
def hdF (n:List Bool):Prop:=n=[]∨∃ m,n=false::m
theorem ksOf_cons (m:List Bool):ksOf (false::m)=m.map bi:=rfl
theorem sl {w:World} {B n:Nat} {v:Value} {zs:List Value} (h:w.ownsRow B 2 1 v n zs):∃ va vn vc,v=.slice va vn vc:=by
 obtain ⟨a,c,e⟩:=ownE_slice h
 exact ⟨a,_,c,e⟩
def Ans (n:List Bool) (op:Int) (kv':Value) (dn bd:Bool) (B:Nat) (w':World):Prop :=
 (stepM n op=none∧bd=true)∨∃ n',stepM n op=some n'∧hdF n'∧bd=false∧dn=n'.isEmpty∧w'.ownsRow B 2 1 kv' (ksOf n').length (I (ksOf n'))
theorem next_c (B:Nat) (kv:Value) (n:List Bool) (op:Int) (w:World) (hB:B≤w.heap.size) (hl:n.length≤4194304) (hd:hdF n) (h:w.ownsRow B 2 1 kv (ksOf n).length (I (ksOf n))) :
    Calls Tryz.prog 113 #[opV kv n.isEmpty false,.int .i64 op] w fun e w'=>∃ va vn vc dn bd,e=.returned (opV (.slice va vn vc) dn bd)∧Ans n op (.slice va vn vc) dn bd B w'∧Below B w w':=by
 refine Calls.mono (R:=fun e w'=>∃ kv' dn bd,e=.returned (opV kv' dn bd)∧(∃ va vn vc,kv'=.slice va vn vc)∧Ans n op kv' dn bd B w'∧Below B w w') ?_ (fun e w' ⟨kv',dn,bd,h1,⟨va,vn,vc,h2⟩,h3,h4⟩=>by subst h2;exact ⟨va,vn,vc,dn,bd,h1,h3,h4⟩)
 rcases hd with rfl | ⟨m,rfl⟩
 · exact (next_done B kv _ op w hB h).mono fun e w' ⟨va,vn,vc,a,b⟩=>⟨_,_,_,a,⟨va,vn,vc,rfl⟩,.inl ⟨by simp [stepM],rfl⟩,b⟩
 · have hlen:m.length≤4194304:=by simp at hl;omega
   rw [ksOf_cons] at h
   show Calls Tryz.prog 113 #[opV kv false false,.int .i64 op] w _
   by_cases h1:op=2∨op=3
   · have e:stepM (false::m) op=some (false::(m++[false])):=by simp [stepM,h1]
     have key:∀ kv' (w':World),w'.ownsRow B 2 1 kv' (m.map bi++[0]).length (I (m.map bi++[0]))→w'.ownsRow B 2 1 kv' (ksOf (false::(m++[false]))).length (I (ksOf (false::(m++[false])))):=fun kv' w' q=>by
      have:ksOf (false::(m++[false]))=m.map bi++[0]:=by simp [ksOf,bi]
      rw [this];exact q
     rcases h1 with rfl | rfl
     · exact (next_2 B kv _ w hB (by simpa using hlen) h).mono fun e' w' ⟨kv',a,b,c⟩=>⟨kv',_,_,a,sl b,.inr ⟨_,e,.inr ⟨_,rfl⟩,rfl,rfl,key kv' w' b⟩,c⟩
     · exact (next_3 B kv _ w hB (by simpa using hlen) h).mono fun e' w' ⟨kv',a,b,c⟩=>⟨kv',_,_,a,sl b,.inr ⟨_,e,.inr ⟨_,rfl⟩,rfl,rfl,key kv' w' b⟩,c⟩
   · by_cases h2:op=4
     · subst h2
       have e:stepM (false::m) 4=some (false::(m++[true])):=by simp [stepM]
       refine (next_4 B kv _ w hB (by simpa using hlen) h).mono fun e' w' ⟨kv',a,b,c⟩=>⟨kv',_,_,a,sl b,.inr ⟨_,e,.inr ⟨_,rfl⟩,rfl,rfl,?_⟩,c⟩
       have:ksOf (false::(m++[true]))=m.map bi++[1]:=by simp [ksOf,bi]
       rw [this];exact b
     · by_cases h3:op=5
       · subst h3
         by_cases hm:m=[]
         · subst hm
           exact (next_5n B kv w hB h).mono fun e' w' ⟨va,vn,vc,a,b⟩=>⟨_,_,_,a,⟨va,vn,vc,rfl⟩,.inl ⟨by simp [stepM],rfl⟩,b⟩
         · obtain ⟨q,z,rfl⟩:∃ q z,m=q++[z]:=⟨m.dropLast,m.getLast hm,(List.dropLast_concat_getLast hm).symm⟩
           have hq:q.length≤4194304:=by simp at hlen;omega
           rw [List.map_append,List.map_cons,List.map_nil] at h
           cases z
           · exact (next_5z B kv _ _ w hB (by simpa using hq) rfl h).mono fun e' w' ⟨va,vn,vc,a,b⟩=>⟨_,_,_,a,⟨va,vn,vc,rfl⟩,.inl ⟨stepM_e _ (false::q) false rfl,rfl⟩,b⟩
           · have e:stepM (false::(q++[true])) 5=some (false::(q++[false])):=stepM_e _ (false::q) true rfl
             refine (next_5 B kv _ _ w hB (by simpa using hq) (by decide) h).mono fun e' w' ⟨kv',a,b,c⟩=>⟨kv',_,_,a,sl b,.inr ⟨_,e,.inr ⟨_,rfl⟩,rfl,rfl,?_⟩,c⟩
             have:ksOf (false::(q++[false]))=q.map bi++[0]:=by simp [ksOf,bi]
             rw [this];exact b
       · by_cases h4:op=11
         · subst h4
           by_cases hm:m=[]
           · subst hm
             have e:stepM [false] 11=some []:=by simp [stepM]
             exact (next_11n B kv w hB h).mono fun e' w' ⟨kv',a,b,c⟩=>⟨kv',_,_,a,sl b,.inr ⟨_,e,.inl rfl,rfl,rfl,b⟩,c⟩
           · obtain ⟨q,z,rfl⟩:∃ q z,m=q++[z]:=⟨m.dropLast,m.getLast hm,(List.dropLast_concat_getLast hm).symm⟩
             have hq:q.length≤4194304:=by simp at hlen;omega
             rw [List.map_append,List.map_cons,List.map_nil] at h
             have e:stepM (false::(q++[z])) 11=some (false::q):=stepM_x _ (false::q) z rfl
             exact (next_11 B kv _ _ w hB (by simpa using hq) h).mono fun e' w' ⟨kv',a,b,c⟩=>⟨kv',_,_,a,sl b,.inr ⟨_,e,.inr ⟨_,rfl⟩,rfl,rfl,b⟩,c⟩
         · have e:stepM (false::m) op=some (false::m):=by simp only [stepM,h1,h2,h3,h4,if_false];simp
           exact (next_same B kv _ op w hB (by omega) (by omega) h2 h3 h4 h).mono fun e' w' ⟨kv',a,b,c⟩=>⟨kv',_,_,a,sl b,.inr ⟨_,e,.inr ⟨_,rfl⟩,rfl,rfl,b⟩,c⟩
structure So (g:Nat) (kv:Value) (n:List Bool) (w:World):Prop where
 c0:w.cell? ⟨g,0,none⟩=some kv
 c1:w.cell? ⟨g,1,none⟩=some (.bool n.isEmpty)
 c2:w.cell? ⟨g,2,none⟩=some (.bool false)
 fz:∀ i,w.frozen? ⟨g,i,none⟩=false
 own:w.ownsRow (g+1) 2 1 kv (ksOf n).length (I (ksOf n))
 lt:g<w.heap.size
theorem So.keep {g:Nat} {kv:Value} {n:List Bool} {w w1:World} (h:So g kv n w) (hb:Below w.heap.size w w1):So g kv n w1 :=
 ⟨(hb.cell (p:=⟨g,0,none⟩) h.lt).trans h.c0,(hb.cell (p:=⟨g,1,none⟩) h.lt).trans h.c1,(hb.cell (p:=⟨g,2,none⟩) h.lt).trans h.c2,fun i=>(hb.frozen (p:=⟨g,i,none⟩) h.lt).trans (h.fz i),own_keep h.own hb (own_lt h.own),Nat.lt_of_lt_of_le h.lt hb.size⟩
theorem So.drew {g:Nat} {kv:Value} {n:List Bool} {w:World} (h:So g kv n w):So g kv n w.drew:=⟨h.c0,h.c1,h.c2,h.fz,h.own,h.lt⟩
theorem So.set {g:Nat} {kv kv':Value} {n':List Bool} {w3:World} {u0 u1 u2:Value} (h0:w3.cell? ⟨g,0,none⟩=some u0) (h1:w3.cell? ⟨g,1,none⟩=some u1) (h2:w3.cell? ⟨g,2,none⟩=some u2) (hf:∀ i,w3.frozen? ⟨g,i,none⟩=false) (ho:w3.ownsRow (g+1) 2 1 kv' (ksOf n').length (I (ksOf n'))) :
    So g kv' n' (((w3.setCell ⟨g,0,none⟩ kv').setCell ⟨g,1,none⟩ (.bool n'.isEmpty)).setCell ⟨g,2,none⟩ (.bool false)):=by
 have hne:kv'.ownBlock≠some g:=fun e=>by have:=(ho.lt g e).1;omega
 refine ⟨set_off (set_off (set_same h0) (by omega)) (by omega),set_off (set_same (set_off h1 (by omega))) (by omega),set_same (set_off (set_off h2 (by omega)) (by omega)),fun i=>by simp only [World.frozen?_setCell];exact hf i,ownE_set (ownE_set (ownE_set ho hne) hne) hne,?_⟩
 have:=World.block_lt_of_cell? w3 _ h0
 simpa using this
theorem so_start (w:World):So w.heap.size (.slice none 0 0) [false] (w.alloc (.cells #[.slice none 0 0,.bool false,.bool false] 185)) :=
 ⟨cell_new rfl rfl,cell_new rfl rfl,cell_new rfl rfl,fun i=>World.frozen?_alloc_new _ _ _ _,World.ownsRow_nil _ _ _ _,by simp⟩
theorem sclosed_c (a:Option Addr) (c:Nat) (xs:List In) (w:World) (hn:xs.length≤1048576) (hl:∀ i,i<xs.length→(xs.getD i I0).l.length≤1048576) (hv:∀ i,0≤(xs.getD i I0).v) (hL:Lst w a xs) :
    Calls Tryz.prog 32 #[.slice a xs.length c] w fun e w'=>e=.returned (.bool (closedM xs))∧Below w.heap.size w w':=by
 have HL:=Hm hL
 have Hl:=Hm hl
 have Hv:=Hm hv
 clear hL hl hv
 have HS:=Hm (so_start w)
 go_enter Tryz.func32,Tryz.ntmps32
 go_wp2_with fail
 go_loopw [4] (fun i wr=>∃ (k:Nat) (n:List Bool) (kv:Value),k≤xs.length∧i=.int .i64 k∧So w.heap.size kv n wr∧hdF n∧Below w.heap.size w wr∧closedM xs=goM n (xs.drop k)∧n.length≤k+1) (fun i _=>xs.length-(intOf i).toNat)
 case atStart=>exact ⟨0,[false],_,Nat.zero_le _,rfl,HS.out,.inr ⟨_,rfl⟩,(Below.refl _ _).alloc (Nat.le_refl _) _,rfl,by simp⟩
 case round =>
  obtain ⟨k,n,kv,hk,rfl,so,hd,hb,hm,hnl⟩:=hrel
  clear HS
  by_cases hlt:k<xs.length
  · have hki:(k:Int)<(xs.length:Int):=by omega
    rcases HL.out with hx | ⟨b,o,ea,hc⟩
    · subst hx;simp at hlt
    have blt0:b<w.heap.size:=by
     obtain ⟨la,lc,c0,_⟩:=hc k hlt
     exact World.block_lt_of_cell? w _ c0
    obtain ⟨la,lc,c0,c1,c2,c3,c4,c5⟩:=(hc k hlt).keep hb
    have blt:=World.block_lt_of_cell? wr _ c0
    subst ea
    rw [drop_cons xs k hlt] at hm
    have hxl:=Hl.out k hlt
    have hxv:=Hv.out k
    obtain ⟨x,hx⟩:∃ x,x=xs.getD k I0:=⟨_,rfl⟩
    rw [← hx] at c0 c1 c2 c3 c4 c5 hm hxl hxv
    have HI:=Hm (good_c x la lc wr hxv (by omega) c5)
    have SO:=Hm so
    have HB:=Hm hb
    have HM:=Hm hm
    have HD:=Hm hd
    clear hx hc c5 so hb hm hd HL Hl Hv
    generalize hg:gd x=gx at *
    cases gx
    · go_wp2_with fail
      refine HI.out.mono ?_
      rintro e w2 ⟨rfl,hb2⟩
      have hb3:Below w.heap.size w w2:=HB.out.trans (hb2.mono HB.out.size)
      clear hb2
      go_wp2
      go_ret
      exact ⟨by rw [HM.out];simp [goM,hg],hb3⟩
    · go_wp2_with fail
      refine HI.out.mono ?_
      rintro e w2 ⟨rfl,hb2⟩
      have so2:=SO.out.keep hb2
      have hb4:Below w.heap.size w w2:=HB.out.trans (hb2.mono HB.out.size)
      have d0:w2.cell? ⟨b,o+k*5,none⟩=some (.int .i64 x.op):=(hb2.cell (p:=⟨b,o+k*5,none⟩) blt).trans c0
      have f0:=so2.c0
      have f1:=so2.c1
      have f2:=so2.c2
      have ff:=so2.fz
      obtain ⟨ka,kc,rfl⟩:=ownE_slice so2.own
      have NS:=Hm (fun (W:World) (hw:So w.heap.size (.slice ka (ksOf n).length kc) n W)=>next_c (w.heap.size+1) (.slice ka (ksOf n).length kc) n x.op W hw.lt (by omega) HD.out hw.own)
      have SO2:=Hm so2
      have HB4:=Hm hb4
      clear hb2 HI SO c0 c1 c2 c3 c4 so2 hb4
      go_wp2
      go_region_with (refine (NS.out _ (by first | exact SO2.out | exact SO2.out.drew | exact SO2.out.drew.drew)).mono ?_;rintro e w3 ⟨va,vn,vc,dn,bd,rfl,ans,b3⟩;have g0:w3.cell? ⟨w.heap.size,0,none⟩=some (.slice ka (ksOf n).length kc):=(b3.cell (p:=⟨w.heap.size,0,none⟩) (Nat.lt_succ_self _)).trans f0;have g1:w3.cell? ⟨w.heap.size,1,none⟩=some (.bool n.isEmpty):=(b3.cell (p:=⟨w.heap.size,1,none⟩) (Nat.lt_succ_self _)).trans f1;have g2:w3.cell? ⟨w.heap.size,2,none⟩=some (.bool false):=(b3.cell (p:=⟨w.heap.size,2,none⟩) (Nat.lt_succ_self _)).trans f2;have gf:∀ i,w3.frozen? ⟨w.heap.size,i,none⟩=false:=fun i=>(b3.frozen (p:=⟨w.heap.size,i,none⟩) (Nat.lt_succ_self _)).trans (ff i))
      all_goals
       have b5:Below w.heap.size w (((w3.setCell ⟨w.heap.size,0,none⟩ (.slice va vn vc)).setCell ⟨w.heap.size,1,none⟩ (.bool dn)).setCell ⟨w.heap.size,2,none⟩ (.bool bd)):=((((HB4.out.trans (⟨b3.os,b3.tape,b3.output,b3.size,fun k hk=>b3.block k (by omega)⟩:Below w.heap.size w2 w3))).setCell (Nat.le_refl _) _).setCell (Nat.le_refl _) _).setCell (Nat.le_refl _) _
       have l3:=World.block_lt_of_cell? w3 _ g0
       rcases ans with ⟨hst,hbd⟩ | ⟨n',hst,hd',hbd,hdn,ho⟩
       · subst hbd
         have B5:=Hm b5
         clear b3 b5 NS SO2 HB4
         go_wp2
         go_ret
         exact ⟨by rw [HM.out];simp [goM,hg,hst],B5.out⟩
       · subst hbd hdn
         have S3:=Hm (So.set (kv:=.slice va vn vc) g0 g1 g2 gf ho)
         have B5:=Hm b5
         have HD3:=Hm hd'
         have hnl':=stepM_len hst
         have HM2:Hid (closedM xs=goM n' (xs.drop (k+1))):=by
          show closedM xs=_
          rw [HM.out];simp [goM,hg,hst]
         clear b3 b5 NS SO2 HB4 ho hd' HD hst
         go_wp2
         go_roundw
         case rel=>exact ⟨k+1,n',_,by omega,by go_num,S3.out,HD3.out,B5.out,HM2.out,by omega⟩
         case measure=>simp [intOf];omega
  · have e:k=xs.length:=by omega
    subst e
    have c1:=so.c1
    have HM:Hid (closedM xs=n.isEmpty):=by
     show closedM xs=_
     rw [hm,List.drop_of_length_le (Nat.le_refl _)]
     cases n <;> simp [goM]
    clear hm so HL Hl Hv
    generalize n.isEmpty=dd at *
    go_wp2
    go_ret
    exact ⟨by rw [HM.out];rfl,hb⟩
end Go.Proofs.YtdbmolambolmgaaGreat
