import Derived.Test.YtdbmolambolmgaaGreatGn
set_option linter.all false
set_option maxHeartbeats 16000000
set_option maxRecDepth 100000
namespace Go.Proofs.YtdbmolambolmgaaGreat.NF
open Go.RowKit Go.Sort
set_option maxRecDepth 100000
def unfro:Obj→Bool
 | .cells _ _ (lo,hi)=>lo==0&&hi==0
 | _=>false
structure Below (B:Nat) (w w':World):Prop where
 to:Go.RowKit.Below B w w'
 nz:∀ a,w'.frozen? a=true→w.frozen? a=true
theorem Below.size {B:Nat} {w w':World} (h:Below B w w'):w.heap.size≤w'.heap.size:=h.to.size
theorem Below.block {B:Nat} {w w':World} (h:Below B w w'):∀ k,k<B→w'.heap[k]?=w.heap[k]?:=h.to.block
theorem Below.cell {B:Nat} {w w':World} (h:Below B w w') {p:Addr} (hp:p.block<B):w'.cell? p=w.cell? p:=h.to.cell hp
theorem Below.frozen {B:Nat} {w w':World} (h:Below B w w') {p:Addr} (hp:p.block<B):w'.frozen? p=w.frozen? p:=h.to.frozen hp
theorem Below.refl (B:Nat) (w:World):Below B w w:=⟨Go.RowKit.Below.refl _ _,fun _ h=>h⟩
theorem Below.trans {B:Nat} {a b c:World} (h:Below B a b) (k:Below B b c):Below B a c:=⟨h.to.trans k.to,fun p hp=>h.nz p (k.nz p hp)⟩
theorem Below.mono {B B':Nat} {w w':World} (h:Below B w w') (hB:B'≤B):Below B' w w':=⟨h.to.mono hB,h.nz⟩
theorem Below.setCell {B:Nat} {w w':World} (h:Below B w w') {p:Addr} (hp:B≤p.block) (v:Value):Below B w (w'.setCell p v):=⟨h.to.setCell hp v,fun a ha=>h.nz a (by rwa [World.frozen?_setCell] at ha)⟩
theorem Below.alloc {B:Nat} {w w':World} (h:Below B w w') (hs:B≤w'.heap.size) (o:Obj) (ho:unfro o=true:=by rfl):Below B w (w'.alloc o):=by
 refine ⟨h.to.alloc hs o,fun a ha=>h.nz a ?_⟩
 by_cases e:a.block=w'.heap.size
 · exfalso
   have hh:(w'.alloc o).heap[a.block]?=some o:=by rw [e];exact heap_new w' o
   unfold World.frozen? at ha
   rw [hh] at ha
   cases o with
   | cells c t r =>
    obtain ⟨lo,hi⟩:=r
    simp only [unfro,Bool.and_eq_true,beq_iff_eq] at ho
    obtain ⟨rfl,rfl⟩:=ho
    simp at ha
   | _=>simp [unfro] at ho
 · have hh:(w'.alloc o).heap[a.block]?=w'.heap[a.block]?:=by
     show (w'.heap.push o)[a.block]?=_
     rcases Nat.lt_or_ge a.block w'.heap.size with h' | h'
     · rw [Array.getElem?_push_lt h',Array.getElem?_eq_getElem h']
     · rw [Array.getElem?_eq_none (by simp;omega),Array.getElem?_eq_none h']
   unfold World.frozen? at ha⊢
   rwa [hh] at ha
theorem Below.heap_setCell (w:World) (p:Addr) (v:Value) (k:Nat) (h:k≠p.block):(w.setCell p v).heap[k]?=w.heap[k]?:=Go.RowKit.Below.heap_setCell w p v k h
theorem up_below {B:Nat} {w w':World} (h:Below w.heap.size w w'):Up B w w':=Go.Proofs.YtdbmolambolmgaaGreat.up_below h.to
theorem toI_c (a:Option Addr) (c:Nat) (xs:List Int) (w:World) (hn:xs.length≤1048576) (hH:Has w a xs) :
    Calls Tryz.prog 39 #[.slice a xs.length c] w fun e w'=>e=.returned (.slice (some ⟨w.heap.size,0,none⟩) xs.length xs.length)∧w'.ownsRow w.heap.size 2 1 (.slice (some ⟨w.heap.size,0,none⟩) xs.length xs.length) xs.length (I xs)∧Below w.heap.size w w':=by
 have hmk:=run_make_row' (P:=Tryz.prog) 24 2 (.int .i64 0) 8 Tryz.underlying24 Tryz.info2 rfl .i64 .i64 xs.length (by omega) (by omega)
 have HH:=Hm hH
 clear hH
 have hst:(w.alloc (.cells (madeCells #[.int .i64 0] xs.length) 2)).ownsRow w.heap.size 2 1 (.slice (some ⟨w.heap.size,0,none⟩) xs.length xs.length) xs.length (I (xs.take 0++(List.replicate xs.length 0).drop 0)):=by
  have:=World.ownsRow_lit (base:=w.heap.size) (e:=2) (size:=1) w (madeCells #[.int .i64 0] xs.length) xs.length (Nat.le_refl _) (by unfold maxLen;omega) (by simp [madeCells])
  have e:(madeCells #[.int .i64 0] xs.length).toList=I (xs.take 0++(List.replicate xs.length 0).drop 0):=by
   apply List.ext_getElem?
   intro i
   by_cases hi:i<xs.length
   · simp [madeCells,hi,Nat.mod_one]
   · simp [madeCells,hi]
  rw [e] at this
  exact this
 have HS:=Hm hst
 clear hst
 go_enter Tryz.func39,Tryz.ntmps39
 go_wp2
 go_loopw [4] (fun i wr=>∃ k:Nat,k≤xs.length∧i=.int .i64 k∧wr.ownsRow w.heap.size 2 1 (.slice (some ⟨w.heap.size,0,none⟩) xs.length xs.length) xs.length (I (xs.take k++(List.replicate xs.length 0).drop k))∧Below w.heap.size w wr) (fun i _=>xs.length-(intOf i).toNat)
 case atStart=>exact ⟨0,Nat.zero_le _,rfl,HS.out,(Below.refl _ _).alloc (Nat.le_refl _) _⟩
 case round =>
  obtain ⟨k,hk,rfl,ho,hb⟩:=hrel
  clear HS hmk
  by_cases hlt:k<xs.length
  · have hki:(k:Int)<(xs.length:Int):=by omega
    rcases HH.out with hx | ⟨b,o,ea,hc⟩
    · subst hx;simp at hlt
    have d:wr.cell? ⟨b,o+k,none⟩=some (.int .i64 (xs.getD k 0)):=(hb.cell (p:=⟨b,o+k,none⟩) (World.block_lt_of_cell? w _ (hc k hlt))).trans (hc k hlt)
    subst ea
    have hcell:∃ u,wr.cell? ⟨w.heap.size,k,none⟩=some u:=by
     rw [ho.cellAt k (by omega)]
     exact ⟨_,List.getElem?_eq_getElem (by simp;omega)⟩
    obtain ⟨u,hu⟩:=hcell
    have hfz:=ho.frozenAt k
    obtain ⟨x,hx⟩:∃ x,x=xs.getD k 0:=⟨_,rfl⟩
    obtain ⟨s1,s2⟩:=ho.stored k (.int .i64 x)
    rw [hx,copy_step k xs hlt,← hx] at s1
    rw [← hx] at d
    have R:=And.intro s1 (hb.setCell (p:=⟨w.heap.size,k,none⟩) (Nat.le_refl _) (.int .i64 x))
    clear s1 s2 ho hb hc hx HH
    go_wp2
    go_roundw
    case rel=>exact ⟨k+1,by omega,by go_num,R.1,R.2⟩
    case measure=>simp [intOf];omega
  · have e:k=xs.length:=by omega
    subst e
    rw [List.take_length,List.drop_of_length_le (by simp),List.append_nil] at ho
    go_wp2
    go_ret
    exact ⟨rfl,ho,hb⟩
open Go.RowKit Go.Sort
abbrev U8 (xs:List Int):List Value:=xs.map fun x=>Value.int .u8 x
theorem Tryz.info5:(Tryz.prog.info? 5).map (fun i=>(i.zero,i.size,i.bytes))=some (some (.int .u8 0),1,1):=by kernel_rfl
theorem copyB_step (k:Nat) (xs:List Int) (h:k<xs.length):(U8 (xs.take k++(List.replicate xs.length 0).drop k)).set k (.int .u8 (xs.getD k 0))=U8 (xs.take (k+1)++(List.replicate xs.length 0).drop (k+1)):=by
 have hd:(List.replicate xs.length (0:Int)).drop k=0::(List.replicate xs.length (0:Int)).drop (k+1):=by
  rw [List.drop_eq_getElem_cons (by simpa using h)];simp
 have ht:xs.take (k+1)=xs.take k++[xs.getD k 0]:=by
  rw [List.take_succ_eq_append_getElem h];simp [List.getD,h]
 rw [hd,ht]
 simp only [U8,List.map_append,List.map_cons,List.append_assoc,List.cons_append,List.nil_append,List.map_nil]
 rw [List.set_append_right _ _ (by simp;omega)]
 simp [Nat.min_eq_left (Nat.le_of_lt h)]
theorem toB_c (a:Option Addr) (c:Nat) (xs:List Int) (w:World) (hn:xs.length≤1048576) (hH:HI .u8 0 w a xs) :
    Calls Tryz.prog 174 #[.slice a xs.length c] w fun e w'=>e=.returned (.slice (some ⟨w.heap.size,0,none⟩) xs.length xs.length)∧w'.ownsRow w.heap.size 5 1 (.slice (some ⟨w.heap.size,0,none⟩) xs.length xs.length) xs.length (U8 xs)∧Below w.heap.size w w':=by
 have hmk:=run_make_row' (P:=Tryz.prog) 50 5 (.int .u8 0) 1 Tryz.underlying50 Tryz.info5 rfl .i64 .i64 xs.length (by omega) (by omega)
 have HH:=Hm hH
 clear hH
 have hst:(w.alloc (.cells (madeCells #[.int .u8 0] xs.length) 5)).ownsRow w.heap.size 5 1 (.slice (some ⟨w.heap.size,0,none⟩) xs.length xs.length) xs.length (U8 (xs.take 0++(List.replicate xs.length 0).drop 0)):=by
  have:=World.ownsRow_lit (base:=w.heap.size) (e:=5) (size:=1) w (madeCells #[.int .u8 0] xs.length) xs.length (Nat.le_refl _) (by unfold maxLen;omega) (by simp [madeCells])
  have e:(madeCells #[.int .u8 0] xs.length).toList=U8 (xs.take 0++(List.replicate xs.length 0).drop 0):=by
   apply List.ext_getElem?
   intro i
   by_cases hi:i<xs.length
   · simp [madeCells,hi,Nat.mod_one]
   · simp [madeCells,hi]
  rw [e] at this
  exact this
 have HS:=Hm hst
 clear hst
 go_enter Tryz.func174,Tryz.ntmps174
 go_wp2
 go_loopw [4] (fun i wr=>∃ k:Nat,k≤xs.length∧i=.int .i64 k∧wr.ownsRow w.heap.size 5 1 (.slice (some ⟨w.heap.size,0,none⟩) xs.length xs.length) xs.length (U8 (xs.take k++(List.replicate xs.length 0).drop k))∧Below w.heap.size w wr) (fun i _=>xs.length-(intOf i).toNat)
 case atStart=>exact ⟨0,Nat.zero_le _,rfl,HS.out,(Below.refl _ _).alloc (Nat.le_refl _) _⟩
 case round =>
  obtain ⟨k,hk,rfl,ho,hb⟩:=hrel
  clear HS hmk
  by_cases hlt:k<xs.length
  · have hki:(k:Int)<(xs.length:Int):=by omega
    rcases HH.out with hx | ⟨b,o,ea,_,hc⟩
    · subst hx;simp at hlt
    have d:wr.cell? ⟨b,o+k,none⟩=some (.int .u8 (xs.getD k 0)):=(hb.cell (p:=⟨b,o+k,none⟩) (World.block_lt_of_cell? w _ (hc k hlt))).trans (hc k hlt)
    subst ea
    have hcell:∃ u,wr.cell? ⟨w.heap.size,k,none⟩=some u:=by
     rw [ho.cellAt k (by omega)]
     exact ⟨_,List.getElem?_eq_getElem (by simp;omega)⟩
    obtain ⟨u,hu⟩:=hcell
    have hfz:=ho.frozenAt k
    obtain ⟨x,hx⟩:∃ x,x=xs.getD k 0:=⟨_,rfl⟩
    obtain ⟨s1,s2⟩:=ho.stored k (.int .u8 x)
    rw [hx,copyB_step k xs hlt,← hx] at s1
    rw [← hx] at d
    have R:=And.intro s1 (hb.setCell (p:=⟨w.heap.size,k,none⟩) (Nat.le_refl _) (.int .u8 x))
    clear s1 s2 ho hb hc hx HH
    go_wp2
    go_roundw
    case rel=>exact ⟨k+1,by omega,by go_num,R.1,R.2⟩
    case measure=>simp [intOf];omega
  · have e:k=xs.length:=by omega
    subst e
    rw [List.take_length,List.drop_of_length_le (by simp),List.append_nil] at ho
    go_wp2
    go_ret
    exact ⟨rfl,ho,hb⟩
theorem rtInts_c (a:Option Addr) (c:Nat) (xs:List Int) (w:World) (hn:xs.length≤1048576) (hH:HI .i64 0 w a xs) :
    Calls Tryz.prog 39 #[.slice a xs.length c] w fun e w'=>e=.returned (.slice (some ⟨w.heap.size,0,none⟩) xs.length xs.length)∧HI .i64 w.heap.size w' (some ⟨w.heap.size,0,none⟩) xs∧Below w.heap.size w w' :=
 (toI_c a c xs w hn hH.has).mono fun e w' ⟨h1,h2,h3⟩=>⟨h1,.inr ⟨_,_,rfl,Nat.le_refl _,fun i hi=>by rw [Nat.zero_add,h2.cellAt i (by omega)];simp [List.getD,hi]⟩,h3⟩
theorem rtBytes_c (a:Option Addr) (c:Nat) (xs:List Int) (w:World) (hn:xs.length≤1048576) (hH:HI .u8 0 w a xs) :
    Calls Tryz.prog 174 #[.slice a xs.length c] w fun e w'=>e=.returned (.slice (some ⟨w.heap.size,0,none⟩) xs.length xs.length)∧HI .u8 w.heap.size w' (some ⟨w.heap.size,0,none⟩) xs∧Below w.heap.size w w' :=
 (toB_c a c xs w hn hH).mono fun e w' ⟨h1,h2,h3⟩=>⟨h1,.inr ⟨_,_,rfl,Nat.le_refl _,fun i hi=>by rw [Nat.zero_add,h2.cellAt i (by omega)];simp [List.getD,hi]⟩,h3⟩
def Bk (W:World) (g:Nat) (cs:List Value):Prop:=g<W.heap.size∧(∀ j v,cs[j]?=some v→W.cell? ⟨g,j,none⟩=some v)∧∀ j,W.frozen? ⟨g,j,none⟩=false
theorem Bk.keep {W W':World} {g:Nat} {cs:List Value} (h:Bk W g cs) (hb:Below W.heap.size W W'):Bk W' g cs :=
 ⟨Nat.lt_of_lt_of_le h.1 hb.size,fun j v hj=>(hb.cell (p:=⟨g,j,none⟩) h.1).trans (h.2.1 j v hj),fun j=>(hb.frozen (p:=⟨g,j,none⟩) h.1).trans (h.2.2 j)⟩
theorem Bk.new {w:World} {cs:List Value} {t:TypeId}:Bk (w.alloc (.cells cs.toArray t)) w.heap.size cs :=
 ⟨by simp,fun j v hj=>cell_new rfl (by simpa using hj),fun j=>World.frozen?_alloc_new _ _ _ _⟩
theorem Bk.past {w:World} {g:Nat} {cs:List Value} {o:Obj} (h:Bk w g cs) (ho:unfro o=true:=by rfl):Bk (w.alloc o) g cs:=h.keep ((Below.refl _ _).alloc (Nat.le_refl _) _ ho)
theorem Bk.other {W:World} {g g' o:Nat} {v:Value} {cs:List Value} (h:Bk W g cs) (hne:g'≠g):Bk (W.setCell ⟨g',o,none⟩ v) g cs :=
 ⟨by simpa using h.1,fun j u hj=>by rw [World.cell?_setCell_other _ _ _ _ (fun e=>hne (congrArg Addr.block e))];exact h.2.1 j u hj,fun j=>by rw [World.frozen?_setCell];exact h.2.2 j⟩
theorem Bk.set {W:World} {g j:Nat} {v:Value} {cs:List Value} (h:Bk W g cs):Bk (W.setCell ⟨g,j,none⟩ v) g (cs.set j v):=by
 refine ⟨by simpa using h.1,fun i u hi=>?_,fun i=>by rw [World.frozen?_setCell];exact h.2.2 i⟩
 by_cases e:j=i
 · subst e
   have hj:j<cs.length:=by
    rcases Nat.lt_or_ge j cs.length with h' | h'
    · exact h'
    · rw [List.getElem?_eq_none (by simpa using h')] at hi;cases hi
   rw [List.getElem?_set_self hj] at hi
   cases hi
   exact set_same (h.2.1 j _ (List.getElem?_eq_getElem hj))
 · rw [List.getElem?_set_ne e] at hi
   exact set_off (h.2.1 i u hi) e
theorem three (w:World) (b z z':List Value) (t t' t'':TypeId):Bk (((w.alloc (.cells b.toArray t)).alloc (.cells z.toArray t')).alloc (.cells z'.toArray t'')) w.heap.size b∧Bk (((w.alloc (.cells b.toArray t)).alloc (.cells z.toArray t')).alloc (.cells z'.toArray t'')) (w.heap.size+1) z∧Bk (((w.alloc (.cells b.toArray t)).alloc (.cells z.toArray t')).alloc (.cells z'.toArray t'')) (w.heap.size+2) z'∧Below w.heap.size w (((w.alloc (.cells b.toArray t)).alloc (.cells z.toArray t')).alloc (.cells z'.toArray t'')):=by
 refine ⟨Bk.new.past.past,?_,?_,(((Below.refl _ _).alloc (Nat.le_refl _) _).alloc (by simp) _).alloc (by simp;omega) _⟩
 · have:=(Bk.new (w:=w.alloc (.cells b.toArray t)) (cs:=z) (t:=t')).past (o:=.cells z'.toArray t'')
   simpa using this
 · have:=(Bk.new (w:=(w.alloc (.cells b.toArray t)).alloc (.cells z.toArray t')) (cs:=z') (t:=t''))
   simpa using this
open Go.RowKit Go.Sort
theorem hb_of {W W':World} {B:Nat} (h:Below B W W') (e:B=W.heap.size):Below W.heap.size W W':=e ▸ h
theorem up_sets1 {B g:Nat} {w:World} {v0:Value} {o0:Nat} (h:g+2<B):Up B w (w.setCell ⟨g+2,o0,none⟩ v0):=fun k hk hl=>by
 rw [Below.heap_setCell _ _ _ _ (by show k≠g+2;omega)]
theorem up_set1_2 {B g:Nat} {w:World} {v0:Value} {v1:Value} (h:g+1<B):Up B w ((w.setCell ⟨g+1,0,none⟩ v0).setCell ⟨g+1,1,none⟩ v1):=fun k hk hl=>by
 rw [Below.heap_setCell _ _ _ _ (by show k≠g+1;omega),Below.heap_setCell _ _ _ _ (by show k≠g+1;omega)]
theorem up_sets3 {B g:Nat} {w:World} {v0:Value} {o0:Nat} {v1:Value} {o1:Nat} {v2:Value} {o2:Nat} (h:g+2<B):Up B w (((w.setCell ⟨g+2,o0,none⟩ v0).setCell ⟨g+2,o1,none⟩ v1).setCell ⟨g+2,o2,none⟩ v2):=fun k hk hl=>by
 rw [Below.heap_setCell _ _ _ _ (by show k≠g+2;omega),Below.heap_setCell _ _ _ _ (by show k≠g+2;omega),Below.heap_setCell _ _ _ _ (by show k≠g+2;omega)]
theorem up_set1_3 {B g:Nat} {w:World} {v0:Value} {v1:Value} {v2:Value} (h:g+1<B):Up B w (((w.setCell ⟨g+1,0,none⟩ v0).setCell ⟨g+1,1,none⟩ v1).setCell ⟨g+1,2,none⟩ v2):=fun k hk hl=>by
 rw [Below.heap_setCell _ _ _ _ (by show k≠g+1;omega),Below.heap_setCell _ _ _ _ (by show k≠g+1;omega),Below.heap_setCell _ _ _ _ (by show k≠g+1;omega)]
theorem up_set1_5 {B g:Nat} {w:World} {v0:Value} {v1:Value} {v2:Value} {v3:Value} {v4:Value} (h:g+1<B):Up B w (((((w.setCell ⟨g+1,0,none⟩ v0).setCell ⟨g+1,1,none⟩ v1).setCell ⟨g+1,2,none⟩ v2).setCell ⟨g+1,3,none⟩ v3).setCell ⟨g+1,4,none⟩ v4):=fun k hk hl=>by
 rw [Below.heap_setCell _ _ _ _ (by show k≠g+1;omega),Below.heap_setCell _ _ _ _ (by show k≠g+1;omega),Below.heap_setCell _ _ _ _ (by show k≠g+1;omega),Below.heap_setCell _ _ _ _ (by show k≠g+1;omega),Below.heap_setCell _ _ _ _ (by show k≠g+1;omega)]
theorem up_set1_13 {B g:Nat} {w:World} {v0:Value} {v1:Value} {v2:Value} {v3:Value} {v4:Value} {v5:Value} {v6:Value} {v7:Value} {v8:Value} {v9:Value} {v10:Value} {v11:Value} {v12:Value} (h:g+1<B):Up B w (((((((((((((w.setCell ⟨g+1,0,none⟩ v0).setCell ⟨g+1,1,none⟩ v1).setCell ⟨g+1,2,none⟩ v2).setCell ⟨g+1,3,none⟩ v3).setCell ⟨g+1,4,none⟩ v4).setCell ⟨g+1,5,none⟩ v5).setCell ⟨g+1,6,none⟩ v6).setCell ⟨g+1,7,none⟩ v7).setCell ⟨g+1,8,none⟩ v8).setCell ⟨g+1,9,none⟩ v9).setCell ⟨g+1,10,none⟩ v10).setCell ⟨g+1,11,none⟩ v11).setCell ⟨g+1,12,none⟩ v12):=fun k hk hl=>by
 rw [Below.heap_setCell _ _ _ _ (by show k≠g+1;omega),Below.heap_setCell _ _ _ _ (by show k≠g+1;omega),Below.heap_setCell _ _ _ _ (by show k≠g+1;omega),Below.heap_setCell _ _ _ _ (by show k≠g+1;omega),Below.heap_setCell _ _ _ _ (by show k≠g+1;omega),Below.heap_setCell _ _ _ _ (by show k≠g+1;omega),Below.heap_setCell _ _ _ _ (by show k≠g+1;omega),Below.heap_setCell _ _ _ _ (by show k≠g+1;omega),Below.heap_setCell _ _ _ _ (by show k≠g+1;omega),Below.heap_setCell _ _ _ _ (by show k≠g+1;omega),Below.heap_setCell _ _ _ _ (by show k≠g+1;omega),Below.heap_setCell _ _ _ _ (by show k≠g+1;omega),Below.heap_setCell _ _ _ _ (by show k≠g+1;omega)]
theorem rtLimits_c (x:Limits) (w:World) (hI:Limits.Is 0 w x) (hl:Limits.LB 1048576 x) :
    Calls Tryz.prog 117 #[.agg #[.int .i64 x.min,.int .i64 x.max,.bool x.has]] w fun e w'=>e=.returned (.agg #[.int .i64 x.min,.int .i64 x.max,.bool x.has])∧Limits.Is w.heap.size w' x∧Below w.heap.size w w':=by
 have T0:=Hm (three w [.int .i64 x.min,.int .i64 x.max,.bool x.has] [.int .i64 0,.int .i64 0,.bool false] [.int .i64 0,.int .i64 0,.bool false] 162 99 99)
 go_enter Tryz.func117,Tryz.ntmps117
 go_upto_region 2 with fail
 refine wp_gen (fun W=>Bk W w.heap.size [.int .i64 x.min,.int .i64 x.max,.bool x.has]∧Bk W (w.heap.size+1) [.int .i64 0,.int .i64 0,.bool false]∧Bk W (w.heap.size+2) [.int .i64 0,.int .i64 0,.bool false]∧Below w.heap.size w W) T0.out ?_
 rintro W ⟨bb,br,bo,hb⟩
 clear T0
 have e1:w.heap.size≠w.heap.size+1:=by omega
 have e2:w.heap.size≠w.heap.size+2:=by omega
 have e3:w.heap.size+1≠w.heap.size+2:=by omega
 have e4:w.heap.size+2≠w.heap.size+1:=by omega
 have q0:=bb.2.1 0 _ rfl
 have o0:=bo.2.1 0 _ rfl
 have s0:=br.2.1 0 _ rfl
 have q1:=bb.2.1 1 _ rfl
 have o1:=bo.2.1 1 _ rfl
 have s1:=br.2.1 1 _ rfl
 have q2:=bb.2.1 2 _ rfl
 have o2:=bo.2.1 2 _ rfl
 have s2:=br.2.1 2 _ rfl
 have fo:=bo.2.2
 have fr:=br.2.2
 have HB:=Hm hb
 clear hb bb br bo
 go_wp2
 exact bodyPost_ret (v:=.agg #[.int .i64 x.min,.int .i64 x.max,.bool x.has]) (by simp [results,Tryz.results117,go_sem,s0,s1,s2,e3,e4]) rfl ⟨rfl,trivial,((((((HB.out.setCell (by show w.heap.size≤w.heap.size+2;omega) _).setCell (by show w.heap.size≤w.heap.size+2;omega) _).setCell (by show w.heap.size≤w.heap.size+2;omega) _).setCell (by show w.heap.size≤w.heap.size+1;omega) _).setCell (by show w.heap.size≤w.heap.size+1;omega) _).setCell (by show w.heap.size≤w.heap.size+1;omega) _)⟩
theorem rtGType_c (x:GType) (w:World) (hI:GType.Is 0 w x) (hl:GType.LB 1048576 x) :
    Calls Tryz.prog 171 #[.agg #[.int .i64 x.ty,.bool x.mu]] w fun e w'=>e=.returned (.agg #[.int .i64 x.ty,.bool x.mu])∧GType.Is w.heap.size w' x∧Below w.heap.size w w':=by
 have T0:=Hm (three w [.int .i64 x.ty,.bool x.mu] [.int .i64 0,.bool false] [.int .i64 0,.bool false] 163 101 101)
 go_enter Tryz.func171,Tryz.ntmps171
 go_upto_region 2 with fail
 refine wp_gen (fun W=>Bk W w.heap.size [.int .i64 x.ty,.bool x.mu]∧Bk W (w.heap.size+1) [.int .i64 0,.bool false]∧Bk W (w.heap.size+2) [.int .i64 0,.bool false]∧Below w.heap.size w W) T0.out ?_
 rintro W ⟨bb,br,bo,hb⟩
 clear T0
 have e1:w.heap.size≠w.heap.size+1:=by omega
 have e2:w.heap.size≠w.heap.size+2:=by omega
 have e3:w.heap.size+1≠w.heap.size+2:=by omega
 have e4:w.heap.size+2≠w.heap.size+1:=by omega
 have q0:=bb.2.1 0 _ rfl
 have o0:=bo.2.1 0 _ rfl
 have s0:=br.2.1 0 _ rfl
 have q1:=bb.2.1 1 _ rfl
 have o1:=bo.2.1 1 _ rfl
 have s1:=br.2.1 1 _ rfl
 have fo:=bo.2.2
 have fr:=br.2.2
 have HB:=Hm hb
 clear hb bb br bo
 go_wp2
 exact bodyPost_ret (v:=.agg #[.int .i64 x.ty,.bool x.mu]) (by simp [results,Tryz.results171,go_sem,s0,s1,e3,e4]) rfl ⟨rfl,trivial,((((HB.out.setCell (by show w.heap.size≤w.heap.size+2;omega) _).setCell (by show w.heap.size≤w.heap.size+2;omega) _).setCell (by show w.heap.size≤w.heap.size+1;omega) _).setCell (by show w.heap.size≤w.heap.size+1;omega) _)⟩
theorem rtGrp_c (x:Grp) (w:World) (hI:Grp.Is 0 w x) (hl:Grp.LB 1048576 x) :
    Calls Tryz.prog 216 #[.agg #[.int .i64 x.n,.int .i64 x.ty]] w fun e w'=>e=.returned (.agg #[.int .i64 x.n,.int .i64 x.ty])∧Grp.Is w.heap.size w' x∧Below w.heap.size w w':=by
 have T0:=Hm (three w [.int .i64 x.n,.int .i64 x.ty] [.int .i64 0,.int .i64 0] [.int .i64 0,.int .i64 0] 292 191 191)
 go_enter Tryz.func216,Tryz.ntmps216
 go_upto_region 2 with fail
 refine wp_gen (fun W=>Bk W w.heap.size [.int .i64 x.n,.int .i64 x.ty]∧Bk W (w.heap.size+1) [.int .i64 0,.int .i64 0]∧Bk W (w.heap.size+2) [.int .i64 0,.int .i64 0]∧Below w.heap.size w W) T0.out ?_
 rintro W ⟨bb,br,bo,hb⟩
 clear T0
 have e1:w.heap.size≠w.heap.size+1:=by omega
 have e2:w.heap.size≠w.heap.size+2:=by omega
 have e3:w.heap.size+1≠w.heap.size+2:=by omega
 have e4:w.heap.size+2≠w.heap.size+1:=by omega
 have q0:=bb.2.1 0 _ rfl
 have o0:=bo.2.1 0 _ rfl
 have s0:=br.2.1 0 _ rfl
 have q1:=bb.2.1 1 _ rfl
 have o1:=bo.2.1 1 _ rfl
 have s1:=br.2.1 1 _ rfl
 have fo:=bo.2.2
 have fr:=br.2.2
 have HB:=Hm hb
 clear hb bb br bo
 go_wp2
 exact bodyPost_ret (v:=.agg #[.int .i64 x.n,.int .i64 x.ty]) (by simp [results,Tryz.results216,go_sem,s0,s1,e3,e4]) rfl ⟨rfl,trivial,((((HB.out.setCell (by show w.heap.size≤w.heap.size+2;omega) _).setCell (by show w.heap.size≤w.heap.size+2;omega) _).setCell (by show w.heap.size≤w.heap.size+1;omega) _).setCell (by show w.heap.size≤w.heap.size+1;omega) _)⟩
theorem rtIn_c (x:In) (a1:Option Addr) (c1:Nat) (w:World) (hI:In.Is 0 w x a1) (hl:In.LB 1048576 x) :
    Calls Tryz.prog 215 #[.agg #[.int .i64 x.op,.int .i64 x.a,.int .i64 x.b,.int .u64 x.v,.slice a1 x.l.length c1]] w fun e w'=>∃ b1,e=.returned (.agg #[.int .i64 x.op,.int .i64 x.a,.int .i64 x.b,.int .u64 x.v,.slice (some ⟨b1,0,none⟩) x.l.length x.l.length])∧In.Is w.heap.size w' x (some ⟨b1,0,none⟩)∧Below w.heap.size w w':=by
 have l4:x.l.length≤1048576:=hl
 have r1:=hI
 clear hI
 have R1:=Hm r1
 clear r1
 have T0:=Hm (three w [.int .i64 x.op,.int .i64 x.a,.int .i64 x.b,.int .u64 x.v,.slice a1 x.l.length c1] [.int .i64 0,.int .i64 0,.int .i64 0,.int .u64 0,.slice none 0 0] [.int .i64 0,.int .i64 0,.int .i64 0,.int .u64 0,.slice none 0 0] 289 188 188)
 go_enter Tryz.func215,Tryz.ntmps215
 go_upto_region 2 with fail
 refine wp_gen (fun W=>Bk W w.heap.size [.int .i64 x.op,.int .i64 x.a,.int .i64 x.b,.int .u64 x.v,.slice a1 x.l.length c1]∧Bk W (w.heap.size+1) [.int .i64 0,.int .i64 0,.int .i64 0,.int .u64 0,.slice none 0 0]∧Bk W (w.heap.size+2) [.int .i64 0,.int .i64 0,.int .i64 0,.int .u64 0,.slice none 0 0]∧Below w.heap.size w W) T0.out ?_
 rintro W ⟨bb,br,bo,hb⟩
 clear T0
 have e1:w.heap.size≠w.heap.size+1:=by omega
 have e2:w.heap.size≠w.heap.size+2:=by omega
 have e3:w.heap.size+1≠w.heap.size+2:=by omega
 have e4:w.heap.size+2≠w.heap.size+1:=by omega
 have q0:=bb.2.1 0 _ rfl
 have o0:=bo.2.1 0 _ rfl
 have s0:=br.2.1 0 _ rfl
 have q1:=bb.2.1 1 _ rfl
 have o1:=bo.2.1 1 _ rfl
 have s1:=br.2.1 1 _ rfl
 have q2:=bb.2.1 2 _ rfl
 have o2:=bo.2.1 2 _ rfl
 have s2:=br.2.1 2 _ rfl
 have q3:=bb.2.1 3 _ rfl
 have o3:=bo.2.1 3 _ rfl
 have s3:=br.2.1 3 _ rfl
 have q4:=bb.2.1 4 _ rfl
 have o4:=bo.2.1 4 _ rfl
 have s4:=br.2.1 4 _ rfl
 have fo:=bo.2.2
 have fr:=br.2.2
 have hC1:Below w.heap.size w ((((W.setCell ⟨w.heap.size+2,0,none⟩ (.int .i64 x.op)).setCell ⟨w.heap.size+2,1,none⟩ (.int .i64 x.a)).setCell ⟨w.heap.size+2,2,none⟩ (.int .i64 x.b)).setCell ⟨w.heap.size+2,3,none⟩ (.int .u64 x.v)):=((((hb.setCell (by show w.heap.size≤w.heap.size+2;omega) _).setCell (by show w.heap.size≤w.heap.size+2;omega) _).setCell (by show w.heap.size≤w.heap.size+2;omega) _).setCell (by show w.heap.size≤w.heap.size+2;omega) _)
 have HC1:=Hm (rtInts_c a1 c1 x.l ((((W.setCell ⟨w.heap.size+2,0,none⟩ (.int .i64 x.op)).setCell ⟨w.heap.size+2,1,none⟩ (.int .i64 x.a)).setCell ⟨w.heap.size+2,2,none⟩ (.int .i64 x.b)).setCell ⟨w.heap.size+2,3,none⟩ (.int .u64 x.v)) l4 (R1.out.up (up_below hC1)))
 obtain ⟨B1,hB1⟩:∃ B,B=(((((W.setCell ⟨w.heap.size+2,0,none⟩ (.int .i64 x.op)).setCell ⟨w.heap.size+2,1,none⟩ (.int .i64 x.a)).setCell ⟨w.heap.size+2,2,none⟩ (.int .i64 x.b)).setCell ⟨w.heap.size+2,3,none⟩ (.int .u64 x.v))).heap.size:=⟨_,rfl⟩
 rw [← hB1] at HC1
 have HQ1:=Hm hB1
 clear hB1
 have bb1:Bk ((((W.setCell ⟨w.heap.size+2,0,none⟩ (.int .i64 x.op)).setCell ⟨w.heap.size+2,1,none⟩ (.int .i64 x.a)).setCell ⟨w.heap.size+2,2,none⟩ (.int .i64 x.b)).setCell ⟨w.heap.size+2,3,none⟩ (.int .u64 x.v)) w.heap.size [.int .i64 x.op,.int .i64 x.a,.int .i64 x.b,.int .u64 x.v,.slice a1 x.l.length c1]:=((((bb.other (by omega)).other (by omega)).other (by omega)).other (by omega))
 have br1:Bk ((((W.setCell ⟨w.heap.size+2,0,none⟩ (.int .i64 x.op)).setCell ⟨w.heap.size+2,1,none⟩ (.int .i64 x.a)).setCell ⟨w.heap.size+2,2,none⟩ (.int .i64 x.b)).setCell ⟨w.heap.size+2,3,none⟩ (.int .u64 x.v)) (w.heap.size+1) [.int .i64 0,.int .i64 0,.int .i64 0,.int .u64 0,.slice none 0 0]:=((((br.other (by omega)).other (by omega)).other (by omega)).other (by omega))
 have bo1:Bk ((((W.setCell ⟨w.heap.size+2,0,none⟩ (.int .i64 x.op)).setCell ⟨w.heap.size+2,1,none⟩ (.int .i64 x.a)).setCell ⟨w.heap.size+2,2,none⟩ (.int .i64 x.b)).setCell ⟨w.heap.size+2,3,none⟩ (.int .u64 x.v)) (w.heap.size+2) [.int .i64 x.op,.int .i64 x.a,.int .i64 x.b,.int .u64 x.v,.slice none 0 0]:=bo.set.set.set.set
 go_wp2_with fail
 refine HC1.out.mono ?_
 rintro e W1 ⟨rfl,n1,hb1⟩
 have bbn:=bb1.keep (hb_of hb1 HQ1.out)
 have brn:=br1.keep (hb_of hb1 HQ1.out)
 have bon:=bo1.keep (hb_of hb1 HQ1.out)
 have hbn:Below w.heap.size w W1:=hC1.trans ((hb_of hb1 HQ1.out).mono hC1.size)
 clear bb br bo hb fo fr q0 o0 s0 q1 o1 s1 q2 o2 s2 q3 o3 s3 q4 o4 s4
 have bb:=bbn
 have br:=brn
 have bo:=bon
 have hb:=hbn
 clear bbn brn bon hbn
 have hBle1:w.heap.size+2<B1:=by rw [HQ1.out];exact bo1.1
 have n1:=n1.mono (show w.heap.size+3≤B1 by omega)
 clear hC1 HC1 bb1 br1 bo1 hb1
 have q0:=bb.2.1 0 _ rfl
 have o0:=bo.2.1 0 _ rfl
 have s0:=br.2.1 0 _ rfl
 have q1:=bb.2.1 1 _ rfl
 have o1:=bo.2.1 1 _ rfl
 have s1:=br.2.1 1 _ rfl
 have q2:=bb.2.1 2 _ rfl
 have o2:=bo.2.1 2 _ rfl
 have s2:=br.2.1 2 _ rfl
 have q3:=bb.2.1 3 _ rfl
 have o3:=bo.2.1 3 _ rfl
 have s3:=br.2.1 3 _ rfl
 have q4:=bb.2.1 4 _ rfl
 have o4:=bo.2.1 4 _ rfl
 have s4:=br.2.1 4 _ rfl
 have fo:=bo.2.2
 have fr:=br.2.2
 have HB:=Hm hb
 have HN1:=Hm n1
 clear hb bb br bo n1
 go_wp2
 exact bodyPost_ret (v:=.agg #[.int .i64 x.op,.int .i64 x.a,.int .i64 x.b,.int .u64 x.v,.slice (some ⟨B1,0,none⟩) x.l.length x.l.length]) (by simp [results,Tryz.results215,go_sem,s0,s1,s2,s3,s4,e3,e4]) rfl ⟨B1,rfl,((HN1.out.up (up_sets1 (by omega))).up (up_set1_5 (by omega))).mono (by omega),((((((HB.out.setCell (by show w.heap.size≤w.heap.size+2;omega) _).setCell (by show w.heap.size≤w.heap.size+1;omega) _).setCell (by show w.heap.size≤w.heap.size+1;omega) _).setCell (by show w.heap.size≤w.heap.size+1;omega) _).setCell (by show w.heap.size≤w.heap.size+1;omega) _).setCell (by show w.heap.size≤w.heap.size+1;omega) _)⟩
end Go.Proofs.YtdbmolambolmgaaGreat.NF
