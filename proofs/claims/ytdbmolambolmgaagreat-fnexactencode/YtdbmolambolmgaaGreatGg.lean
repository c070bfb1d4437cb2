import Derived.Test.YtdbmolambolmgaaGreatGe
import Derived.Deep.OwnRows
import Derived.Laws.MakeOwn
import Derived.Laws.OwnMore
import Derived.Lib.QuietBelow
set_option linter.all false
set_option maxHeartbeats 16000000
set_option maxRecDepth 100000
namespace Go.Proofs.YtdbmolambolmgaaGreat
open Go.RowKit
structure In where
 op:Int
 a:Int
 b:Int
 v:Int
 l:List Int
abbrev inV (x:In) (la:Option Addr) (lc:Nat):Value:=.agg #[.int .i64 x.op,.int .i64 x.a,.int .i64 x.b,.int .u64 x.v,.slice la x.l.length lc]
def InAt (w:World) (b o:Nat) (x:In):Prop:=∃ la lc,w.cell? ⟨b,o,none⟩=some (.int .i64 x.op)∧w.cell? ⟨b,o+1,none⟩=some (.int .i64 x.a)∧w.cell? ⟨b,o+2,none⟩=some (.int .i64 x.b)∧w.cell? ⟨b,o+3,none⟩=some (.int .u64 x.v)∧w.cell? ⟨b,o+4,none⟩=some (.slice la x.l.length lc)∧Has w la x.l
def I0:In:=⟨0,0,0,0,[]⟩
def Lst (w:World) (a:Option Addr) (xs:List In):Prop:=xs=[]∨∃ b off,a=some ⟨b,off,none⟩∧∀ i,i<xs.length→InAt w b (off+i*5) (xs.getD i I0)
theorem InAt.keep {w w1:World} {b o:Nat} {x:In} (h:InAt w b o x) (hb:Below w.heap.size w w1):InAt w1 b o x:=by
 obtain ⟨la,lc,h0,h1,h2,h3,h4,h5⟩:=h
 have hl:=World.block_lt_of_cell? w _ h0
 refine ⟨la,lc,(hb.cell (p:=⟨b,o,none⟩) hl).trans h0,(hb.cell (p:=⟨b,o+1,none⟩) hl).trans h1,(hb.cell (p:=⟨b,o+2,none⟩) hl).trans h2,(hb.cell (p:=⟨b,o+3,none⟩) hl).trans h3,(hb.cell (p:=⟨b,o+4,none⟩) hl).trans h4,?_⟩
 rcases h5 with h | ⟨b',o',e,hc⟩
 · exact .inl h
 · exact .inr ⟨b',o',e,fun i hi=>(hb.cell (World.block_lt_of_cell? w _ (hc i hi))).trans (hc i hi)⟩
theorem Lst.keep {w w1:World} {a:Option Addr} {xs:List In} (h:Lst w a xs) (hb:Below w.heap.size w w1):Lst w1 a xs:=by
 rcases h with h | ⟨b,o,e,hc⟩
 · exact .inl h
 · exact .inr ⟨b,o,e,fun i hi=>(hc i hi).keep hb⟩
open Go.RowKit
theorem copy_step (k:Nat) (xs:List Int) (h:k<xs.length):(I (xs.take k++(List.replicate xs.length 0).drop k)).set k (.int .i64 (xs.getD k 0))=I (xs.take (k+1)++(List.replicate xs.length 0).drop (k+1)):=by
 have hd:(List.replicate xs.length (0:Int)).drop k=0::(List.replicate xs.length (0:Int)).drop (k+1):=by
  rw [List.drop_eq_getElem_cons (by simpa using h)];simp
 have ht:xs.take (k+1)=xs.take k++[xs.getD k 0]:=by
  rw [List.take_succ_eq_append_getElem h];simp [List.getD,h]
 rw [hd,ht]
 simp only [I,List.map_append,List.map_cons,List.append_assoc,List.cons_append,List.nil_append,List.map_nil]
 rw [List.set_append_right _ _ (by simp;omega)]
 simp [Nat.min_eq_left (Nat.le_of_lt h)]
theorem toI_c (a:Option Addr) (c:Nat) (xs:List Int) (w:World) (hn:xs.length≤1048576) (hH:Has w a xs) :
    Calls Tryz.prog 39 #[.slice a xs.length c] w fun e w'=>e=.returned (.slice (some ⟨w.heap.size,0,none⟩) xs.length xs.length)∧w'.ownsRow w.heap.size 2 1 (.slice (some ⟨w.heap.size,0,none⟩) xs.length xs.length) xs.length (I xs)∧Below w.heap.size w w':=by
 have hmk:=run_make_row' (P:=Tryz.prog) 24 2 (.int .i64 0) 8 Tryz.underlying24 Tryz.info2 rfl .i64 .i64 xs.length (by omega) (by omega)
 have HH:=Hm hH
 clear hH
 have hst:(w.alloc (.cells (madeCells #[.int .i64 0] xs.length) 2)).ownsRow w.heap.size 2 1 (.slice (some ⟨w.heap.size,0,none⟩) xs.length xs.length) xs.length (I (xs.take 0++(List.replicate xs.length 0).drop 0)):=by
  have:=World.ownsRow_lit (base:=w.heap.size) (e:=2) (size:=1) w (madeCells #[.int .i64 0] xs.length) xs.length (Nat.le_refl _) (by unfold maxLen;omega) (by simp [madeCells])
  have e:(madeCells #[.int .i64 0] xs.length).toList=I (xs.take 0++(List.replicate xs.length 0).drop 0):=by
   apply List.ext_getElem?
   intro i
   by_cases hi:i<xs.length
   · simp [madeCells,hi,Nat.mod_one]
   · simp [madeCells,hi]
  rw [e] at this
  exact this
 have HS:=Hm hst
 clear hst
 go_enter Tryz.func39,Tryz.ntmps39
 go_wp2
 go_loopw [4] (fun i wr=>∃ k:Nat,k≤xs.length∧i=.int .i64 k∧wr.ownsRow w.heap.size 2 1 (.slice (some ⟨w.heap.size,0,none⟩) xs.length xs.length) xs.length (I (xs.take k++(List.replicate xs.length 0).drop k))∧Below w.heap.size w wr) (fun i _=>xs.length-(intOf i).toNat)
 case atStart=>exact ⟨0,Nat.zero_le _,rfl,HS.out,(Below.refl _ _).alloc (Nat.le_refl _) _⟩
 case round =>
  obtain ⟨k,hk,rfl,ho,hb⟩:=hrel
  clear HS hmk
  by_cases hlt:k<xs.length
  · have hki:(k:Int)<(xs.length:Int):=by omega
    rcases HH.out with hx | ⟨b,o,ea,hc⟩
    · subst hx;simp at hlt
    have d:wr.cell? ⟨b,o+k,none⟩=some (.int .i64 (xs.getD k 0)):=(hb.cell (p:=⟨b,o+k,none⟩) (World.block_lt_of_cell? w _ (hc k hlt))).trans (hc k hlt)
    subst ea
    have hcell:∃ u,wr.cell? ⟨w.heap.size,k,none⟩=some u:=by
     rw [ho.cellAt k (by omega)]
     exact ⟨_,List.getElem?_eq_getElem (by simp;omega)⟩
    obtain ⟨u,hu⟩:=hcell
    have hfz:=ho.frozenAt k
    obtain ⟨x,hx⟩:∃ x,x=xs.getD k 0:=⟨_,rfl⟩
    obtain ⟨s1,s2⟩:=ho.stored k (.int .i64 x)
    rw [hx,copy_step k xs hlt,← hx] at s1
    rw [← hx] at d
    have R:=And.intro s1 (hb.setCell (p:=⟨w.heap.size,k,none⟩) (Nat.le_refl _) (.int .i64 x))
    clear s1 s2 ho hb hc hx HH
    go_wp2
    go_roundw
    case rel=>exact ⟨k+1,by omega,by go_num,R.1,R.2⟩
    case measure=>simp [intOf];omega
  · have e:k=xs.length:=by omega
    subst e
    rw [List.take_length,List.drop_of_length_le (by simp),List.append_nil] at ho
    go_wp2
    go_ret
    exact ⟨rfl,ho,hb⟩
open Go.RowKit
theorem Has.keep {w w1:World} {a:Option Addr} {xs:List Int} (h:Has w a xs) (hb:Below w.heap.size w w1):Has w1 a xs:=by
 rcases h with h | ⟨b',o',e,hc⟩
 · exact .inl h
 · exact .inr ⟨b',o',e,fun i hi=>(hb.cell (World.block_lt_of_cell? w _ (hc i hi))).trans (hc i hi)⟩
def C5 (w:World) (g o:Nat) (a b c d e:Value):Prop :=
 (w.cell? ⟨g,o,none⟩=some a∧w.cell? ⟨g,o+1,none⟩=some b∧w.cell? ⟨g,o+2,none⟩=some c∧w.cell? ⟨g,o+3,none⟩=some d∧w.cell? ⟨g,o+4,none⟩=some e)∧∀ i,w.frozen? ⟨g,i,none⟩=false
theorem C5.keep {w w1:World} {g o:Nat} {a b c d e:Value} (h:C5 w g o a b c d e) (hb:Below w.heap.size w w1):C5 w1 g o a b c d e:=by
 obtain ⟨⟨h0,h1,h2,h3,h4⟩,f⟩:=h
 have hl:=World.block_lt_of_cell? w _ h0
 exact ⟨⟨(hb.cell (p:=⟨g,o,none⟩) hl).trans h0,(hb.cell (p:=⟨g,o+1,none⟩) hl).trans h1,(hb.cell (p:=⟨g,o+2,none⟩) hl).trans h2,(hb.cell (p:=⟨g,o+3,none⟩) hl).trans h3,(hb.cell (p:=⟨g,o+4,none⟩) hl).trans h4⟩,fun i=>(hb.frozen (p:=⟨g,i,none⟩) hl).trans (f i)⟩
theorem C5.new {w:World} {a b c d e:Value} {t:TypeId}:C5 (w.alloc (.cells #[a,b,c,d,e] t)) w.heap.size 0 a b c d e :=
 ⟨⟨cell_new rfl rfl,cell_new rfl rfl,cell_new rfl rfl,cell_new rfl rfl,cell_new rfl rfl⟩,fun i=>World.frozen?_alloc_new w _ t i⟩
theorem C5.past {w:World} {o:Obj} {g q:Nat} {a b c d e:Value} (h:C5 w g q a b c d e):C5 (w.alloc o) g q a b c d e:=h.keep ((Below.refl _ _).alloc (Nat.le_refl _) _)
theorem set_same {w:World} {p:Addr} {u v:Value} (h:w.cell? p=some u):(w.setCell p v).cell? p=some v:=World.cell?_setCell_same _ _ _ h
theorem set_off {w:World} {g i j:Nat} {u v:Value} (h:w.cell? ⟨g,j,none⟩=some u) (hn:i≠j):(w.setCell ⟨g,i,none⟩ v).cell? ⟨g,j,none⟩=some u:=by
 rw [World.cell?_setCell_other _ _ _ _ (fun hj=>hn (congrArg Addr.off hj))];exact h
open Go.RowKit Go.Sort
open Go.RowKit Go.Sort
def u32B (x:Int):Bool:=decide (0≤x∧x≤4294967295)
def tyB (x:Int):Bool:=decide (124≤x∧x≤127)
theorem u32_c (x:Int) (w:World):Calls Tryz.prog 31 #[.int .i64 x] w fun e w'=>e=.returned (.bool (u32B x))∧w=w':=by
 have H:=Hm (l1In_c x 0 4294967295)
 go_enter Tryz.func31,Tryz.ntmps31
 go_wp2_with fail
 refine (H.out _).mono ?_
 rintro e w1 ⟨rfl,rfl⟩
 generalize hb:decide (0≤x∧x≤4294967295)=bb
 go_wp2
 go_ret
 exact ⟨by rw [← hb];rfl,rfl⟩
theorem ty_c (x:Int) (w:World):Calls Tryz.prog 111 #[.int .i64 x] w fun e w'=>e=.returned (.bool (tyB x))∧w=w':=by
 have H:=Hm (l1In_c x 124 127)
 go_enter Tryz.func111,Tryz.ntmps111
 go_wp2_with fail
 refine (H.out _).mono ?_
 rintro e w1 ⟨rfl,rfl⟩
 generalize hb:decide (124≤x∧x≤127)=bb
 go_wp2
 go_ret
 exact ⟨by rw [← hb];rfl,rfl⟩
theorem iu32_c (x:Int) (w:World):Calls Tryz.prog 52 #[.int .i64 x] w fun e w'=>e=.returned (.bool (u32B x))∧w=w':=by
 go_enter Tryz.func52,Tryz.ntmps52
 go_wp2
 all_goals
  go_ret
  refine ⟨?_,rfl⟩
  simp [u32B, *]
  try omega
theorem ity_c (x:Int) (w:World):Calls Tryz.prog 124 #[.int .i64 x] w fun e w'=>e=.returned (.bool (tyB x))∧w=w':=by
 go_enter Tryz.func124,Tryz.ntmps124
 go_wp2
 all_goals
  go_ret
  refine ⟨?_,rfl⟩
  simp [tyB, *]
  try omega
theorem u32B_zero:u32B 0=true:=rfl
theorem len0 (l:List Int):((l.length:Int)==0)=l.isEmpty:=by
 cases l with
 | nil=>rfl
 | cons a t=>simp;omega
def goodF (f:Int) (x:In):Bool :=
 if f=0∨f=6 then decide (x.a=0)&&decide (x.b=0)&&decide (x.v=0)&&x.l.isEmpty
 else if f=1 then (decide (x.a=64) || tyB x.a)&&decide (x.b=0)&&decide (x.v=0)&&x.l.isEmpty
 else if f=2∨f=4 then u32B x.a&&decide (x.b=0)&&decide (x.v=0)&&x.l.isEmpty
 else if f=3 then x.l.all u32B&&u32B x.a&&decide (x.b=0)&&decide (x.v=0)
 else if f=5 then u32B x.a&&u32B x.b&&decide (x.v=0)&&x.l.isEmpty
 else if f=7∨f=9 then decide (x.a=0)&&decide (x.b=0)&&decide (x.v<4294967296)&&x.l.isEmpty
 else if f=8∨f=10 then decide (x.a=0)&&decide (x.b=0)&&x.l.isEmpty
 else false
open Go.RowKit Go.Sort
theorem all_t (l:List Int) (h:∀ i,i<l.length→u32B (l.getD i 0)=true):l.all u32B=true:=by
 rw [List.all_eq_true]
 intro x hx
 obtain ⟨i,hi,rfl⟩:=List.getElem_of_mem hx
 have:=h i hi
 simpa [List.getD,List.getElem?_eq_getElem hi] using this
theorem all_f (l:List Int) (i:Nat) (hi:i<l.length) (h:u32B (l.getD i 0)=false):l.all u32B=false:=by
 rw [List.all_eq_false]
 refine ⟨l[i],List.getElem_mem hi,?_⟩
 have:l.getD i 0=l[i]:=by simp [List.getD,List.getElem?_eq_getElem hi]
 rw [this] at h
 simp [h]
theorem sgood_3a (op a b v:Int) (l:List Int) (la:Option Addr) (lc:Nat) (w:World) (hf:formR (rowOf op)=3) (hv:0≤v) (hln:l.length≤1099511627776) (hH:Has w la l) (hb:¬ b=0):Calls Tryz.prog 112 #[inV ⟨op,a,b,v,l⟩ la lc] w fun e w'=>e=.returned (.bool (goodF 3 ⟨op,a,b,v,l⟩))∧Below w.heap.size w w':=by
 have hb1:(b==0)=false:=by simpa using hb
 have HF:=Hm (sform_c op)
 rw [hf] at HF
 clear hf
 have hlz:=len0 l
 have HA:=Hm (u32_c a)
 have HH:=Hm (fun o=>hH.keep ((Below.refl w.heap.size w).alloc (Nat.le_refl _) o))
 clear hH
 generalize ht:u32B a=ta at *
 go_enter Tryz.func112,Tryz.ntmps112
 go_wp2_with fail
 refine (HF.out _).mono ?_
 rintro e w1 ⟨rfl,rfl⟩
 go_wp2_with fail
 go_loop [6] (fun i=>∃ k:Nat,k≤l.length∧i=.int .i64 k∧∀ j,j<k→u32B (l.getD j 0)=true) (fun i=>l.length-(intOf i).toNat)
 case atStart=>exact ⟨0,Nat.zero_le _,rfl,fun j h=>by omega⟩
 case round =>
  obtain ⟨k,hk,rfl,hall⟩:=hrel
  by_cases hlt:k<l.length
  · have hki:(k:Int)<(l.length:Int):=by omega
    rcases HH.out (.cells #[.int .i64 op,.int .i64 a,.int .i64 b,.int .u64 v,.slice la l.length lc] 188) with hx | ⟨b1,o1,ea,hc⟩
    · subst hx;simp at hlt
    have d:=hc k hlt
    subst ea
    have HK:=Hm (u32_c (l.getD k 0))
    generalize hy:l.getD k 0=y at *
    generalize hz:u32B y=z at *
    cases z
    · have hfin:l.all u32B=false:=all_f l k hlt (by rw [hy];exact hz)
      have HFIN:=Hm hfin
      clear hfin hall hc hy hz HH
      go_wp2_with (refine (HK.out _).mono ?_;rintro e w1 ⟨rfl,rfl⟩)
      go_ret
      exact ⟨by simp [goodF,HFIN.out],(Below.refl _ _).alloc (Nat.le_refl _) _⟩
    · have HA2:Hid (∀ j,j<k+1→u32B (l.getD j 0)=true):=fun j hj=>by
        rcases (by omega:j<k∨j=k) with h | h
        · exact hall j h
        · subst h;rw [hy];exact hz
      clear hall hc hy hz HH
      go_wp2_with (refine (HK.out _).mono ?_;rintro e w1 ⟨rfl,rfl⟩)
      go_round
      case rel=>exact ⟨k+1,by omega,by go_num,HA2.out⟩
      case measure=>simp [intOf];omega
  · have e:k=l.length:=by omega
    subst e
    have HFIN:=Hm (all_t l hall)
    clear hall HH
    go_wp2_with (refine (HA.out _).mono ?_;rintro e w1 ⟨rfl,rfl⟩)
    all_goals
     go_ret
     refine ⟨?_,(Below.refl _ _).alloc (Nat.le_refl _) _⟩
     simp [goodF,HFIN.out,ht]
     try simp_all
theorem sgood_3b (op a b v:Int) (l:List Int) (la:Option Addr) (lc:Nat) (w:World) (hf:formR (rowOf op)=3) (hv:0≤v) (hln:l.length≤1099511627776) (hH:Has w la l) (hb:b=0) (hv0:¬ v=0):Calls Tryz.prog 112 #[inV ⟨op,a,b,v,l⟩ la lc] w fun e w'=>e=.returned (.bool (goodF 3 ⟨op,a,b,v,l⟩))∧Below w.heap.size w w':=by
 subst hb
 have hb1:(v==0)=false:=by simpa using hv0
 have HF:=Hm (sform_c op)
 rw [hf] at HF
 clear hf
 have hlz:=len0 l
 have HA:=Hm (u32_c a)
 have HH:=Hm (fun o=>hH.keep ((Below.refl w.heap.size w).alloc (Nat.le_refl _) o))
 clear hH
 generalize ht:u32B a=ta at *
 go_enter Tryz.func112,Tryz.ntmps112
 go_wp2_with fail
 refine (HF.out _).mono ?_
 rintro e w1 ⟨rfl,rfl⟩
 go_wp2_with fail
 go_loop [6] (fun i=>∃ k:Nat,k≤l.length∧i=.int .i64 k∧∀ j,j<k→u32B (l.getD j 0)=true) (fun i=>l.length-(intOf i).toNat)
 case atStart=>exact ⟨0,Nat.zero_le _,rfl,fun j h=>by omega⟩
 case round =>
  obtain ⟨k,hk,rfl,hall⟩:=hrel
  by_cases hlt:k<l.length
  · have hki:(k:Int)<(l.length:Int):=by omega
    rcases HH.out (.cells #[.int .i64 op,.int .i64 a,.int .i64 0,.int .u64 v,.slice la l.length lc] 188) with hx | ⟨b1,o1,ea,hc⟩
    · subst hx;simp at hlt
    have d:=hc k hlt
    subst ea
    have HK:=Hm (u32_c (l.getD k 0))
    generalize hy:l.getD k 0=y at *
    generalize hz:u32B y=z at *
    cases z
    · have hfin:l.all u32B=false:=all_f l k hlt (by rw [hy];exact hz)
      have HFIN:=Hm hfin
      clear hfin hall hc hy hz HH
      go_wp2_with (refine (HK.out _).mono ?_;rintro e w1 ⟨rfl,rfl⟩)
      go_ret
      exact ⟨by simp [goodF,HFIN.out],(Below.refl _ _).alloc (Nat.le_refl _) _⟩
    · have HA2:Hid (∀ j,j<k+1→u32B (l.getD j 0)=true):=fun j hj=>by
        rcases (by omega:j<k∨j=k) with h | h
        · exact hall j h
        · subst h;rw [hy];exact hz
      clear hall hc hy hz HH
      go_wp2_with (refine (HK.out _).mono ?_;rintro e w1 ⟨rfl,rfl⟩)
      go_round
      case rel=>exact ⟨k+1,by omega,by go_num,HA2.out⟩
      case measure=>simp [intOf];omega
  · have e:k=l.length:=by omega
    subst e
    have HFIN:=Hm (all_t l hall)
    clear hall HH
    go_wp2_with (refine (HA.out _).mono ?_;rintro e w1 ⟨rfl,rfl⟩)
    all_goals
     go_ret
     refine ⟨?_,(Below.refl _ _).alloc (Nat.le_refl _) _⟩
     simp [goodF,HFIN.out,ht]
     try simp_all
theorem sgood_3c (op a b v:Int) (l:List Int) (la:Option Addr) (lc:Nat) (w:World) (hf:formR (rowOf op)=3) (hv:0≤v) (hln:l.length≤1099511627776) (hH:Has w la l) (hb:b=0) (hv0:v=0):Calls Tryz.prog 112 #[inV ⟨op,a,b,v,l⟩ la lc] w fun e w'=>e=.returned (.bool (goodF 3 ⟨op,a,b,v,l⟩))∧Below w.heap.size w w':=by
 subst hb hv0
 have HF:=Hm (sform_c op)
 rw [hf] at HF
 clear hf
 have hlz:=len0 l
 have HA:=Hm (u32_c a)
 have HH:=Hm (fun o=>hH.keep ((Below.refl w.heap.size w).alloc (Nat.le_refl _) o))
 clear hH
 generalize ht:u32B a=ta at *
 go_enter Tryz.func112,Tryz.ntmps112
 go_wp2_with fail
 refine (HF.out _).mono ?_
 rintro e w1 ⟨rfl,rfl⟩
 go_wp2_with fail
 go_loop [6] (fun i=>∃ k:Nat,k≤l.length∧i=.int .i64 k∧∀ j,j<k→u32B (l.getD j 0)=true) (fun i=>l.length-(intOf i).toNat)
 case atStart=>exact ⟨0,Nat.zero_le _,rfl,fun j h=>by omega⟩
 case round =>
  obtain ⟨k,hk,rfl,hall⟩:=hrel
  by_cases hlt:k<l.length
  · have hki:(k:Int)<(l.length:Int):=by omega
    rcases HH.out (.cells #[.int .i64 op,.int .i64 a,.int .i64 0,.int .u64 0,.slice la l.length lc] 188) with hx | ⟨b1,o1,ea,hc⟩
    · subst hx;simp at hlt
    have d:=hc k hlt
    subst ea
    have HK:=Hm (u32_c (l.getD k 0))
    generalize hy:l.getD k 0=y at *
    generalize hz:u32B y=z at *
    cases z
    · have hfin:l.all u32B=false:=all_f l k hlt (by rw [hy];exact hz)
      have HFIN:=Hm hfin
      clear hfin hall hc hy hz HH
      go_wp2_with (refine (HK.out _).mono ?_;rintro e w1 ⟨rfl,rfl⟩)
      go_ret
      exact ⟨by simp [goodF,HFIN.out],(Below.refl _ _).alloc (Nat.le_refl _) _⟩
    · have HA2:Hid (∀ j,j<k+1→u32B (l.getD j 0)=true):=fun j hj=>by
        rcases (by omega:j<k∨j=k) with h | h
        · exact hall j h
        · subst h;rw [hy];exact hz
      clear hall hc hy hz HH
      go_wp2_with (refine (HK.out _).mono ?_;rintro e w1 ⟨rfl,rfl⟩)
      go_round
      case rel=>exact ⟨k+1,by omega,by go_num,HA2.out⟩
      case measure=>simp [intOf];omega
  · have e:k=l.length:=by omega
    subst e
    have HFIN:=Hm (all_t l hall)
    clear hall HH
    go_wp2_with (refine (HA.out _).mono ?_;rintro e w1 ⟨rfl,rfl⟩)
    all_goals
     go_ret
     refine ⟨?_,(Below.refl _ _).alloc (Nat.le_refl _) _⟩
     simp [goodF,HFIN.out,ht]
     try simp_all
theorem sgood_3 (x:In) (la:Option Addr) (lc:Nat) (w:World) (hf:formR (rowOf x.op)=3) (hv:0≤x.v) (hln:x.l.length≤1099511627776) (hH:Has w la x.l):Calls Tryz.prog 112 #[inV x la lc] w fun e w'=>e=.returned (.bool (goodF 3 x))∧Below w.heap.size w w':=by
 obtain ⟨op,a,b,v,l⟩:=x
 by_cases hb:b=0
 · by_cases h0:v=0
   · exact sgood_3c op a b v l la lc w hf hv hln hH hb h0
   · exact sgood_3b op a b v l la lc w hf hv hln hH hb h0
 · exact sgood_3a op a b v l la lc w hf hv hln hH hb
open Go.RowKit Go.Sort
theorem allAre_c (a:Option Addr) (c:Nat) (l:List Int) (w:World) (hn:l.length≤1099511627776) (hH:Has w a l):Calls Tryz.prog 51 #[.slice a l.length c,.func (.func 52) #[] #[]] w fun e w'=>e=.returned (.bool (l.all u32B))∧w=w':=by
 have HH:=Hm hH
 clear hH
 go_enter Tryz.func51,Tryz.ntmps51
 go_wp2_with fail
 go_loop [9] (fun i=>∃ k:Nat,k≤l.length∧i=.int .i64 k∧∀ j,j<k→u32B (l.getD j 0)=true) (fun i=>l.length-(intOf i).toNat)
 case atStart=>exact ⟨0,Nat.zero_le _,rfl,fun j h=>by omega⟩
 case round =>
  obtain ⟨k,hk,rfl,hall⟩:=hrel
  by_cases hlt:k<l.length
  · have hki:(k:Int)<(l.length:Int):=by omega
    rcases HH.out with hx | ⟨b1,o1,ea,hc⟩
    · subst hx;simp at hlt
    have d:=hc k hlt
    subst ea
    have HK:=Hm (iu32_c (l.getD k 0))
    generalize hy:l.getD k 0=y at *
    generalize hz:u32B y=z at *
    cases z
    · have HFIN:=Hm (all_f l k hlt (by rw [hy];exact hz))
      clear hall hc hy hz HH
      go_wp2_with (refine (HK.out _).mono ?_;rintro e w1 ⟨rfl,rfl⟩)
      go_ret
      exact ⟨by rw [HFIN.out];rfl,rfl⟩
    · have HA2:Hid (∀ j,j<k+1→u32B (l.getD j 0)=true):=fun j hj=>by
        rcases (by omega:j<k∨j=k) with h | h
        · exact hall j h
        · subst h;rw [hy];exact hz
      clear hall hc hy hz HH
      go_wp2_with (refine (HK.out _).mono ?_;rintro e w1 ⟨rfl,rfl⟩)
      go_round
      case rel=>exact ⟨k+1,by omega,by go_num,HA2.out⟩
      case measure=>simp [intOf];omega
  · have e:k=l.length:=by omega
    subst e
    have HFIN:=Hm (all_t l hall)
    clear hall HH
    go_wp2
    go_ret
    exact ⟨by rw [HFIN.out];rfl,rfl⟩
theorem ibt_c (x:Int) (w:World):Calls Tryz.prog 219 #[.int .i64 x] w fun e w'=>e=.returned (.bool (decide (x=64) || tyB x))∧w=w':=by
 have H:=Hm (ity_c x)
 by_cases h:x=64
 · subst h
   go_enter Tryz.func219,Tryz.ntmps219
   go_wp2
   go_ret
   exact ⟨rfl,rfl⟩
 · have f:(x==(64:Int))=false:=by simpa using h
   have HH:=Hm h
   clear h
   go_enter Tryz.func219,Tryz.ntmps219
   go_wp2_with (refine (H.out _).mono ?_;rintro e w1 ⟨rfl,rfl⟩)
   go_ret
   exact ⟨by simp [HH.out],rfl⟩
theorem boxes {w w1:World} {c0 c1 c2 c3 c4:Value} (h:Below (((w.alloc (.cells #[c0,c1,c2,c3,c4] 188)).alloc (.cells #[c0,c1,c2,c3,c4] 188)).drew).heap.size (((w.alloc (.cells #[c0,c1,c2,c3,c4] 188)).alloc (.cells #[c0,c1,c2,c3,c4] 188)).drew) w1) :
    C5 w1 w.heap.size 0 c0 c1 c2 c3 c4∧C5 w1 (w.heap.size+1) 0 c0 c1 c2 c3 c4∧Below w.heap.size w w1:=by
 have h':Below ((w.alloc (.cells #[c0,c1,c2,c3,c4] 188)).alloc (.cells #[c0,c1,c2,c3,c4] 188)).heap.size ((w.alloc (.cells #[c0,c1,c2,c3,c4] 188)).alloc (.cells #[c0,c1,c2,c3,c4] 188)) w1:=⟨h.os,h.tape,h.output,h.size,h.block⟩
 refine ⟨(C5.new.past).keep h',?_,up2 h'⟩
 have:=(C5.new (w:=w.alloc (.cells #[c0,c1,c2,c3,c4] 188)) (a:=c0) (b:=c1) (c:=c2) (d:=c3) (e:=c4) (t:=188)).keep h'
 simpa using this
theorem bset {w w1:World} {o:Nat} {v:Value} (h:Below w.heap.size w w1):Below w.heap.size w (w1.setCell ⟨w.heap.size+1,o,none⟩ v):=h.setCell (by show w.heap.size≤w.heap.size+1;omega) _
end Go.Proofs.YtdbmolambolmgaaGreat
