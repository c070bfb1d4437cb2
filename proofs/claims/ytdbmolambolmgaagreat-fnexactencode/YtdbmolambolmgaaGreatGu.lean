import Derived.Test.YtdbmolambolmgaaGreatGt
import Derived.Laws.AppendOwn
import Derived.Laws.OwnMore
import Derived.OwnWalk
import Derived.Deep.RegionLaw
set_option linter.all false
set_option maxHeartbeats 16000000
set_option maxRecDepth 100000
namespace Go.Proofs.YtdbmolambolmgaaGreat
open Go.RowKit Go.Sort
set_option maxRecDepth 100000
theorem sall_c (a:Option Addr) (c:Nat) (l:List Int) (w:World) (hn:l.length≤1099511627776) (hH:Has w a l):Calls Tryz.prog 30 #[.slice a l.length c] w fun e w'=>e=.returned (.bool (l.all u32B))∧w=w':=by
 have HH:=Hm hH
 clear hH
 go_enter Tryz.func30,Tryz.ntmps30
 go_wp2_with fail
 go_loop [3] (fun i=>∃ k:Nat,k≤l.length∧i=.int .i64 k∧∀ j,j<k→u32B (l.getD j 0)=true) (fun i=>l.length-(intOf i).toNat)
 case atStart=>exact ⟨0,Nat.zero_le _,rfl,fun j h=>by omega⟩
 case round =>
  obtain ⟨k,hk,rfl,hall⟩:=hrel
  by_cases hlt:k<l.length
  · have hki:(k:Int)<(l.length:Int):=by omega
    rcases HH.out with hx | ⟨b1,o1,ea,hc⟩
    · subst hx;simp at hlt
    have d:=hc k hlt
    subst ea
    have HK:=Hm (u32_c (l.getD k 0))
    generalize hy:l.getD k 0=y at *
    generalize hz:u32B y=z at *
    cases z
    · have HFIN:=Hm (alls_f u32B l 0 k hlt (by rw [hy];exact hz))
      clear hall hc hy hz HH
      go_wp2_with (refine (HK.out _).mono ?_;rintro e w1 ⟨rfl,rfl⟩)
      go_ret
      exact ⟨by rw [HFIN.out];rfl,rfl⟩
    · have HA2:Hid (∀ j,j<k+1→u32B (l.getD j 0)=true):=fun j hj=>by
        rcases (by omega:j<k∨j=k) with h | h
        · exact hall j h
        · subst h;rw [hy];exact hz
      clear hall hc hy hz HH
      go_wp2_with (refine (HK.out _).mono ?_;rintro e w1 ⟨rfl,rfl⟩)
      go_round
      case rel=>exact ⟨k+1,by omega,by go_num,HA2.out⟩
      case measure=>simp [intOf];omega
  · have e:k=l.length:=by omega
    subst e
    have HFIN:=Hm (alls_t u32B l 0 hall)
    clear hall HH
    go_wp2
    go_ret
    exact ⟨by rw [HFIN.out];rfl,rfl⟩
theorem ssz_c (x:Mod) (a1:Option Addr) (c1:Nat) (a2:Option Addr) (c2:Nat) (a3:Option Addr) (c3:Nat) (a4:Option Addr) (c4:Nat) (a5:Option Addr) (c5:Nat) (a6:Option Addr) (c6:Nat) (a7:Option Addr) (c7:Nat) (a8:Option Addr) (c8:Nat) (a9:Option Addr) (c9:Nat) (a10:Option Addr) (c10:Nat) (a11:Option Addr) (c11:Nat) (w:World) (hl:x.Ln) (s:Int) (hs0:(if x.hasS then 1 else 0:Int)=s) :
    Calls Tryz.prog 34 #[.agg #[.slice a1 x.types.length c1,.slice a2 x.imps.length c2,.slice a3 x.funcs.length c3,.slice a4 x.tabs.length c4,.slice a5 x.mems.length c5,.slice a6 x.globs.length c6,.slice a7 x.exps.length c7,.bool x.hasS,.int .i64 x.start,.slice a8 x.elems.length c8,.slice a9 x.codes.length c9,.slice a10 x.datas.length c10,.slice a11 x.customs.length c11]] w fun e w'=>∃ g,e=.returned (.slice (some ⟨g,0,none⟩) 12 12)∧w.heap.size≤g∧Bk w' g [.int .i64 0,.int .i64 x.types.length,.int .i64 x.imps.length,.int .i64 x.funcs.length,.int .i64 x.tabs.length,.int .i64 x.mems.length,.int .i64 x.globs.length,.int .i64 x.exps.length,.int .i64 s,.int .i64 x.elems.length,.int .i64 x.codes.length,.int .i64 x.datas.length]∧Below w.heap.size w w':=by
 obtain ⟨l1,l2,l3,l4,l5,l6,l7,l8,l9,l10,l11⟩:=hl
 go_enter Tryz.func34,Tryz.ntmps34
 go_upto_region 1 with fail
 refine wp_gen (fun W=>Bk W w.heap.size [.slice a1 x.types.length c1,.slice a2 x.imps.length c2,.slice a3 x.funcs.length c3,.slice a4 x.tabs.length c4,.slice a5 x.mems.length c5,.slice a6 x.globs.length c6,.slice a7 x.exps.length c7,.bool x.hasS,.int .i64 x.start,.slice a8 x.elems.length c8,.slice a9 x.codes.length c9,.slice a10 x.datas.length c10,.slice a11 x.customs.length c11]∧Below w.heap.size w W) ⟨Bk.new,(Below.refl _ _).alloc (Nat.le_refl _) _⟩ ?_
 rintro W ⟨bb,hb⟩
 have q0:=bb.2.1 0 _ rfl
 have q1:=bb.2.1 1 _ rfl
 have q2:=bb.2.1 2 _ rfl
 have q3:=bb.2.1 3 _ rfl
 have q4:=bb.2.1 4 _ rfl
 have q5:=bb.2.1 5 _ rfl
 have q6:=bb.2.1 6 _ rfl
 have q7:=bb.2.1 7 _ rfl
 have q8:=bb.2.1 8 _ rfl
 have q9:=bb.2.1 9 _ rfl
 have q10:=bb.2.1 10 _ rfl
 have q11:=bb.2.1 11 _ rfl
 have q12:=bb.2.1 12 _ rfl
 have HS:=Hm hs0
 clear hs0
 generalize x.hasS=hs at *
 cases hs
 · have e:Hid (s=0):=by show s=_;have:=HS.out;simpa using this.symm
   clear HS
   go_wp2
   go_ret
   rw [e.out]
   exact ⟨W.heap.size,rfl,hb.size,Bk.new,hb.trans (((Below.refl _ W).alloc (Nat.le_refl _) _).mono hb.size)⟩
 · have e:Hid (s=1):=by show s=_;have:=HS.out;simpa using this.symm
   clear HS
   go_wp2
   go_ret
   rw [e.out]
   exact ⟨W.heap.size,rfl,hb.size,Bk.new,hb.trans (((Below.refl _ W).alloc (Nat.le_refl _) _).mono hb.size)⟩
open Go.RowKit Go.Sort
def SrcC (w:World) (a0:Option Addr) (cs:List Value):Prop:=(a0=none∧cs=[])∨∃ ad,a0=some ad∧∀ j u,cs[j]?=some u→w.cell? (ad.add j)=some u
theorem SrcC.on {W w1:World} {a0:Option Addr} {cs:List Value} (h:SrcC W a0 cs) (hb:Below W.heap.size W w1):SrcC w1 a0 cs:=by
 rcases h with h | ⟨ad,e,h⟩
 · exact .inl h
 · refine .inr ⟨ad,e,fun j u hu=>?_⟩
   have:=h j u hu
   rw [hb.cell (World.block_lt_of_cell? W _ this)]
   exact this
theorem run_append_none_any {P:Program} {w:World} (base:Nat) (t ty e:TypeId) (i:TypeInfo) (size:Nat) (ht:P.underlying t=some (.slice e)) (hi:P.info? e=some i)
    (v:Value) (n:Nat) (xs:List Value) (hown:w.ownsRow base e size v n xs) (c:Nat) :
    (Builtin.append_ #[t,t] ty #[v,.slice none 0 c]).run P w=.ok v w:=by
 rcases hown.2 with ⟨rfl,rfl⟩ | ⟨g,cap,cur,rfl,_,_,hnc,_⟩
 · simp [Builtin.append_,run_underlying ht,sizeOf,typeInfo,hi,Builtin.lenOf,Builtin.firstCells]
 · simp [Builtin.append_,run_underlying ht,sizeOf,typeInfo,hi,Builtin.lenOf,Builtin.firstCells,hnc,storeCells]
theorem step_append_own {P:Program} {w:World} {ops:Array Oper} {o:Oper} {a:Act} {K:Act→World→Prop} {Q:Exit→Act→World→Prop} {E:Prop} (hgd:o.guard=none) (s x:Operand) (t:TypeId)
    (ho:o.op=.call { callee:=.builtin .append,args:=#[s,x],argTypes:=#[t,t] })
    (base:Nat) (e:TypeId) (i:TypeInfo) (z:Value) (size bytes:Nat) (ht:P.underlying t=some (.slice e)) (hi:P.info? e=some i) (hz:i.zero=some z)
    (hsize:i.size=size) (hby:i.bytes=bytes) (hzs:z.cells.size=size) (hsz:0<size)
    (v:Value) (n:Nat) (xs:List Value) (hs:a.eval s=v) (hown:w.ownsRow base e size v n xs)
    (a0:Option Addr) (m c:Nat) (news:List Value) (hx:a.eval x=.slice a0 m c) (hl:news.length=m*size) (hnews:SrcC w a0 news) (h1:∀ u ∈ news,u.oneCell'=true)
    (h63:n+m≤maxLen) (hbytes:(n+m)*bytes≤140737488355328) (hbase:base≤w.heap.size)
    (h:∀ v' w',w'.ownsRow base e size v' (n+m) (xs++news)→w.grownBy w' v.ownBlock→K (a.put o.dst v') w') :
    if Region.wanted o (yielded ops a.tmps)=true then Oper.wp P o a w K Q else E:=by
 have hw:Region.wanted o (yielded ops a.tmps)=true:=by simp [Region.wanted,hgd]
 rw [if_pos hw]
 rcases hnews with ⟨rfl,rfl⟩ | ⟨ad,rfl,hn⟩
 · have hm:m=0:=by
     rcases Nat.mul_eq_zero.1 hl.symm with h | h
     · exact h
     · omega
   subst hm
   have hrun:=run_append_none_any (P:=P) (w:=w) base t o.type e i size ht hi v n xs hown c
   have:=h v w (by simpa using hown) (World.grownBy.refl _ _)
   unfold Oper.wp
   simp [execOp,ho,resolve,invoke,builtin,hs,hx,hrun,Result.andThen]
   exact this
 · exact wp_append_own w s x t ho base e i z size bytes ht hi hz hsize hby hzs hsz v n xs hs hown ad m c news hx hl hn h1 h63 hbytes hbase fun v' w' a b _=>h v' w' a b
theorem HI.src {B:Nat} {w:World} {a0:Option Addr} {xs:List Int} (h:HI .i64 B w a0 xs):SrcC w a0 (I xs):=by
 rcases h with h | ⟨b,o,rfl,_,hc⟩
 · subst h
   cases a0 with
   | none=>exact .inl ⟨rfl,rfl⟩
   | some ad=>exact .inr ⟨ad,rfl,fun j u hu=>by simp [I] at hu⟩
 · refine .inr ⟨_,rfl,fun j u hu=>?_⟩
   have hj:j<xs.length:=by
    rcases Nat.lt_or_ge j xs.length with h | h
    · exact h
    · simp [I,List.getElem?_eq_none h] at hu
   have hadd:(⟨b,o,none⟩:Addr).add j=⟨b,o+j,none⟩:=by unfold Addr.add;split <;> simp_all
   rw [hadd,hc j hj]
   simp [I,hj,List.getD] at hu⊢
   exact hu
theorem own_zero (W:World):((W.alloc (.cells #[] 2)).drew).ownsRow W.heap.size 2 1 (.slice (some ⟨W.heap.size,0,none⟩) 0 0) 0 []:=by
 refine ⟨rfl,.inr ⟨W.heap.size,0,#[],rfl,Nat.le_refl _,?_,Nat.le_refl _,by decide,rfl,rfl⟩⟩
 exact Array.getElem?_push_size
theorem one_I (xs:List Int):∀ u ∈ I xs,u.oneCell'=true:=by
 intro u hu
 simp only [I,List.mem_map] at hu
 obtain ⟨y,_,rfl⟩:=hu
 rfl
theorem own_ge {w:World} {base:Nat} {e:TypeId} {size:Nat} {v:Value} {n:Nat} {xs:List Value} (h:w.ownsRow base e size v n xs):∀ k,v.ownBlock=some k→base≤k:=by
 intro k hk
 rcases h.2 with ⟨rfl,_⟩ | ⟨g,cap,cur,rfl,hg,_⟩
 · simp [Value.ownBlock] at hk
 · simp [Value.ownBlock] at hk;omega
theorem own_two {w:World} {B:Nat} {v:Value} {ps rs:List Int} (h:w.ownsRow B 2 1 v (0+ps.length+rs.length) (([]++I ps)++I rs)):∃ a c,v=.slice a (ps++rs).length c∧Has w a (ps++rs):=by
 have e:([]++I ps)++I rs=I (ps++rs):=by simp [I]
 have e2:0+ps.length+rs.length=(ps++rs).length:=by simp
 rw [e,e2] at h
 exact own_shape h
theorem sft_c (x:FType) (a1:Option Addr) (c1:Nat) (a2:Option Addr) (c2:Nat) (w:World) (hI:FType.Is 0 w x a1 a2) (hl:FType.LB 1048576 x) :
    Calls Tryz.prog 108 #[.agg #[.slice a1 x.ps.length c1,.slice a2 x.rs.length c2]] w fun e w'=>e=.returned (.bool (ftB x))∧Below w.heap.size w w':=by
 obtain ⟨l0,l1⟩:=hl
 obtain ⟨r1,r2⟩:=hI
 have R1:=Hm r1
 have R2:=Hm r2
 clear r1 r2
 obtain ⟨i0,hi,hz0,hz1,hz2⟩:=info_parts Tryz.info2
 go_enter Tryz.func108,Tryz.ntmps108
 go_upto_region 1 with fail
 refine wp_gen (fun W=>Bk W w.heap.size [.slice a1 x.ps.length c1,.slice a2 x.rs.length c2]∧Below w.heap.size w W) ⟨Bk.new,(Below.refl _ _).alloc (Nat.le_refl _) _⟩ ?_
 rintro W ⟨bb,hb⟩
 have q0:=bb.2.1 0 _ rfl
 have q1:=bb.2.1 1 _ rfl
 have OWN:=Hm (own_zero W)
 have bd:Bk (W.alloc (.cells #[] 2)) w.heap.size [.slice a1 x.ps.length c1,.slice a2 x.rs.length c2]:=bb.past
 have s0:=bd.2.1 0 _ rfl
 have s1:=bd.2.1 1 _ rfl
 clear bd
 have b0:Below W.heap.size W ((W.alloc (.cells #[] 2)).drew):=((Below.refl _ W).alloc (Nat.le_refl _) _).drew
 have N1:=Hm ((R1.out.up (up_below hb)).src.on b0)
 have N2:=Hm ((R2.out.up (up_below hb)).src)
 have B0:=Hm b0
 have BB:=Hm bb
 have HB:=Hm hb
 clear b0 bb hb R1 R2
 go_cut [3] from 5 (fun s V=>∃ a c,s=.slice a (x.ps++x.rs).length c∧Has V a (x.ps++x.rs)∧Bk V w.heap.size [.slice a1 x.ps.length c1,.slice a2 x.rs.length c2]∧Below w.heap.size w V)
 case first =>
  go_region_law (first
   | (refine step_append_own rfl (.tmp 5) (.tmp 7) 24 rfl W.heap.size 2 i0 (.int .i64 0) 1 8 Tryz.underlying24 hi hz0 hz1 hz2 rfl (by decide) (.slice (some ⟨W.heap.size,0,none⟩) 0 0) 0 [] (by simp [Act.eval,Act.put]) OWN.out a1 x.ps.length c1 (I x.ps) (by simp [Act.eval,Act.put]) (by simp [I]) N1.out (one_I _) (by simp [maxLen];omega) (by omega) (by simp) ?_
      intro v1 w1 own1 gr1
      have b1:=Hm (B0.out.grown gr1 (by simp) (fun k hk=>by simp [Value.ownBlock] at hk;omega))
      have t1:w1.cell? ⟨w.heap.size,1,none⟩=some (.slice a2 x.rs.length c2):=(BB.out.keep b1.out).2.1 1 _ rfl
      have O1:=Hm own1
      clear own1 gr1)
   | (refine step_append_own rfl (.tmp 8) (.tmp 10) 24 rfl W.heap.size 2 i0 (.int .i64 0) 1 8 Tryz.underlying24 hi hz0 hz1 hz2 rfl (by decide) v1 (0+x.ps.length) ([]++I x.ps) (by simp [Act.eval,Act.put]) O1.out a2 x.rs.length c2 (I x.rs) (by simp [Act.eval,Act.put]) (by simp [I]) (N2.out.on b1.out) (one_I _) (by simp [maxLen];omega) (by omega) b1.out.size ?_
      intro v2 w2 own2 gr2
      have b2:=Hm (b1.out.grown gr2 b1.out.size (own_ge O1.out))
      have O2:=Hm own2
      clear own2 gr2))
  all_goals
   go_wp2_with fail
   go_meet
   obtain ⟨a,c,e,hh⟩:=own_two O2.out
   exact ⟨a,c,e,hh,BB.out.keep b2.out,HB.out.trans (b2.out.mono HB.out.size)⟩
 case rest =>
  obtain ⟨a,c,rfl,hh,bb,hb⟩:=hcut
  have hle:(x.ps++x.rs).length≤2097152:=by simp;omega
  have HE:Hid (ftB x=((x.ps++x.rs).all tyB&&decide (x.rs.length≤1))):=by show _=_;simp [ftB,List.all_append]
  clear OWN N1 N2 B0 BB HB s0 s1 q0 q1 hi hz0 hz1 hz2
  generalize x.ps++x.rs=l at *
  have q1:=bb.2.1 1 _ rfl
  have HB:=Hm hb
  have HH:=Hm hh
  clear bb hb hh
  go_wp2_with fail
  go_loop [4] (fun i=>∃ k:Nat,k≤l.length∧i=.int .i64 k∧∀ j,j<k→tyB (l.getD j 0)=true) (fun i=>l.length-(intOf i).toNat)
  case atStart=>exact ⟨0,Nat.zero_le _,rfl,fun j h=>by omega⟩
  case round =>
   obtain ⟨k,hk,rfl,hall⟩:=hrel
   by_cases hlt:k<l.length
   · have hki:(k:Int)<(l.length:Int):=by omega
     rcases HH.out with hx | ⟨b1,o1,ea,hc⟩
     · subst hx;simp at hlt
     have d:=hc k hlt
     subst ea
     have HK:=Hm (ty_c (l.getD k 0))
     generalize hy:l.getD k 0=y at *
     generalize hz:tyB y=z at *
     cases z
     · have HFIN:Hid (ftB x=false):=by show _=_;rw [HE.out,alls_f tyB l 0 k hlt (by rw [hy];exact hz)];rfl
       clear hall hc hy hz HH HE
       go_wp2_with (refine (HK.out _).mono ?_;rintro e w1 ⟨rfl,rfl⟩)
       go_ret
       exact ⟨by rw [HFIN.out];rfl,HB.out⟩
     · have HA2:Hid (∀ j,j<k+1→tyB (l.getD j 0)=true):=fun j hj=>by
         rcases (by omega:j<k∨j=k) with h | h
         · exact hall j h
         · subst h;rw [hy];exact hz
       clear hall hc hy hz HH
       go_wp2_with (refine (HK.out _).mono ?_;rintro e w1 ⟨rfl,rfl⟩)
       go_round
       case rel=>exact ⟨k+1,by omega,by go_num,HA2.out⟩
       case measure=>simp [intOf];omega
   · have e:k=l.length:=by omega
     subst e
     have HFIN:Hid (ftB x=decide (x.rs.length≤1)):=by show _=_;rw [HE.out,alls_t tyB l 0 hall,Bool.true_and]
     clear hall HH HE
     by_cases h1:x.rs.length≤1
     · have h1i:(x.rs.length:Int)≤1:=by omega
       have HF:Hid (ftB x=true):=by show _=_;rw [HFIN.out];simp [h1]
       clear HFIN h1
       go_wp2
       go_ret
       exact ⟨by rw [HF.out];simp [h1i],HB.out⟩
     · have h1i:¬ (x.rs.length:Int)≤1:=by omega
       have HF:Hid (ftB x=false):=by show _=_;rw [HFIN.out];simp [h1]
       clear HFIN h1
       go_wp2
       go_ret
       exact ⟨by rw [HF.out];simp [h1i],HB.out⟩
open Go.RowKit Go.Sort
def LCs:List Limits→List Value
 | []=>[]
 | l::ls=>.int .i64 l.min::.int .i64 l.max::.bool l.has::LCs ls
theorem LCs_len (xs:List Limits):(LCs xs).length=xs.length*3:=by
 induction xs with
 | nil=>rfl
 | cons l ls ih=>simp [LCs,ih];omega
theorem LCs_app (xs ys:List Limits):LCs (xs++ys)=LCs xs++LCs ys:=by
 induction xs with
 | nil=>rfl
 | cons l ls ih=>simp [LCs,ih]
theorem LCs_one (xs:List Limits):∀ u ∈ LCs xs,u.oneCell'=true:=by
 induction xs with
 | nil=>intro u hu;simp [LCs] at hu
 | cons l ls ih =>
  intro u hu
  simp only [LCs,List.mem_cons] at hu
  rcases hu with rfl | rfl | rfl | hu
  · rfl
  · rfl
  · rfl
  · exact ih u hu
theorem LCs_at (xs:List Limits) (i:Nat) (h:i<xs.length):(LCs xs)[i*3]?=some (.int .i64 (xs.getD i Limits.z).min)∧(LCs xs)[i*3+1]?=some (.int .i64 (xs.getD i Limits.z).max)∧(LCs xs)[i*3+2]?=some (.bool (xs.getD i Limits.z).has):=by
 induction xs generalizing i with
 | nil=>simp at h
 | cons l ls ih =>
  cases i with
  | zero=>simp [LCs]
  | succ i =>
   have:=ih i (by simpa using h)
   have e:(i+1)*3=i*3+1+1+1:=by omega
   rw [e]
   simpa [LCs,List.getElem?_cons_succ] using this
theorem Limits.Ls.src {B:Nat} {w:World} {a0:Option Addr} {xs:List Limits} (h:Limits.Ls B w a0 xs):SrcC w a0 (LCs xs):=by
 rcases h with h | ⟨b,o,rfl,_,hc⟩
 · subst h
   cases a0 with
   | none=>exact .inl ⟨rfl,rfl⟩
   | some ad=>exact .inr ⟨ad,rfl,fun j u hu=>by simp [LCs] at hu⟩
 · refine .inr ⟨_,rfl,fun j u hu=>?_⟩
   have hj:j<xs.length*3:=by
    rw [← LCs_len]
    rcases Nat.lt_or_ge j (LCs xs).length with h | h
    · exact h
    · simp [List.getElem?_eq_none h] at hu
   have hi:j / 3<xs.length:=by omega
   have hadd:(⟨b,o,none⟩:Addr).add j=⟨b,o+j,none⟩:=by unfold Addr.add;split <;> simp_all
   rw [hadd]
   obtain ⟨h0,h1,h2⟩:=LCs_at xs (j / 3) hi
   obtain ⟨⟨c0,c1,c2⟩,_⟩:=hc (j / 3) hi
   rcases (by omega:j=j / 3*3∨j=j / 3*3+1∨j=j / 3*3+2) with e | e | e
   · rw [e,h0] at hu
     rw [e]
     rw [← hu]
     exact c0
   · rw [e,h1] at hu
     rw [e]
     rw [← hu]
     exact c1
   · rw [e,h2] at hu
     rw [e]
     rw [← hu]
     exact c2
theorem own_lims {w:World} {B:Nat} {e:TypeId} {v:Value} {xs:List Limits} (h:w.ownsRow B e 3 v xs.length (LCs xs)):∃ a c,v=.slice a xs.length c∧Limits.Ls 0 w a xs:=by
 rcases h.2 with ⟨rfl,h0⟩ | ⟨g,cap,cur,rfl,_,_,_⟩
 · exact ⟨none,0,by rw [h0],.inl (List.length_eq_zero_iff.1 h0)⟩
 · refine ⟨_,cap,rfl,.inr ⟨g,0,rfl,Nat.zero_le _,fun i hi=>?_⟩⟩
   obtain ⟨h0,h1,h2⟩:=LCs_at xs i hi
   refine ⟨⟨?_,?_,?_⟩,trivial⟩
   · rw [Nat.zero_add,h.cellAt _ (by omega)];exact h0
   · rw [Nat.zero_add,h.cellAt _ (by omega)];exact h1
   · rw [Nat.zero_add,h.cellAt _ (by omega)];exact h2
end Go.Proofs.YtdbmolambolmgaaGreat
