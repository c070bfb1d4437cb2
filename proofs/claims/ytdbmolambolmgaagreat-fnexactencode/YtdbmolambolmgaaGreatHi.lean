import Derived.Test.YtdbmolambolmgaaGreatGz
import Derived.Test.YtdbmolambolmgaaGreatHk
import Derived.Test.YtdbmolambolmgaaGreatHb
import Derived.Test.YtdbmolambolmgaaGreatGm
import Derived.Test.YtdbmolambolmgaaGreatHn
set_option linter.all false
set_option maxHeartbeats 16000000
set_option maxRecDepth 100000
namespace Go.Proofs.YtdbmolambolmgaaGreat
open Go.RowKit Go.Sort
theorem all_getD {α:Type} {p:α→Bool} {l:List α} (h:l.all p=true) (z:α) (i:Nat) (hi:i<l.length):p (l.getD i z)=true:=by
 rw [List.all_eq_true] at h
 apply h
 simp [List.getD,hi]
theorem goM_all:∀ (xs:List In) (n:List Bool),goM n xs=true→xs.all gd=true
 | [],n,_=>rfl
 | x::xs,n,h=>by
  cases hg:gd x with
  | false=>simp [goM,hg] at h
  | true =>
   cases hs:stepM n x.op with
   | none=>simp [goM,hg,hs] at h
   | some n' =>
    simp only [goM,hg,hs,if_true] at h
    rw [List.all_cons,hg,goM_all xs n' h]
    rfl
def InsTop (xs:List In):Prop:=∀ i,(xs.getD i I0).v≤18446744073709551615
def Mod.Top (x:Mod):Prop:=(∀ i,i<x.globs.length→InsTop (x.globs.getD i Glob.z).ini)∧(∀ i,i<x.elems.length→InsTop (x.elems.getD i Ele.z).off)∧(∀ i,i<x.codes.length→InsTop (x.codes.getD i Cod.z).body)∧(∀ i,i<x.datas.length→InsTop (x.datas.getD i Dat.z).off)
theorem lg_of {xs:List In} (hc:closedM xs=true) (hl:xs.length≤1048576∧∀ i,i<xs.length→In.LB 1048576 (xs.getD i I0)) (hp:InsPos xs) (ht:InsTop xs):LG xs :=
 ⟨hl.1,fun i hi=>⟨all_getD (goM_all xs _ hc) I0 i hi,hp i,ht i,hl.2 i hi⟩⟩
theorem locs_n:∀ (l:List Grp) (n:Int),locsM l n=true→∀ j,j<l.length→0≤(l.getD j Grp.z).n∧(l.getD j Grp.z).n≤4294967295
 | [],_,_,j,hj=>by simp at hj
 | g::gs,n,h,j,hj=>by
  simp only [locsM,Bool.and_eq_true,grpB] at h
  cases j with
  | zero=>exact (u32B_iff _).1 h.1.1.1
  | succ j=>exact locs_n gs _ h.2 j (by simpa using hj)
theorem gd_of {x:Mod} (h:wfB x=true) (hl:Mod.LB 1048576 x) (hp:x.Pos) (ht:x.Top):x.Gd:=by
 simp only [wfB,Bool.and_eq_true] at h
 obtain ⟨a1,a2,a3,a4,a5,a6,a7,a8,a9,a10,a11,-,-⟩:=h
 obtain ⟨l1,l2,l3,l4,l5,l6,l7,l8,l9,l10,l11⟩:=hl
 obtain ⟨p1,p2,p3,p4⟩:=hp
 obtain ⟨t1,t2,t3,t4⟩:=ht
 refine ⟨l1,⟨l2.1,fun i hi=>?_⟩,⟨l3,fun i hi=>(u32B_iff _).1 (all_getD a3 0 i hi)⟩,⟨l4.1,fun i hi=>all_getD a4 _ i hi⟩,⟨l5.1,fun i hi=>all_getD a5 _ i hi⟩,⟨l6.1,fun i hi=>?_⟩,⟨l7.1,fun i hi=>?_⟩,?_,⟨l8.1,fun i hi=>?_⟩,⟨l9.1,fun i hi=>?_⟩,⟨l10.1,fun i hi=>?_⟩⟩
 · have e:=all_getD a2 Imp.z i hi
   simp only [impB,Bool.and_eq_true] at e
   exact e.2
 · have e:=all_getD a6 Glob.z i hi
   simp only [globB,Bool.and_eq_true] at e
   exact lg_of e.2 (l6.2 i hi) (p1 i hi) (t1 i hi)
 · have e:=all_getD a7 Exp.z i hi
   simp only [expB,Bool.and_eq_true] at e
   exact (u32B_iff _).1 e.2
 · simp only [stB,Bool.and_eq_true] at a8
   exact (u32B_iff _).1 a8.1
 · have e:=all_getD a9 Ele.z i hi
   simp only [eleB,Bool.and_eq_true] at e
   exact ⟨lg_of e.1 (l8.2 i hi).1 (p2 i hi) (t2 i hi),(l8.2 i hi).2,fun j hj=>(u32B_iff _).1 (all_getD e.2 0 j hj)⟩
 · have e:=all_getD a10 Cod.z i hi
   simp only [codB,Bool.and_eq_true] at e
   exact ⟨(l9.2 i hi).1.1,locs_n _ _ e.1,lg_of e.2 (l9.2 i hi).2 (p3 i hi) (t3 i hi)⟩
 · have e:=all_getD a11 Dat.z i hi
   exact lg_of e (l10.2 i hi).1 (p4 i hi) (t4 i hi)
open Go.RowKit Go.Sort
theorem cat_le {α:Type} (f:α→List Int) (sz:α→Nat) (h:∀ x,(f x).length≤64*(1+sz x)) (l:List α):(catE f l).length≤64*(l.length+(l.map sz).sum):=by
 induction l with
 | nil=>simp [catE]
 | cons x xs ih =>
  have:=h x
  simp only [catE,List.map_cons,List.flatten_cons,List.length_append,List.sum_cons,List.length_cons] at ih⊢
  omega
theorem encI_le (x:In):(encI x).length≤64*(1+In.sz x):=by
 simp only [encI,encF,List.length_cons,In.sz]
 have h1:=(lebU_len 9 x.a).2
 have h2:=(lebU_len 9 x.b).2
 have h3:=(lebU_len 9 x.l.length).2
 have h4:=nums_len x.l
 have h5:=(lebS_len 9 (s32 x.v)).2
 have h6:=(lebS_len 9 (wrap64 x.v)).2
 have h7:=fx_len 4 x.v
 have h8:=fx_len 8 x.v
 repeat' split
 all_goals (try simp only [List.length_append,List.length_cons,List.length_nil])
 all_goals omega
theorem szE_le (ys:List Int):(szE ys).length≤10+ys.length:=by
 have:=(lebU_len 9 ys.length).2
 rw [szE,List.length_append];omega
theorem nmE_le (s:ByteArray):(nmE s).length≤10+s.size:=by
 have:=szE_le (bytesOf s)
 rw [bytes_len] at this
 exact this
theorem flB_le (b:Bool):(flB b).length≤1:=by cases b <;> simp [flB]
theorem limE_le (l:Limits):(limE l).length≤21:=by
 have h1:=(lebU_len 9 l.min).2
 have h2:=(lebU_len 9 l.max).2
 have h3:=flB_le l.has
 simp only [limE,List.length_append]
 split
 · omega
 · simp only [List.length_nil];omega
theorem gtE_le (g:GType):(gtE g).length≤2:=by
 have:=flB_le g.mu
 simp only [gtE,List.length_append,List.length_cons,List.length_nil];omega
theorem ftE_le (x:FType):(ftE x).length≤64*(1+FType.sz x):=by
 have h1:=(lebU_len 9 x.ps.length).2
 have h2:=(lebU_len 9 x.rs.length).2
 simp only [ftE,FType.sz,onesE,List.length_append,List.length_cons,List.length_nil,List.length_map];omega
theorem impE_le (x:Imp):(impE x).length≤64*(1+Imp.sz x):=by
 have h1:=nmE_le x.mod
 have h2:=nmE_le x.nm
 have h3:=(lebU_len 9 x.ty).2
 have h4:=limE_le x.lim
 have h5:=gtE_le x.gl
 simp only [impE,Imp.sz,List.length_append,List.length_cons,List.length_nil]
 repeat' split
 all_goals (try simp only [List.length_append,List.length_cons,List.length_nil])
 all_goals omega
theorem globE_le (x:Glob):(globE x).length≤64*(1+Glob.sz x):=by
 have h1:=cat_le encI In.sz encI_le x.ini
 have h2:=flB_le x.ty.mu
 simp only [globE,Glob.sz,List.length_append,List.length_cons,List.length_nil];omega
theorem expE_le (x:Exp):(expE x).length≤64*(1+Exp.sz x):=by
 have h1:=nmE_le x.nm
 have h2:=(lebU_len 9 x.ix).2
 simp only [expE,Exp.sz,List.length_append,List.length_cons,List.length_nil];omega
theorem eleE_le (x:Ele):(eleE x).length≤64*(1+Ele.sz x):=by
 have h1:=cat_le encI In.sz encI_le x.off
 have h2:=(lebU_len 9 x.fs.length).2
 have h3:=nums_len x.fs
 simp only [eleE,Ele.sz,List.length_append,List.length_cons,List.length_nil];omega
theorem grp_le:∀ l:List Grp,(catE grpE l).length≤11*l.length
 | []=>by simp [catE]
 | g::l=>by
  have h:=grp_le l
  have h1:=(lebU_len 9 g.n).2
  simp only [catE,grpE,List.map_cons,List.flatten_cons,List.length_append,List.length_cons,List.length_nil] at h⊢
  omega
theorem codE_le (x:Cod):(codE x).length≤64*(1+Cod.sz x):=by
 have h1:=cat_le encI In.sz encI_le x.body
 have h2:=grp_le x.locs
 have h3:=(lebU_len 9 x.locs.length).2
 have h4:=szE_le (codI x)
 simp only [codE]
 simp only [codI,Cod.sz,List.length_append,List.length_cons,List.length_nil] at h4⊢
 omega
theorem datE_le (x:Dat):(datE x).length≤64*(1+Dat.sz x):=by
 have h1:=cat_le encI In.sz encI_le x.off
 have h2:=szE_le x.bs
 simp only [datE,Dat.sz,List.length_append,List.length_cons,List.length_nil];omega
theorem cusE_le (x:Cus):(cusE x).length≤64*(1+Cus.sz x):=by
 have h1:=szE_le (cusI x)
 have h2:=nmE_le x.nm
 simp only [cusI,List.length_append] at h1
 simp only [cusE,cusI,Cus.sz,List.length_append,List.length_cons,List.length_nil];omega
theorem lims_le (f:Limits→List Int) (h:∀ l,(f l).length≤22):∀ l:List Limits,(catE f l).length≤22*l.length
 | []=>by simp [catE]
 | g::l=>by
  have h0:=lims_le f h l
  have h1:=h g
  simp only [catE,List.map_cons,List.flatten_cons,List.length_append,List.length_cons] at h0⊢
  omega
theorem cnt_le (x:Mod) (n:Int):(cntE x n).length≤10+64*x.sz:=by
 have a1:=cat_le ftE FType.sz ftE_le x.types
 have a2:=cat_le impE Imp.sz impE_le x.imps
 have a3:=nums_len x.funcs
 have a4:=lims_le tabE (fun l=>by have:=limE_le l;simp only [tabE,List.length_append,List.length_cons,List.length_nil];omega) x.tabs
 have a5:=lims_le limE (fun l=>by have:=limE_le l;omega) x.mems
 have a6:=cat_le globE Glob.sz globE_le x.globs
 have a7:=cat_le expE Exp.sz expE_le x.exps
 have a9:=cat_le eleE Ele.sz eleE_le x.elems
 have a10:=cat_le codE Cod.sz codE_le x.codes
 have a11:=cat_le datE Dat.sz datE_le x.datas
 have L:∀ y:Int,(lebU 9 y).length≤10:=fun y=>(lebU_len 9 y).2
 have l1:=L x.types.length
 have l2:=L x.imps.length
 have l3:=L x.funcs.length
 have l4:=L x.tabs.length
 have l5:=L x.mems.length
 have l6:=L x.globs.length
 have l7:=L x.exps.length
 have l8:=L x.start
 have l9:=L x.elems.length
 have l10:=L x.codes.length
 have l11:=L x.datas.length
 unfold cntE Mod.sz
 repeat' split
 all_goals (try simp only [List.length_append,List.length_nil])
 all_goals omega
theorem aft_le (n:Int):∀ l:List Cus,(catE cusE (aftL n l)).length≤64*(l.length+(l.map Cus.sz).sum)
 | []=>by simp [catE,aftL]
 | c::l=>by
  have h:=aft_le n l
  have h1:=cusE_le c
  simp only [aftL,List.filter_cons,List.map_cons,List.sum_cons,List.length_cons] at h⊢
  split
  · simp only [catE,List.map_cons,List.flatten_cons,List.length_append] at h⊢;omega
  · omega
theorem part_le (x:Mod) (n:Int):(partE x n).length≤21+128*x.sz:=by
 have h1:=cnt_le x n
 have h2:=szE_le (cntE x n)
 have h3:=aft_le n x.customs
 have h4:x.customs.length+(x.customs.map Cus.sz).sum≤x.sz:=by unfold Mod.sz;omega
 simp only [partE,secE,List.length_append]
 split
 · simp only [List.length_append,List.length_cons,List.length_nil];omega
 · simp only [List.length_nil];omega
theorem pr_le (x:Mod):∀ k:Nat,(prE x k).length≤8+k*(21+128*x.sz)
 | 0=>by simp [prE,headE]
 | k+1=>by
  have h:=pr_le x k
  have h1:=part_le x (k:Int)
  rw [prE,List.length_append,Nat.add_mul]
  omega
theorem pr_bound (x:Mod) (h:x.sz≤1048576):(prE x 12).length≤400000000000:=by
 have:=pr_le x 12
 omega
end Go.Proofs.YtdbmolambolmgaaGreat
